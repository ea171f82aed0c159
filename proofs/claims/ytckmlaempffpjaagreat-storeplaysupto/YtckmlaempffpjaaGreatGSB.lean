/-
 strings.Builder: what lies in memory.
-/
import Derived.Test.YtckmlaempffpjaaGreatGSM
import Derived.Lib.Builder
import Derived.Lib.UnsafeStr
import Derived.Test.YtckmlaempffpjaaGreatS6
import Derived.Test.YtckmlaempffpjaaGreatWA
namespace Go.Proofs.YtckmlaempffpjaaGreat
set_option maxRecDepth 100000
set_option maxHeartbeats 1000000
open Go.RowKit Go.Proofs.Tryz
theorem sizeB : (prog.info? 147).map (·.size) = some 2 := by kernel_rfl
theorem liesB : liesAt prog prog.depth 147 (2 / prog.cellsOf 147) 0 147 1 = true := by kernel_rfl
theorem cellsB : prog.cellsOf 5 = 1 := by kernel_rfl
theorem check_used (b : Nat) (w : World) (h0 : w.cell? ⟨b, 0, none⟩ = some (pq b)) :
  Calls prog 133 #[pq b] w fun e w' => e = .returned (.tuple #[]) ∧ w' = w := by
 obtain ⟨j, hj, _⟩ := Option.map_eq_some_iff.1 sizeB
 go_enter Tryz.func133, Tryz.ntmps133
 go_wp2
 rw [Lib.run_neq_ptr_same w _ underlying145 hj]
 go_wp2
 go_end0
 exact ⟨rfl, rfl⟩
theorem check_fresh (b : Nat) (w : World) (h0 : w.cell? ⟨b, 0, none⟩ = some (.pointer none)) (hsh : w.shape? b = some (147, 2)) (hfz : w.frozen? ⟨b, 0, none⟩ = false) :
  Calls prog 133 #[pq b] w fun e w' => e = .returned (.tuple #[]) ∧ w' = w.setCell ⟨b, 0, none⟩ (pq b) := by
 obtain ⟨j, hj, hjs⟩ := Option.map_eq_some_iff.1 sizeB
 go_enter Tryz.func133, Tryz.ntmps133
 go_wp2
 rw [Lib.run_to_unsafe w ⟨b, 0, none⟩ underlying145 underlying195 hj (by rw [hjs]; decide) hsh (Nat.zero_lt_succ 1)]
 simp only [Result.andThen]
 rw [Oper.upon_value]
 go_wp2
 rw [run_callFunc_extern Tryz.func149 (by kernel_rfl) (by kernel_rfl) (by kernel_rfl) (e := Extern.AbiNoEscape.same) (by kernel_rfl)];rw [Lib.run_noEscape]
 simp only [Result.andThen]
 rw [Oper.upon_value]
 go_wp2
 rw [Lib.run_from_unsafe w ⟨b, 0, none⟩ underlying195 underlying145 hj hsh liesB]
 simp only [Result.andThen]
 rw [Oper.upon_value]
 go_wp2
 go_end0
 exact ⟨rfl, rfl⟩
theorem Blk.shape {w : World} {q : Nat} {t : TypeId} {c : Array Value} (h : Blk w q t c) : w.shape? q = some (t, c.size) := by
 obtain ⟨f, hf, _⟩ := h
 simp [World.shape?, hf]
def BuP (b : Nat) (p : Value) : Prop := p = .pointer none ∨ p = pt b
theorem check_any {z : Base} {L : BL} {w : World} {b : Nat} {p v : Value} (hp : BuP b p) (H : HA z ((b, 147, #[p, v]) :: L) w) :
  Calls prog 133 #[pt b] w fun e w' => e = .returned (.tuple #[]) ∧ HA z ((b, 147, #[pt b, v]) :: L) w' := by
 have hB : Blk w b 147 #[p, v] := H.get 0 rfl
 rcases hp with rfl | rfl
 ·refine (check_fresh b w ((hB.cell 0).trans rfl) hB.shape (hB.free 0 (by simp))).mono ?_;rintro e w' ⟨rfl, rfl⟩;exact ⟨rfl, H.put 0 rfl 0 (pq b)⟩
 ·refine (check_used b w ((hB.cell 0).trans rfl)).mono ?_;rintro e w' ⟨rfl, rfl⟩;exact ⟨rfl, H⟩
section
variable {ρ : Operand → Value} {x y : Operand} {w : World} {dst : Option Tmp} {ty : TypeId} {pos : String} {aft : Array Edge} {gd : Option (Nat × Bool)}
theorem run_sdata {a : Addr} {n c : Nat} (hx : ρ x = .slice (some a) n c) (hc : c ≠ 0) : (execOp ρ ⟨dst, .call { callee := .builtin .unsafeSliceData, args := #[x], argTypes := #[62] }, ty, pos, aft, gd⟩).run prog w = .ok (.value (.pointer (some a))) w := by
 unfold execOp
 simp only [resolve, invoke, builtin, Sem.run_bind, Sem.run_pure, Result.andThen_ok, List.map_toArray, List.map_cons, List.map_nil, hx, Lib.run_unsafeSliceData_row w #[62] ty a n c hc]
theorem run_sdata0 (hx : ρ x = .slice none 0 0) : (execOp ρ ⟨dst, .call { callee := .builtin .unsafeSliceData, args := #[x], argTypes := #[62] }, ty, pos, aft, gd⟩).run prog w = .ok (.value (.pointer none)) w := by
 unfold execOp
 simp only [resolve, invoke, builtin, Sem.run_bind, Sem.run_pure, Result.andThen_ok, List.map_toArray, List.map_cons, List.map_nil, hx, Lib.run_unsafeSliceData_nil]
theorem run_ustr0 (hx : ρ x = .pointer none) (hy : ρ y = i6 0) : (execOp ρ ⟨dst, .call { callee := .builtin .unsafeString, args := #[x, y], argTypes := #[180, 3] }, ty, pos, aft, gd⟩).run prog w = .ok (.value (.string { data := #[] })) w := by
 unfold execOp
 simp only [resolve, invoke, builtin, Sem.run_bind, Sem.run_pure, Result.andThen_ok, List.map_toArray, List.map_cons, List.map_nil, hx, hy, iN]
 have := Lib.run_unsafeString_none (P := prog) w 180 3 ty none;rw [show ((0 : Nat) : Int) = 0 from rfl, this]
 rfl
theorem run_ustr {g cap : Nat} {cur l : List UInt8} (hB : Blk w g 5 (bc cur)) (h3 : cur.length = cap) (h1 : l.length ≤ cap) (h4 : cur.take l.length = l) (h0 : l ≠ []) (hl : l.length ≤ 9223372036854775807) (hx : ρ x = pq g) (hy : ρ y = i6 l.length) : (execOp ρ ⟨dst, .call { callee := .builtin .unsafeString, args := #[x, y], argTypes := #[180, 3] }, ty, pos, aft, gd⟩).run prog w = .ok (.value (.string ⟨l.toArray⟩)) (w.freeze ⟨g, 0, none⟩ l.length) := by
 have := Lib.run_unsafeString_row (P := prog) w 180 3 ty 5 underlying180 cellsB g cap (by rw [hB.shape, bc_size, h3]) l h0 h1 hl (fun j u hu => by
  have hadd : (⟨g, 0, none⟩ : Addr).add j = ⟨g, j, none⟩ := by unfold Addr.add; split <;> simp_all
  rw [hadd, hB.cell j];have hj : j < l.length := (List.getElem?_eq_some_iff.1 hu).1;have e : (cur.take l.length)[j]? = l[j]? := by rw [h4]
  rw [List.getElem?_take_of_lt hj] at e
  simp only [bc, List.getElem?_toArray, List.getElem?_map, e, hu]
  rfl)
 unfold execOp
 simp only [resolve, invoke, builtin, Sem.run_bind, Sem.run_pure, Result.andThen_ok, List.map_toArray, List.map_cons, List.map_nil, hx, hy, iN, this]
end
theorem HA.frz {z : Base} {L : BL} {w : World} {g t : Nat} {c : Array Value} (H : HA z L w) (hg : (g, t, c) ∈ L) (n : Nat) : HA z [] (w.freeze ⟨g, 0, none⟩ n) := by
 have hb := H.blk _ hg;have ho : z.w.heap.size ≤ g := H.own _ hg;refine ⟨⟨Lib.below_freeze (p := ⟨g, 0, none⟩) H.old.old ho n, fun m hm => ?_, H.old.mown, H.old.mnd⟩, fun _ hx => (by cases hx), fun _ hx => (by cases hx), List.nodup_nil⟩;have hmm := H.old.maps m hm;have hne : m.1 ≠ g := fun e => by
  obtain ⟨f, hf, _⟩ := hb;rw [e] at hmm;exact MO.nc m.2 _ _ _ (Option.some.inj (hmm.symm.trans hf))
 unfold World.freeze
 split
 ·exact hmm
 ·simp only [Array.getElem?_modify]
  rw [if_neg (Ne.symm hne)];exact hmm
end Go.Proofs.YtckmlaempffpjaaGreat
namespace Go.Proofs.YtckmlaempffpjaaGreat
set_option linter.unusedVariables false
set_option maxRecDepth 100000
set_option maxHeartbeats 2000000
open Go.RowKit Go.Proofs.Tryz
theorem run_appB {ρ : Operand → Value} {x y : Operand} {w w' : World} {dst : Option Tmp} {ty : TypeId} {pos : String} {aft : Array Edge} {gd : Option (Nat × Bool)} {v v' : Value} {s : ByteArray} (hx : ρ x = v) (hy : ρ y = .string s) (hrun : (Builtin.append_ #[62, 9] ty #[v, .string s]).run prog w = .ok v' w') :
  (execOp ρ ⟨dst, .call { callee := .builtin .append, args := #[x, y], argTypes := #[62, 9] }, ty, pos, aft, gd⟩).run prog w = .ok (.value v') w' := by
 unfold execOp
 simp only [resolve, invoke, builtin, Sem.run_bind, Sem.run_pure, Result.andThen_ok, List.map_toArray, List.map_cons, List.map_nil, hx, hy, hrun]
theorem bwrite_any {z : Base} {L Lr : BL} {w : World} {b : Nat} {p v : Value} {l : List UInt8} (hp : BuP b p) (hR : RowB v l Lr) (H0 : HA z ((b, 147, #[p, v]) :: (Lr ++ L)) w) (s : ByteArray) (hlen : l.length + s.size ≤ 1099511627776) :
  Calls prog 98 #[pt b, .string s] w fun e w' => e = .returned (.tuple #[i6 s.size, .nilIface]) ∧ ∃ v' Lr', RowB v' (l ++ bl s) Lr' ∧ HA z ((b, 147, #[pt b, v']) :: (Lr' ++ L)) w' := by
 obtain ⟨p2, c2, hv2⟩ := hR.form;subst hv2
 go_enter Tryz.func98, Tryz.ntmps98
 refine zsr (zv (zv (znt (zsr (zv ?_)))));refine wl_callx enter133 #[pq b] (check_any hp H0) ?_;rintro _ w1 ⟨rfl, hck⟩;refine ⟨_, rfl, ?_⟩;refine znt (zsr (zv (zv (zv (zv ?_)))));refine zwu (v := .slice p2 l.length c2) (run_load1 isAgg62 (((hck.get 0 rfl).cell 1).trans rfl)) ?_;refine zv ?_;obtain ⟨v4, w4, Lr4, hrun, hR4, h2⟩ := RowB.apps (L := (b, 147, #[pt b, .slice p2 l.length c2]) :: L) hR (hck.perm List.perm_middle.symm) s 62 hlen;refine wl_any (by kernel_rfl) (run_appB (by kernel_rfl) (by kernel_rfl) hrun) ?_;obtain ⟨p4, c4, hv4⟩ := hR4.form;subst hv4;have h3 : HA z ((b, 147, #[pt b, .slice p2 l.length c2]) :: (Lr4 ++ L)) w4 := h2.perm List.perm_middle;refine zv (zv ?_);refine wl_putv (v := .slice p4 (l ++ bl s).length c4) h3 0 rfl 1 (by show 1 < 2; decide) sizeOf62 ?_;intro w4 h5;refine znt (zsr (zv ?_));refine zwu (run_len (s := s)) ?_;refine zv (zv (znt ?_));refine wp_ret ?_
 repeat first|refine zrt ?_|refine block_ret ?_
 exact zb ⟨rfl, _, Lr4, hR4, h5⟩
theorem bstr_some {z : Base} {L : BL} {w : World} {b g cap : Nat} {p : Value} {l cur : List UInt8} (h0 : l ≠ []) (hl : l.length ≤ 9223372036854775807) (k1 : l.length ≤ cap) (k3 : cur.length = cap) (k4 : cur.take l.length = l) (hc0 : cap ≠ 0) (H0 : HA z ((b, 147, #[p, .slice (some ⟨g, 0, none⟩) l.length cap]) :: (g, 5, bc cur) :: L) w) :
  Calls prog 99 #[pt b] w fun e w' => e = .returned (.string ⟨l.toArray⟩) ∧ HA z [] w' := by
 go_enter Tryz.func99, Tryz.ntmps99
 refine zsr (zv (znt (wp_seq ?_)));refine zxr (HA z ((b, 147, #[p, .slice (some ⟨g, 0, none⟩) l.length cap]) :: (g, 5, bc cur) :: L)) (fun Z0 AQ w' => AQ = pts Z0 [(2, .string ⟨l.toArray⟩), (3, pt b), (4, pt b), (5, .pointer (some ⟨b, 1, none⟩)), (6, .slice (some ⟨g, 0, none⟩) l.length cap), (7, pt g), (8, pt b), (9, pt b), (10, .pointer (some ⟨b, 1, none⟩)), (11, .slice (some ⟨g, 0, none⟩) l.length cap), (12, i6 l.length), (13, .string ⟨l.toArray⟩)] ∧ HA z [] w') 12 (H0.drew) ?_ ?_
 ·have h1 := H0.drew;refine zxp 0 rfl ?_;refine zxp 1 rfl ?_;refine zxp 2 rfl ?_;refine wx_val (i := 3) (.slice (some ⟨g, 0, none⟩) l.length cap) rfl rfl (fun w' h' => run_load1 isAgg62 (((h'.get 0 rfl).cell 1).trans rfl)) ?_;refine wx_pure (i := 4) (pq g) rfl rfl (hr := (fun _ => (run_sdata (a := ⟨g, 0, none⟩) (n := l.length) (c := cap) (by kernel_rfl) hc0))) ?_;refine zxp 5 rfl ?_;refine zxp 6 rfl ?_;refine zxp 7 rfl ?_;refine wx_val (i := 8) (.slice (some ⟨g, 0, none⟩) l.length cap) rfl rfl (fun w' h' => run_load1 isAgg62 (((h'.get 0 rfl).cell 1).trans rfl)) ?_;refine zxp 9 rfl ?_;refine wx_one 10 ?_;refine ex_do rfl (by kernel_rfl) (by kernel_rfl) h1 fun w2 h3 => ⟨_, _, run_ustr (h3.get 1 rfl) k3 k1 k4 h0 hl (by kernel_rfl) (by kernel_rfl), HA z [], h3.frz (g := g) (t := 5) (c := bc cur) (by simp) _, ?_⟩
  have h4 := h3.frz (g := g) (t := 5) (c := bc cur) (by simp) l.length;refine zxp 11 rfl ?_;refine wx_end fun w5 hbx _ => ?_
  have h6 := HA.keep _ _ h4 hbx;exact ⟨by kernel_rfl, h6⟩
 ·rintro _ w7 ⟨rfl, h8⟩;refine zt ?_;refine wp_ret ?_
  repeat first|refine zrt ?_|refine block_ret ?_
  exact zb ⟨rfl, h8.sub (List.nil_sublist _)⟩
theorem bstr_none {z : Base} {L : BL} {w : World} {b : Nat} {p : Value} (H0 : HA z ((b, 147, #[p, .slice none 0 0]) :: L) w) :
  Calls prog 99 #[pt b] w fun e w' => e = .returned (.string { data := #[] }) ∧ HA z [] w' := by
 go_enter Tryz.func99, Tryz.ntmps99
 refine zsr (zv (znt (wp_seq ?_)));refine zrs ⟨(pt b :: un :: .string ({ data := #[] }) :: pt b :: pt b :: .pointer (some ⟨b, 1, none⟩) :: .slice none 0 0 :: .pointer none :: pt b :: pt b :: .pointer (some ⟨b, 1, none⟩) :: .slice none 0 0 :: i6 0 :: .string ({ data := #[] }) :: List.replicate 0 un).toArray, []⟩ (HA z ((b, 147, #[p, .slice none 0 0]) :: L)) H0.drew ?_ ?_
 ·refine zsp (pq b) ?_;refine zsp (pq b) ?_;refine zsp (.pointer (some ⟨b, 1, none⟩)) ?_;refine zst (v := .slice none 0 0) (fun w' h' => run_load1 isAgg62 (((h'.get 0 rfl).cell 1).trans rfl)) ?_;refine zst (v := .pointer none) (fun _ _ => (run_sdata0 (by kernel_rfl))) ?_;refine zsp (pq b) ?_;refine zsp (pq b) ?_;refine zsp (.pointer (some ⟨b, 1, none⟩)) ?_;refine zst (v := .slice none 0 0) (fun w' h' => run_load1 isAgg62 (((h'.get 0 rfl).cell 1).trans rfl)) ?_;refine zsp (i6 0) ?_;refine zst (v := .string ({ data := #[] })) (fun _ _ => (run_ustr0 (by kernel_rfl) (by kernel_rfl))) ?_;refine zsp (.string ({ data := #[] })) ?_;exact AllSure.nil
 intro w1 h2;refine zt ?_;refine wp_ret ?_
 repeat first|refine zrt ?_|refine block_ret ?_
 exact zb ⟨rfl, h2.sub (List.nil_sublist _)⟩
theorem bstr_any {z : Base} {L Lr : BL} {w : World} {b : Nat} {p v : Value} {l : List UInt8} (hR : RowB v l Lr) (hl : l.length ≤ 9223372036854775807) (hne : l = [] → v = .slice none 0 0) (H : HA z ((b, 147, #[p, v]) :: (Lr ++ L)) w) :
  Calls prog 99 #[pt b] w fun e w' => e = .returned (.string ⟨l.toArray⟩) ∧ HA z [] w' := by
 rcases hR with ⟨rfl, rfl, rfl⟩ | ⟨g, cap, cur, rfl, rfl, k1, k2, k3, k4⟩
 ·exact bstr_none H
 ·by_cases h0 : l = []
  ·have := hne h0
   cases this
  ·have : l.length ≠ 0 := fun e => h0 (List.length_eq_zero_iff.1 e)
   exact bstr_some h0 hl k1 k3 k4 (by omega) H
def ptB (s : ByteArray) : List UInt8 := Wi.be s.size 4 ++ bl s
def rowB (x : Rw) : List UInt8 := ptB x.k ++ ptB x.v
def bodyB (ps : List Rw) (ds : List ByteArray) : List UInt8 := Wi.be ps.length 2 ++ ps.flatMap rowB ++ Wi.be ds.length 2 ++ ds.flatMap ptB
def frameB (ps : List Rw) (ds : List ByteArray) : List UInt8 := Wi.be (bodyB ps ds).length 4 ++ bodyB ps ds
theorem perm_bld (A B Lr : BL) (b : Nat × TypeId × Array Value) : (A ++ b :: (B ++ Lr)).Perm (b :: (Lr ++ (A ++ B))) := by
 refine List.perm_middle.trans (List.Perm.cons _ ?_);rw [← List.append_assoc];exact List.perm_append_comm
theorem bl_mk (l : List UInt8) : bl ⟨l.toArray⟩ = l := by simp [bl]
theorem flat_take {α : Type} {l : List α} {k : Nat} {x : α} (f : α → List UInt8) (h : l[k]? = some x) : (l.take (k + 1)).flatMap f = (l.take k).flatMap f ++ f x := by
 rw [take_snoc h, List.flatMap_append]
 simp
theorem flat_le {α : Type} (l : List α) (k : Nat) (f : α → List UInt8) : ((l.take k).flatMap f).length ≤ (l.flatMap f).length := by
 conv => rhs; rw [← List.take_append_drop k l]
 rw [List.flatMap_append, List.length_append]
 omega
theorem ptB_len (s : ByteArray) : (ptB s).length = 4 + s.size := by rw [ptB, List.length_append, Wi.be_length, bl_len]
theorem PutT (s : ByteArray) (hs : s.size ≤ 1000000000) (w : World) : Calls prog 104 #[.string { data := #[] }, .string s] w fun e w' => e = .returned (.string ⟨(ptB s).toArray⟩) ∧ Below w.heap.size w w' := by
 have h := Wi.PutText_any w { data := #[] } s (by decide) hs;refine h.mono ?_;rintro e w' ⟨rfl, hb⟩;refine ⟨?_, hb⟩
 show Ending.returned (.string ⟨([] ++ (Wi.be s.data.toList.length 4 ++ s.data.toList)).toArray⟩) = _
 rw [List.nil_append, show s.data.toList.length = s.size by rw [← bl_len]; rfl]
 rfl
theorem PutN (n m : Nat) (h1 : 1 ≤ m) (h8 : m ≤ 8) (w : World) : Calls prog 103 #[.string { data := #[] }, i6 m, iN .u64 n] w fun e w' => e = .returned (.string ⟨(Wi.be n m).toArray⟩) ∧ Below w.heap.size w w' := by
 have h := Wi.PutNumber_any w { data := #[] } (m : Int) n (by decide);rw [Wi.wd, if_neg (by omega), if_neg (by omega), Int.toNat_natCast] at h;exact h
set_option linter.unusedSimpArgs false in
theorem frame_any {po do_ : Option Addr} {pc dc : Nat} {ps : List Rw} {ds : List ByteArray} {w : World} (hP : RowsAt w po ps) (hD : KeysAt w do_ ds) (hpl : ps.length ≤ 1000000000) (hdl : ds.length ≤ 1000000000) (hb : (bodyB ps ds).length ≤ 1000000000) :
  Calls prog 55 #[.agg #[.slice po ps.length pc, .slice do_ ds.length dc]] w fun e w' => e = .returned (.string ⟨(frameB ps ds).toArray⟩) ∧ Below w.heap.size w w' := by
 have H0 := HA.start w;have hbl : (Wi.be ps.length 2).length + (ps.flatMap rowB).length + (Wi.be ds.length 2).length + (ds.flatMap ptB).length ≤ 1000000000 := by have h := hb; simp only [bodyB, List.length_append] at h; omega
 rw [Wi.be_length, Wi.be_length] at hbl
 go_enter Tryz.func55, Tryz.ntmps55
 refine zsr ?_;refine wl_make (c := #[.slice po ps.length pc, .slice do_ ds.length dc]) H0 100 ?_;intro q1 w2 h3;refine zv (znt (zsr ?_));refine wl_make (c := #[.pointer none, .slice none 0 0]) h3 147 ?_;intro q4 w5 h6;refine znt (wp_seq ?_);have h7 := h6;clear h6;generalize q4 = bb at h7 ⊢;refine wl_region (zv ?_);refine zwu (v := .slice po ps.length pc) (run_load1 isAgg30 (((h7.get 1 rfl).cell 0).trans rfl)) ?_;refine zv ?_;refine zwu (v := iN .u64 ps.length) (run_conv .u64 underlying3 underlying119 (by kernel_rfl) (by simp only [top]; omega)) ?_;refine wl_call (v := .string (⟨(Wi.be ps.length 2).toArray⟩)) h7 enter103 #[.string ({ data := #[] }), i6 2, iN .u64 ps.length] (PutN ps.length 2 (by decide) (by decide) w5) ?_;intro w8 h9;have hq10 := h9.perm (perm_bld [] [(q1, 100, #[.slice po ps.length pc, .slice do_ ds.length dc])] [] (bb, 147, #[.pointer none, .slice none 0 0]));refine wl_callx enter98 #[pq bb, .string (⟨(Wi.be ps.length 2).toArray⟩)] (bwrite_any (.inl rfl) RowB.nil hq10 ⟨(Wi.be ps.length 2).toArray⟩ (by show [].length + ((Wi.be ps.length 2).toArray).size ≤ _; rw [List.size_toArray]; simp only [List.length_append, Wi.be_length, ptB_len, List.length_nil] at *; omega)) ?_;rintro _ w11 ⟨rfl, vb10, Lb10, hRb10, hb_10⟩;refine ⟨_, rfl, ?_⟩;rw [bl_mk] at hRb10;have h12 : HA (bs w) ((bb, 147, #[pt bb, vb10]) :: (q1, 100, #[.slice po ps.length pc, .slice do_ ds.length dc]) :: Lb10) w11 := hb_10.perm (perm_bld [] [(q1, 100, #[.slice po ps.length pc, .slice do_ ds.length dc])] Lb10 (bb, 147, #[pt bb, vb10])).symm;refine znt (wp_seq (zsr (zv ?_)));refine zwu (v := .slice po ps.length pc) (run_load1 isAgg30 (((h12.get 1 rfl).cell 0).trans rfl)) ?_;refine zv (zv (znt ?_));refine wp_block ?_;refine zcn (fun Z0 k A w' => ∃ u13 : Nat → Value, A = pts Z0 [(5, u13 5), (17, i6 k), (18, u13 18), (19, u13 19), (20, u13 20), (21, u13 21), (22, u13 22), (23, u13 23), (24, u13 24), (25, u13 25), (26, u13 26), (27, u13 27), (28, u13 28), (29, u13 29)] ∧ ∃ v Lr, RowB v (Wi.be ps.length 2 ++ (ps.take k).flatMap rowB) Lr ∧ HA (bs w) ((bb, 147, #[pt bb, v]) :: (q1, 100, #[.slice po ps.length pc, .slice do_ ds.length dc]) :: Lr) w') ps.length ?_ ?_ ?_
 ·exact zey [] ⟨_, _, by have h9 := hRb10; simpa [List.append_assoc, List.take_length] using h9, h12.sub (sc (sc (sr)))⟩
 ·rintro k hk _ w14 ⟨u13, rfl, v, Lr, hR, hL⟩;obtain ⟨x, hx⟩ : ∃ x, ps[k]? = some x := ⟨_, List.getElem?_eq_getElem hk⟩;obtain ⟨pa, hpa, hpk0, hpv0⟩ := hP k x hx;have hpk := cell_old hL.old.old hpk0;have hpv := cell_old hL.old.old hpv0;have hxr : (rowB x).length ≤ (ps.flatMap rowB).length := by have h1 := flat_take rowB hx; have h2 := flat_le ps (k + 1) rowB; rw [h1, List.length_append] at h2; omega
  have hxr2 : (rowB x).length = 4 + x.k.size + (4 + x.v.size) := by rw [rowB, List.length_append, ptB_len, ptB_len]
  have hfl := flat_le ps k rowB;refine zsr ?_;refine zwu (run_lss (k := .i64) (a := k) (b := ps.length) true (dt (by omega))) ?_;refine znt (zit (wp_seq ?_));refine wp_block ?_;refine zsr ?_;refine zwu (v := .pointer (some (pa.add (k * 2)))) (run_addr30 (a := pa) (n := ps.length) (m := pc) (i := k) hpa (by kernel_rfl) (by kernel_rfl) hk) ?_;refine zwu (v := rwv x) (run_loadrow (by kernel_rfl) hpk hpv) ?_;refine wl_make (c := #[.string ({ data := #[] }), .string ({ data := #[] })]) hL 64 ?_;intro q15 w16 h17;refine wl_fill (c' := #[.string x.k, .string x.v]) h17 0 rfl rfl ?_;intro w18 h19;refine znt (zsr (zv ?_));refine zwu (v := .string x.k) (run_load1 isAgg9 (((h19.get 0 rfl).cell 0).trans rfl)) ?_;refine wl_call (v := .string (⟨(ptB x.k).toArray⟩)) h19 enter104 #[.string ({ data := #[] }), .string x.k] (PutT x.k (by omega) w18) ?_;intro w20 h21;have hq22 := h21.perm (perm_bld [(q15, 64, #[.string x.k, .string x.v])] [(q1, 100, #[.slice po ps.length pc, .slice do_ ds.length dc])] Lr (bb, 147, #[pt bb, v]));refine wl_callx enter98 #[pq bb, .string (⟨(ptB x.k).toArray⟩)] (bwrite_any (.inr rfl) hR hq22 ⟨(ptB x.k).toArray⟩ (by show (Wi.be ps.length 2 ++ (ps.take k).flatMap rowB).length + ((ptB x.k).toArray).size ≤ _; rw [List.size_toArray]; simp only [List.length_append, Wi.be_length, ptB_len, List.length_nil] at *; omega)) ?_;rintro _ w23 ⟨rfl, vb22, Lb22, hRb22, hb_22⟩;refine ⟨_, rfl, ?_⟩;rw [bl_mk] at hRb22;have h24 : HA (bs w) ((q15, 64, #[.string x.k, .string x.v]) :: (bb, 147, #[pt bb, vb22]) :: (q1, 100, #[.slice po ps.length pc, .slice do_ ds.length dc]) :: Lb22) w23 := hb_22.perm (perm_bld [(q15, 64, #[.string x.k, .string x.v])] [(q1, 100, #[.slice po ps.length pc, .slice do_ ds.length dc])] Lb22 (bb, 147, #[pt bb, vb22])).symm;refine znt (wl_region (zv ?_));refine zwu (v := .string x.v) (run_load1 isAgg9 (((h24.get 0 rfl).cell 1).trans rfl)) ?_;refine wl_call (v := .string (⟨(ptB x.v).toArray⟩)) h24 enter104 #[.string ({ data := #[] }), .string x.v] (PutT x.v (by omega) w23) ?_;intro w25 h26;have hq27 := h26.perm (perm_bld [(q15, 64, #[.string x.k, .string x.v])] [(q1, 100, #[.slice po ps.length pc, .slice do_ ds.length dc])] Lb22 (bb, 147, #[pt bb, vb22]));refine wl_callx enter98 #[pq bb, .string (⟨(ptB x.v).toArray⟩)] (bwrite_any (.inr rfl) hRb22 hq27 ⟨(ptB x.v).toArray⟩ (by show ((Wi.be ps.length 2 ++ (ps.take k).flatMap rowB) ++ ptB x.k).length + ((ptB x.v).toArray).size ≤ _; rw [List.size_toArray]; simp only [List.length_append, Wi.be_length, ptB_len, List.length_nil] at *; omega)) ?_;rintro _ w28 ⟨rfl, vb27, Lb27, hRb27, hb_27⟩;refine ⟨_, rfl, ?_⟩;rw [bl_mk] at hRb27;have h29 : HA (bs w) ((q15, 64, #[.string x.k, .string x.v]) :: (bb, 147, #[pt bb, vb27]) :: (q1, 100, #[.slice po ps.length pc, .slice do_ ds.length dc]) :: Lb27) w28 := hb_27.perm (perm_bld [(q15, 64, #[.string x.k, .string x.v])] [(q1, 100, #[.slice po ps.length pc, .slice do_ ds.length dc])] Lb27 (bb, 147, #[pt bb, vb27])).symm
  refine wl_nil ?_;refine block_normal ?_;refine zt (wl_region ?_);refine zwu (run_add (k := .i64) (a := k) (b := 1) (by first | omega | (simp only [top]; omega))) ?_;refine zv (wl_nil ?_);exact then_I (zey [] ⟨vb27, Lb27, by rw [flat_take rowB hx, rowB]; have h9 := hRb27; simpa [List.append_assoc] using h9, h29.sub (sk (sc (sc (sr))))⟩)
 ·rintro _ w30 ⟨u13, rfl, v, Lr, hR, hL⟩;have hfl := flat_le ps ps.length rowB;refine zsr ?_;refine zwu (run_lss (k := .i64) (a := ps.length) (b := ps.length) false (df (by omega))) ?_;refine znt (wp_seq (zcf ?_));refine wp_exit ?_
  repeat first | refine then_exit ?_ | refine block_exit ?_ | refine block_exit_ne (by decide) ?_
  refine zt (zsr (zv ?_));refine zwu (v := .slice do_ ds.length dc) (run_load1 isAgg39 (((hL.get 1 rfl).cell 1).trans rfl)) ?_;refine zv ?_;refine zwu (v := iN .u64 ds.length) (run_conv .u64 underlying3 underlying119 (by kernel_rfl) (by simp only [top]; omega)) ?_;refine wl_call (v := .string (⟨(Wi.be ds.length 2).toArray⟩)) hL enter103 #[.string ({ data := #[] }), i6 2, iN .u64 ds.length] (PutN ds.length 2 (by decide) (by decide) w30) ?_;intro w31 h32;have hq33 := h32.perm (perm_bld [] [(q1, 100, #[.slice po ps.length pc, .slice do_ ds.length dc])] Lr (bb, 147, #[pt bb, v]));refine wl_callx enter98 #[pq bb, .string (⟨(Wi.be ds.length 2).toArray⟩)] (bwrite_any (.inr rfl) hR hq33 ⟨(Wi.be ds.length 2).toArray⟩ (by show (Wi.be ps.length 2 ++ (ps.take ps.length).flatMap rowB).length + ((Wi.be ds.length 2).toArray).size ≤ _; rw [List.size_toArray]; simp only [List.length_append, Wi.be_length, ptB_len, List.length_nil] at *; omega)) ?_;rintro _ w34 ⟨rfl, vb33, Lb33, hRb33, hb_33⟩;refine ⟨_, rfl, ?_⟩;rw [bl_mk] at hRb33;have h35 : HA (bs w) ((bb, 147, #[pt bb, vb33]) :: (q1, 100, #[.slice po ps.length pc, .slice do_ ds.length dc]) :: Lb33) w34 := hb_33.perm (perm_bld [] [(q1, 100, #[.slice po ps.length pc, .slice do_ ds.length dc])] Lb33 (bb, 147, #[pt bb, vb33])).symm;refine znt (wp_seq (zsr (zv ?_)));refine zwu (v := .slice do_ ds.length dc) (run_load1 isAgg39 (((h35.get 1 rfl).cell 1).trans rfl)) ?_;refine zv (zv (znt ?_));refine wp_block ?_;refine zcn (fun Z0 k A w' => ∃ u36 : Nat → Value, A = pts Z0 [(7, u36 7), (39, i6 k), (40, u36 40), (41, u36 41), (42, u36 42), (43, u36 43), (44, u36 44), (45, u36 45), (46, u36 46)] ∧ ∃ v Lr, RowB v (Wi.be ps.length 2 ++ ps.flatMap rowB ++ Wi.be ds.length 2 ++ (ds.take k).flatMap ptB) Lr ∧ HA (bs w) ((bb, 147, #[pt bb, v]) :: (q1, 100, #[.slice po ps.length pc, .slice do_ ds.length dc]) :: Lr) w') ds.length ?_ ?_ ?_
  ·exact zey [] ⟨_, _, by have h9 := hRb33; simpa [List.append_assoc, List.take_length] using h9, h35.sub (sc (sc (sr)))⟩
  ·rintro k hk _ w37 ⟨u36, rfl, v, Lr, hR, hL⟩;obtain ⟨x, hx⟩ : ∃ x, ds[k]? = some x := ⟨_, List.getElem?_eq_getElem hk⟩;obtain ⟨da, hda, hdk0⟩ := hD k x hx;have hdk := cell_old hL.old.old hdk0;have hxr : (ptB x).length ≤ (ds.flatMap ptB).length := by have h1 := flat_take ptB hx; have h2 := flat_le ds (k + 1) ptB; rw [h1, List.length_append] at h2; omega
   have hxr2 := ptB_len x;have hfl := flat_le ds k ptB;refine zsr ?_;refine zwu (run_lss (k := .i64) (a := k) (b := ds.length) true (dt (by omega))) ?_;refine znt (zit (wp_seq ?_));refine wp_block ?_;refine zsr ?_;refine zwu (v := .pointer (some (da.add k))) (run_addr39 (a := da) (n := ds.length) (m := dc) (i := k) hda hk) ?_;refine zwu (v := .string x) (run_load_at (b := da.add k) isAgg9 hdk) ?_;refine zv (znt (wl_region (zv ?_)));refine wl_call (v := .string (⟨(ptB x).toArray⟩)) hL enter104 #[.string ({ data := #[] }), .string x] (PutT x (by omega) w37) ?_;intro w38 h39;have hq40 := h39.perm (perm_bld [] [(q1, 100, #[.slice po ps.length pc, .slice do_ ds.length dc])] Lr (bb, 147, #[pt bb, v]));refine wl_callx enter98 #[pq bb, .string (⟨(ptB x).toArray⟩)] (bwrite_any (.inr rfl) hR hq40 ⟨(ptB x).toArray⟩ (by show (Wi.be ps.length 2 ++ ps.flatMap rowB ++ Wi.be ds.length 2 ++ (ds.take k).flatMap ptB).length + ((ptB x).toArray).size ≤ _; rw [List.size_toArray]; simp only [List.length_append, Wi.be_length, ptB_len, List.length_nil] at *; omega)) ?_;rintro _ w41 ⟨rfl, vb40, Lb40, hRb40, hb_40⟩;refine ⟨_, rfl, ?_⟩;rw [bl_mk] at hRb40;have h42 : HA (bs w) ((bb, 147, #[pt bb, vb40]) :: (q1, 100, #[.slice po ps.length pc, .slice do_ ds.length dc]) :: Lb40) w41 := hb_40.perm (perm_bld [] [(q1, 100, #[.slice po ps.length pc, .slice do_ ds.length dc])] Lb40 (bb, 147, #[pt bb, vb40])).symm;refine wl_nil ?_;refine block_normal ?_;refine zt (wl_region ?_);refine zwu (run_add (k := .i64) (a := k) (b := 1) (by first | omega | (simp only [top]; omega))) ?_;refine zv (wl_nil ?_);exact then_I (zey [] ⟨vb40, Lb40, by rw [flat_take ptB hx]; have h9 := hRb40; simpa [List.append_assoc] using h9, h42.sub (sc (sc (sr)))⟩)
  ·rintro _ w43 ⟨u36, rfl, v, Lr, hR, hL⟩;have hfl := flat_le ds ds.length ptB;refine zsr ?_;refine zwu (run_lss (k := .i64) (a := ds.length) (b := ds.length) false (df (by omega))) ?_;refine znt (wp_seq (zcf ?_));refine wp_exit ?_
   repeat first | refine then_exit ?_ | refine block_exit ?_ | refine block_exit_ne (by decide) ?_
   refine zt (wp_seq ?_);have hRb2 : RowB v (bodyB ps ds) Lr := by have h9 := hR; rw [List.take_length] at h9; exact h9
   refine wl_region ?_;have h44 := hL.perm (List.Perm.cons _ (List.perm_append_comm (l₁ := [_]) (l₂ := Lr)));refine wl_callx enter99 #[pq bb] (by have h9 := bstr_any hRb2 (by omega) (fun e => absurd (congrArg List.length e) (by rw [bodyB]; simp only [List.length_append, Wi.be_length, List.length_nil]; omega)) h44; exact h9) ?_;rintro _ w45 ⟨rfl, hstr⟩;refine ⟨_, rfl, ?_⟩;have h46 := hstr;refine wl_call (v := .string (⟨(ptB ⟨(bodyB ps ds).toArray⟩).toArray⟩)) h46 enter104 #[.string ({ data := #[] }), .string (⟨(bodyB ps ds).toArray⟩)] (PutT _ (by show ((bodyB ps ds).toArray).size ≤ _; rw [List.size_toArray]; omega) w45) ?_;intro w47 h48;refine zv (znt ?_);refine wp_ret ?_
   repeat first|refine zrt ?_|refine block_ret ?_
   exact zb (v := .string ⟨(ptB ⟨(bodyB ps ds).toArray⟩).toArray⟩) ⟨by rw [frameB, ptB, bl_mk]; rfl, h48.old.old⟩
end Go.Proofs.YtckmlaempffpjaaGreat
