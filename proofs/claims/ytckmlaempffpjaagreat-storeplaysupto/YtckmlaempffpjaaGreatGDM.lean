/-
 The model of a disk: what lies in memory, and what is told of it.
-/
import Derived.Test.YtckmlaempffpjaaGreatGDA
import Derived.WalkKit
import Derived.WalkSpells
import Derived.Lib.AppendStr
namespace Go.Proofs.YtckmlaempffpjaaGreat
open Go.RowKit Go.Proofs.Tryz
def RowB (v : Value) (da : List UInt8) (Lr : BL) : Prop :=
 (v = .slice none 0 0 ∧ da = [] ∧ Lr = []) ∨ ∃ g cap cur, v = .slice (some ⟨g, 0, none⟩) da.length cap ∧ Lr = [(g, 5, bc cur)] ∧ da.length ≤ cap ∧ cap ≤ maxLen ∧ cur.length = cap ∧ cur.take da.length = da
theorem RowB.nil : RowB (.slice none 0 0) [] [] := .inl ⟨rfl, rfl, rfl⟩
theorem RowB.cut {v : Value} {da : List UInt8} {Lr : BL} (h : RowB v da Lr) (n : Nat) (hn : n ≤ da.length) :
  ∃ a cap, v = .slice a da.length cap ∧ n ≤ cap ∧ RowB (.slice a n cap) (da.take n) Lr := by
 have e : (da.take n).length = n := by rw [List.length_take]; omega
 rcases h with ⟨rfl, rfl, rfl⟩ | ⟨g, cap, cur, rfl, rfl, h1, h2, h3, h4⟩
 ·have : n = 0 := by simpa using hn
  subst this;exact ⟨none, 0, rfl, Nat.le_refl _, .inl ⟨rfl, rfl, rfl⟩⟩
 ·refine ⟨_, cap, rfl, by omega, .inr ⟨g, cap, cur, by rw [e], rfl, by rw [e]; omega, h2, h3, ?_⟩⟩;rw [e];rw [← h4, List.take_take]
  congr 1
  omega
theorem info5' : ∃ i, prog.info? 5 = some i ∧ i.zero = some (.int .u8 0) ∧ i.size = 1 ∧ i.bytes = 1 := by
 obtain ⟨i, hi, h⟩ := Option.map_eq_some_iff.1 info5
 simp only [Prod.mk.injEq] at h
 exact ⟨i, hi, h.1, h.2.1, h.2.2⟩
theorem zeros_bc (n : Nat) : Builtin.zeroCells (Value.int IntKind.u8 0).cells n = bc (List.replicate n 0) := by
 apply Array.ext'
 apply List.ext_getElem
 ·simp [Builtin.zeroCells, bc, Value.cells]
 ·intro k h1 h2
  simp [Builtin.zeroCells, bc, Value.cells, by8, iN, Nat.mod_one]
theorem bc_app (a b : List UInt8) : bc a ++ bc b = bc (a ++ b) := by simp [bc]
theorem strc (s : ByteArray) : (Lib.strCells s).toArray = bc (bl s) := rfl
theorem RowB.apps {v : Value} {da : List UInt8} {Lr L : BL} {z : Base} {w : World} (h : RowB v da Lr) (H : HA z (Lr ++ L) w) (s : ByteArray) (ty : TypeId) (hs : da.length + s.size ≤ 1099511627776) :
  ∃ v' w' Lr', (Builtin.append_ #[62, 9] ty #[v, .string s]).run prog w = .ok v' w' ∧ RowB v' (da ++ bl s) Lr' ∧ HA z (Lr' ++ L) w' := by
 obtain ⟨i, hi, hz, h1, h8⟩ := info5';have hbl := bl_len s;have hm : maxLen ≥ 1099511627776 := by simp only [maxLen]; omega
 rcases h with ⟨rfl, rfl, rfl⟩ | ⟨g, cap, cur, rfl, rfl, k1, k2, k3, k4⟩
 ·by_cases hm0 : s.size = 0
  ·refine ⟨.slice none 0 0, w, [], ?_, .inl ⟨rfl, ?_, rfl⟩, H⟩
   ·have hf := Lib.run_firstCells_string (P := prog) w 1 s;rw [hm0] at hf
    simp [Builtin.append_, run_underlying underlying62, run_underlying underlying9, sizeOf, typeInfo, hi, h1, Builtin.lenOf, hm0, hf]
   ·exact List.eq_nil_of_length_eq_zero (by simp [hbl, hm0])
  ·have hr := run_append_nil_string (P := prog) w 62 9 ty 5 i (.int .u8 0) underlying62 underlying9 hi hz s (by omega) (by simp at hs; omega) (by rw [h8]; simp at hs; omega);have e1 : (s.data.map fun b => Value.int .u8 b.toNat) = bc (bl s) := by
    apply Array.ext'
    simp [bc, bl, by8, iN]
   rw [e1, zeros_bc, bc_app] at hr;have hge := grownCap_ge w s.size 0 5;refine ⟨_, _, [(w.drew.heap.size, 5, bc (bl s ++ List.replicate (grownCap w s.size 0 5 - s.size) 0))], hr, .inr ⟨w.heap.size, _, _, by rw [List.nil_append, hbl], rfl, by rw [List.nil_append, hbl]; exact hge, grownCap_le_maxLen w s.size 0 5 (by simp at hs; omega), ?_, ?_⟩, H.drew.make 5 _⟩
   ·simp [hbl]; omega
   ·simp
 ·by_cases hroom : da.length + s.size ≤ cap
  ·have hB : Blk w g 5 (bc cur) := H.get 0 rfl;have hf := Lib.run_firstCells_string (P := prog) w 1 s;have hst := run_storeCells_cells (P := prog) g da.length ((bl s).map by8) 0 w (fun k hk => by
    rw [hB.cell];rw [List.length_map, bl_len] at hk
    simp [bc_size]
    omega) (fun k hk => by
    rw [List.length_map, bl_len] at hk;exact hB.free _ (by rw [bc_size]; omega)) (fun v hv => by
    obtain ⟨u, _, rfl⟩ := List.mem_map.1 hv
    rfl)
   simp only [Nat.add_zero] at hst
   have e2 : Lib.strCells s = (bl s).map by8 := rfl;rw [e2] at hf;have e : (Builtin.append_ #[62, 9] ty #[.slice (some ⟨g, 0, none⟩) da.length cap, .string s]).run prog w = .ok (.slice (some ⟨g, 0, none⟩) (da.length + s.size) cap) (w.setCells g da.length ((bl s).map by8)) := by
    simp [Builtin.append_, run_underlying underlying62, run_underlying underlying9, sizeOf, typeInfo, hi, h1, Builtin.lenOf, hroom, hf, Addr.add_lit, hst]
   have hp := H.app 0 rfl (n := bl s) (m := da.length) (l' := laidOn cur da.length (bl s)) (by rw [hbl]; omega) rfl;refine ⟨_, _, [(g, 5, bc (laidOn cur da.length (bl s)))], e, .inr ⟨g, cap, _, by rw [List.length_append, hbl], rfl, by rw [List.length_append, hbl]; omega, k2, ?_, ?_⟩, hp⟩
   ·rw [laidOn_len _ _ _ (by rw [hbl]; omega), k3]
   ·rw [List.length_append, laidOn_take _ _ _ (by rw [hbl]; omega), k4]
  ·have hB : Blk w g 5 (bc cur) := H.get 0 rfl;have holds : ∀ j u, (da.map by8)[j]? = some u → w.cell? ((⟨g, 0, none⟩ : Addr).add j) = some u := fun j u hu => by
    have hadd : (⟨g, 0, none⟩ : Addr).add j = ⟨g, j, none⟩ := by unfold Addr.add; split <;> simp_all
    rw [hadd, hB.cell j];have hj : j < da.length := by
     have := (List.getElem?_eq_some_iff.1 hu).1
     simpa using this
    have : (cur.take da.length)[j]? = da[j]? := by rw [k4]
    rw [List.getElem?_take_of_lt hj] at this
    simp only [bc, List.getElem?_toArray, List.getElem?_map, this]
    simpa using hu
   have hr := Lib.run_append_grow_string (P := prog) w 62 9 ty 5 i (.int .u8 0) underlying62 underlying9 hi hz ⟨g, 0, none⟩ da.length cap (da.map by8) (by rw [h1]; simp) holds s (by omega) (by omega) (by rw [h8]; exact growslice_fits (by omega) (by omega));have e1 : (da.map by8).toArray ++ (Lib.strCells s).toArray = bc (da ++ bl s) := by simp [bc, strc]
   rw [e1, zeros_bc, bc_app] at hr;have hge := grownCap_ge w (da.length + s.size) cap 5;refine ⟨_, _, [(w.drew.heap.size, 5, bc (da ++ bl s ++ List.replicate (grownCap w (da.length + s.size) cap 5 - (da.length + s.size)) 0))], hr, .inr ⟨w.heap.size, _, _, by rw [List.length_append, hbl], rfl, by rw [List.length_append, hbl]; exact hge, grownCap_le_maxLen w _ _ 5 (by omega), ?_, ?_⟩, H.tl.drew.make 5 _⟩
   ·simp [hbl]; omega
   ·exact List.take_left
/-! files -/
structure Fl where
 nm : ByteArray
 p : Nat
 da : List UInt8
 sy : Nat
 v : Value
 Lr : BL
 bn : Nat
def fcell (v : Value) (n : Nat) : Array Value := #[v, i6 n]
def fb (f : Fl) : BL := (f.p, 109, fcell f.v f.sy) :: f.Lr
def FB (fl : List Fl) : BL := fl.flatMap fb
theorem FB_app (A B : List Fl) : FB (A ++ B) = FB A ++ FB B := by simp [FB]
theorem FB_cons (f : Fl) (B : List Fl) : FB (f :: B) = fb f ++ FB B := rfl
def ent (f : Fl) : MapEntry := ⟨.string f.nm, pq f.p, f.bn⟩
def eF (fl : List Fl) : Array MapEntry := (fl.map ent).toArray
structure FA where
 nm : ByteArray
 da : List UInt8
 sy : Nat
 deriving DecidableEq
def ab (f : Fl) : FA := ⟨f.nm, f.da, f.sy⟩
structure FK (fl : List Fl) (nx : Nat) : Prop where
 row : ∀ f ∈ fl, RowB f.v f.da f.Lr
 syn : ∀ f ∈ fl, f.sy ≤ f.da.length
 nms : (fl.map (·.nm)).Nodup
 old : ∀ f ∈ fl, f.bn < nx
 bns : (fl.map (·.bn)).Nodup
structure DS where
 fs : List FA
 free : Nat
 left : Nat
 down : Bool
 sizes : List Nat
 deriving DecidableEq
structure Dk where
 q : Nat
 r : Nat
def dcell (r free left : Nat) (down : Bool) (v : Value) : Array Value := #[.map (some r), i6 free, i6 left, .bool down, v]
abbrev ML := List (Nat × MO)
def DH (w0 : World) (M : ML) (d : Dk) (D : DS) (L : BL) (w : World) : Prop :=
 ∃ fl nx v Lr, fl.map ab = D.fs ∧ FK fl nx ∧ Row 3 1 v D.sizes.length (D.sizes.map (i6 ·)) Lr ∧
  HA ⟨w0, (d.r, .mp (eF fl) nx) :: M⟩ ((d.q, 78, dcell d.r D.free D.left D.down v) :: (Lr ++ (FB fl ++ L))) w
theorem DH.drop {w0 : World} {M : ML} {d : Dk} {D : DS} {A L : BL} {w : World} (h : DH w0 M d D (A ++ L) w) : DH w0 M d D L w := by
 obtain ⟨fl, nx, v, Lr, h1, h2, h3, H⟩ := h;exact ⟨fl, nx, v, Lr, h1, h2, h3, H.sub (sc (List.Sublist.append_left (List.Sublist.append_left (List.sublist_append_right _ _) _) _))⟩
theorem DH.keep {w0 : World} {M : ML} {d : Dk} {D : DS} {L : BL} {w w' : World} (h : DH w0 M d D L w) (hb : Below w.heap.size w w') : DH w0 M d D L w' := by
 obtain ⟨fl, nx, v, Lr, h1, h2, h3, H⟩ := h;exact ⟨fl, nx, v, Lr, h1, h2, h3, H.keep _ _ hb⟩
/-! looking up -/
theorem findNow_F (s : ByteArray) : ∀ (fl : List Fl) (j : Nat), (∀ f ∈ fl, f.nm ≠ s) → Instr.findNow .string (.string s) (fl.map ent) j = some none
 | [], _, _ => rfl
 | f :: fl, j, h => by
  have hne : (s == f.nm) = false := by rw [bb_eq]; exact decide_eq_false (Ne.symm (h f (.head _)))
  have := findNow_F s fl (j + 1) (fun g hg => h g (.tail _ hg))
  simpa [ent, Instr.findNow, Instr.sameNow, hne] using this
theorem findNow_F' (s : ByteArray) (f : Fl) (B : List Fl) (hf : f.nm = s) : ∀ (A : List Fl) (j : Nat), (∀ g ∈ A, g.nm ≠ s) → Instr.findNow .string (.string s) ((A ++ f :: B).map ent) j = some (some (j + A.length, pq f.p))
 | [], j, _ => by
  have : (s == f.nm) = true := by rw [bb_eq]; exact decide_eq_true hf.symm
  simp [ent, Instr.findNow, Instr.sameNow, this]
 | g :: A, j, h => by
  have hne : (s == g.nm) = false := by rw [bb_eq]; exact decide_eq_false (Ne.symm (h g (.head _)))
  have := findNow_F' s f B hf A (j + 1) (fun g hg => h g (.tail _ hg))
  simp only [List.cons_append, List.map_cons, List.length_cons] at this ⊢
  rw [show j + (A.length + 1) = j + 1 + A.length by omega, ← this]
  simp [Instr.findNow, ent, Instr.sameNow, hne]
theorem check_txt (s : ByteArray) (w : World) (e : Bool) : (Instr.checkKey e 10000 9 (.string s)).run prog w = .ok () w := MapKept.run_checkKey (k := .string s) (n := 9999) underlying9 trivial e
section
variable {w : World} {r nx : Nat} {fl A B : List Fl} {f : Fl} {s : ByteArray} {ρ : Operand → Value} {x y u : Operand} {dst : Option Tmp} {ty : TypeId} {pos : String} {aft : Array Edge} {gd : Option (Nat × Bool)}
theorem run_look_no (hb : w.heap[r]? = some (.map (eF fl) nx)) (hn : ∀ f ∈ fl, f.nm ≠ s)   (hx : ρ x = .map (some r) := by kernel_rfl) (hy : ρ y = .string s := by kernel_rfl) :
  (execOp ρ ⟨dst, .lookup 76 x y false, ty, pos, aft, gd⟩).run prog w = .ok (.value (.pointer none)) w := by
 have hg : (getObj r).run prog w = .ok (.map (eF fl) nx) w := by simp [getObj, Sem.run, hb]
 have hf : (Instr.findKey 9 (.string s) (eF fl).toList).run prog w = .ok none w := MapKept.run_findKey underlying9 (by simpa [eF] using findNow_F s fl 0 hn)
 simp [execOp, hx, hy, Instr.lookup, run_underlying underlying76, hg, check_txt, hf]
theorem run_look_yes (hb : w.heap[r]? = some (.map (eF (A ++ f :: B)) nx)) (hf : f.nm = s) (hn : ∀ g ∈ A, g.nm ≠ s)   (hx : ρ x = .map (some r) := by kernel_rfl) (hy : ρ y = .string s := by kernel_rfl) :
  (execOp ρ ⟨dst, .lookup 76 x y false, ty, pos, aft, gd⟩).run prog w = .ok (.value (pq f.p)) w := by
 have hg : (getObj r).run prog w = .ok (.map (eF (A ++ f :: B)) nx) w := by simp [getObj, Sem.run, hb]
 have hf : (Instr.findKey 9 (.string s) (eF (A ++ f :: B)).toList).run prog w = .ok (some (0 + A.length, pq f.p)) w := MapKept.run_findKey underlying9 (findNow_F' s f B hf A 0 hn)
 simp [execOp, hx, hy, Instr.lookup, run_underlying underlying76, hg, check_txt, hf]
theorem run_upd (hb : w.heap[r]? = some (.map (eF fl) nx)) (hn : ∀ f ∈ fl, f.nm ≠ s) (hx : ρ x = .map (some r)) (hy : ρ y = .string s) (f : Fl) (hf : f.nm = s) (hnx : f.bn = nx) (hu : ρ u = pq f.p) :
  (execOp ρ ⟨dst, .mapUpdate 76 x y u, ty, pos, aft, gd⟩).run prog w = .ok .skip (World.setMap w r (eF (fl ++ [f])) (nx + 1)) := by
 have hf2 : (Instr.findKey 9 (.string s) (eF fl).toList).run prog w = .ok none w := MapKept.run_findKey underlying9 (by simpa [eF] using findNow_F s fl 0 hn);have := run_update_new (v := pq f.p) underlying76 hb (check_txt s w) hf2;have e : (eF fl).push ⟨.string s, pq f.p, nx⟩ = eF (fl ++ [f]) := by simp [eF, ent, hf, hnx]
 rw [e] at this
 simp [execOp, hx, hy, hu, this]
theorem run_del (hb : w.heap[r]? = some (.map (eF (A ++ f :: B)) nx)) (hf : f.nm = s) (hn : ∀ g ∈ A, g.nm ≠ s) (hx : ρ x = .map (some r)) (hy : ρ y = .string s) :
  (execOp ρ ⟨dst, .call { callee := .builtin .delete, args := #[x, y], argTypes := #[76, 9] }, ty, pos, aft, gd⟩).run prog w = .ok (.value (.tuple #[])) (World.setMap w r (eF (A ++ B)) nx) := by
 have hg : (getObj r).run prog w = .ok (.map (eF (A ++ f :: B)) nx) w := by simp [getObj, Sem.run, hb]
 have hs : ∀ o, (setObj r o).run prog w = .ok () { w with heap := w.heap.setIfInBounds r o } := fun o => by simp [setObj, Sem.run, hb]
 have hf : (Instr.findKey 9 (.string s) (eF (A ++ f :: B)).toList).run prog w = .ok (some (A.length, pq f.p)) w := MapKept.run_findKey underlying9 (by have := findNow_F' s f B hf A 0 hn; rwa [Nat.zero_add] at this);have e : (eF (A ++ f :: B)).eraseIdxIfInBounds A.length = eF (A ++ B) := by
  apply Array.ext'
  simp [eF, List.eraseIdx_append_of_length_le]
 have e2 : (Builtin.delete_ #[76, 9] ty #[.map (some r), .string s]).run prog w = .ok (.tuple #[]) (World.setMap w r (eF (A ++ B)) nx) := by
  simp [Builtin.delete_, run_underlying underlying76, hg, check_txt, hf, hs, e, World.setMap]
 unfold execOp
 simp only [resolve, invoke, builtin, Sem.run_bind, Sem.run_pure, Result.andThen_ok, List.map_toArray, List.map_cons, List.map_nil, hx, hy, e2]
end
end Go.Proofs.YtckmlaempffpjaaGreat
namespace Go.Proofs.YtckmlaempffpjaaGreat
set_option linter.unusedVariables false
set_option maxRecDepth 100000
set_option maxHeartbeats 2000000
open Go.RowKit Go.Proofs.Tryz
section
variable {P : Program} {ρ : Operand → Value} {x y : Operand} {w : World} {dst : Option Tmp} {T T2 ty : TypeId} {pos : String} {aft : Array Edge} {gd : Option (Nat × Bool)}
theorem run_nes {s t : ByteArray}   (r : Bool) (hr : decide (s = t) = !r) (hx : ρ x = .string s := by kernel_rfl) (hy : ρ y = .string t := by kernel_rfl) : (execOp ρ ⟨dst, .binOp .neq T x y T2, ty, pos, aft, gd⟩).run P w = .ok (.value (.bool r)) w := by
 have hr' : (!decide (s = t)) = r := by rw [hr]; simp
 subst hr'
 simp only [execOp, hx, hy]
 by_cases h : s = t
 ·subst h; simp [binOp, go_sem, Op.stringOp]
 ·have h2 : ¬s.toList = t.toList := fun e => by
   rw [ByteArray.toList_eq, ByteArray.toList_eq] at e;refine h ?_;obtain ⟨⟨l⟩⟩ := s;obtain ⟨⟨m⟩⟩ := t;exact congrArg (fun l : List UInt8 => (⟨⟨l⟩⟩ : ByteArray)) e
  simp [binOp, go_sem, Op.stringOp, h, h2]
end
theorem none_no {w : World} {q r fr lf : Nat} {dn : Bool} {v : Value} (hq : Blk w q 78 (dcell r fr lf dn v)) :
  Calls prog 57 #[pt q] w fun e w' => e = .returned (.bool false) ∧ Below w.heap.size w w' := by
 have H0 := HA.start w
 go_enter Tryz.func57, Tryz.ntmps57
 refine zsr (zv (znt (zsr (zv (zv (zv (zv (zv (zv ?_)))))))));refine zwu (v := .map (some r)) (run_load1 isAgg76 (((hq.keep H0.old.old).cell 0).trans rfl)) ?_;refine zv (zv (zv (znt ?_)));refine wp_ret ?_
 repeat first|refine zrt ?_|refine block_ret ?_
 exact zb ⟨rfl, H0.old.old⟩
theorem dark_true {w : World} {q r fr lf : Nat} {v : Value} (hq : Blk w q 78 (dcell r fr lf true v)) :
  Calls prog 89 #[pt q] w fun e w' => e = .returned (.bool true) ∧ Below w.heap.size w w' := by
 have H0 := HA.start w
 go_enter Tryz.func89, Tryz.ntmps89
 refine zsr (zv (znt (zsr (zv ?_))));refine wl_call (v := .bool false) H0 enter57 #[pq q] (none_no (hq.keep H0.old.old)) ?_;intro w1 h2;refine zv (zv (zv (zv ?_)));refine zwu (v := .bool true) (run_load1 isAgg4 (((hq.keep h2.old.old).cell 3).trans rfl)) ?_;refine zv (zv (znt ?_));refine wp_ret ?_
 repeat first|refine zrt ?_|refine block_ret ?_
 exact zb ⟨rfl, h2.old.old⟩
theorem refused_true {w : World} {q r fr lf : Nat} {v : Value} (hq : Blk w q 78 (dcell r fr lf true v)) :
  Calls prog 46 #[pt q] w fun e w' => e = .returned (i6 16) ∧ Below w.heap.size w w' := by
 have H0 := HA.start w
 go_enter Tryz.func46, Tryz.ntmps46
 refine zsr (zv (znt (wp_seq ?_)));refine wp_block ?_;refine zsr (zv ?_);refine wl_call (v := .bool false) H0 enter57 #[pq q] (none_no (hq.keep H0.old.old)) ?_;intro w1 h2;refine zv (znt (zcf (zsr (zv (zv (zv ?_))))));refine zwu (v := .bool true) (run_load1 isAgg4 (((hq.keep h2.old.old).cell 3).trans rfl)) ?_;refine zv (znt (zct (zsr (zv (znt ?_)))));refine wp_ret ?_
 repeat first|refine zrt ?_|refine block_ret ?_
 exact zb ⟨rfl, h2.old.old⟩
theorem Down_true {w : World} {q r fr lf : Nat} {v : Value} (hq : Blk w q 78 (dcell r fr lf true v)) :
  Calls prog 18 #[pt q] w fun e w' => e = .returned (.bool true) ∧ Below w.heap.size w w' := by
 have H0 := HA.start w
 go_enter Tryz.func18, Tryz.ntmps18
 refine zsr (zv (znt (zsr (zv ?_))));refine wl_call (v := .bool false) H0 enter57 #[pq q] (none_no (hq.keep H0.old.old)) ?_;intro w1 h2;refine zv (zv (zv (zv (zv ?_))));refine zwu (v := .bool true) (run_load1 isAgg4 (((hq.keep h2.old.old).cell 3).trans rfl)) ?_;refine zv (zv (znt ?_));refine wp_ret ?_
 repeat first|refine zrt ?_|refine block_ret ?_
 exact zb ⟨rfl, h2.old.old⟩
theorem dark_false {w : World} {q r fr lf : Nat} {v : Value} (hq : Blk w q 78 (dcell r fr lf false v)) :
  Calls prog 89 #[pt q] w fun e w' => e = .returned (.bool false) ∧ Below w.heap.size w w' := by
 have H0 := HA.start w
 go_enter Tryz.func89, Tryz.ntmps89
 refine zsr (zv (znt (zsr (zv ?_))));refine wl_call (v := .bool false) H0 enter57 #[pq q] (none_no (hq.keep H0.old.old)) ?_;intro w1 h2;refine zv (zv (zv (zv ?_)));refine zwu (v := .bool false) (run_load1 isAgg4 (((hq.keep h2.old.old).cell 3).trans rfl)) ?_;refine zv (zv (znt ?_));refine wp_ret ?_
 repeat first|refine zrt ?_|refine block_ret ?_
 exact zb ⟨rfl, h2.old.old⟩
theorem refused_false {w : World} {q r fr lf : Nat} {v : Value} (hq : Blk w q 78 (dcell r fr lf false v)) :
  Calls prog 46 #[pt q] w fun e w' => e = .returned (i6 0) ∧ Below w.heap.size w w' := by
 have H0 := HA.start w
 go_enter Tryz.func46, Tryz.ntmps46
 refine zsr (zv (znt (wp_seq ?_)));refine wp_block ?_;refine zsr (zv ?_);refine wl_call (v := .bool false) H0 enter57 #[pq q] (none_no (hq.keep H0.old.old)) ?_;intro w1 h2;refine zv (znt (zcf (zsr (zv (zv (zv ?_))))));refine zwu (v := .bool false) (run_load1 isAgg4 (((hq.keep h2.old.old).cell 3).trans rfl)) ?_;refine zv (znt (zcf (wp_skip ?_)));refine block_normal ?_;refine zt (zsr (zv (znt ?_)));refine wp_ret ?_
 repeat first|refine zrt ?_|refine block_ret ?_
 exact zb ⟨rfl, h2.old.old⟩
theorem Down_false {w : World} {q r fr lf : Nat} {v : Value} (hq : Blk w q 78 (dcell r fr lf false v)) :
  Calls prog 18 #[pt q] w fun e w' => e = .returned (.bool false) ∧ Below w.heap.size w w' := by
 have H0 := HA.start w
 go_enter Tryz.func18, Tryz.ntmps18
 refine zsr (zv (znt (zsr (zv ?_))));refine wl_call (v := .bool false) H0 enter57 #[pq q] (none_no (hq.keep H0.old.old)) ?_;intro w1 h2;refine zv (zv (zv (zv (zv ?_))));refine zwu (v := .bool false) (run_load1 isAgg4 (((hq.keep h2.old.old).cell 3).trans rfl)) ?_;refine zv (zv (znt ?_));refine wp_ret ?_
 repeat first|refine zrt ?_|refine block_ret ?_
 exact zb ⟨rfl, h2.old.old⟩
def isNm (s : ByteArray) : Bool := decide (s ≠ { data := #[] } ∧ s.size ≤ 64)
theorem isName_e (s : ByteArray) (hs : s = { data := #[] }) (w : World) :
  Calls prog 64 #[.string s] w fun e w' => e = .returned (.bool false) ∧ Below w.heap.size w w' := by
 have H0 := HA.start w
 go_enter Tryz.func64, Tryz.ntmps64
 refine zsr (zv (znt (zsr (zv ?_))));refine zwu (run_nes (s := s) (t := { data := #[] }) false (dt hs)) ?_;refine zv ?_;refine wl_skip ?_;refine wl_skip ?_;refine wl_skip ?_;refine zv (zv (znt ?_));refine wp_ret ?_
 repeat first|refine zrt ?_|refine block_ret ?_
 exact zb ⟨rfl, H0.old.old⟩
theorem isName_y (s : ByteArray) (hs : ¬ s = { data := #[] }) (hn : s.size ≤ 64) (w : World) :
  Calls prog 64 #[.string s] w fun e w' => e = .returned (.bool true) ∧ Below w.heap.size w w' := by
 have H0 := HA.start w
 go_enter Tryz.func64, Tryz.ntmps64
 refine zsr (zv (znt (zsr (zv ?_))));refine zwu (run_nes (s := s) (t := { data := #[] }) true (df hs)) ?_;refine zv (zv ?_);refine zwu (run_len (s := s)) ?_;refine zwu (run_leq (k := .i64) (a := s.size) (b := 64) (by kernel_rfl) (by kernel_rfl) true (dt hn)) ?_;refine zv (zv (znt ?_));refine wp_ret ?_
 repeat first|refine zrt ?_|refine block_ret ?_
 exact zb ⟨rfl, H0.old.old⟩
theorem isName_n (s : ByteArray) (hs : ¬ s = { data := #[] }) (hn : ¬ s.size ≤ 64) (w : World) :
  Calls prog 64 #[.string s] w fun e w' => e = .returned (.bool false) ∧ Below w.heap.size w w' := by
 have H0 := HA.start w
 go_enter Tryz.func64, Tryz.ntmps64
 refine zsr (zv (znt (zsr (zv ?_))));refine zwu (run_nes (s := s) (t := { data := #[] }) true (df hs)) ?_;refine zv (zv ?_);refine zwu (run_len (s := s)) ?_;refine zwu (run_leq (k := .i64) (a := s.size) (b := 64) (by kernel_rfl) (by kernel_rfl) false (df hn)) ?_;refine zv (zv (znt ?_));refine wp_ret ?_
 repeat first|refine zrt ?_|refine block_ret ?_
 exact zb ⟨rfl, H0.old.old⟩
theorem isName_any (s : ByteArray) (w : World) :
  Calls prog 64 #[.string s] w fun e w' => e = .returned (.bool (isNm s)) ∧ Below w.heap.size w w' := by
 by_cases h : s = { data := #[] }
 ·rw [show isNm s = false by simp [isNm, h]]; exact isName_e s h w
 ·by_cases h2 : s.size ≤ 64
  ·rw [show isNm s = true by simp [isNm, h, h2]]; exact isName_y s h h2 w
  ·rw [show isNm s = false by simp [isNm, h2]]; exact isName_n s h h2 w
end Go.Proofs.YtckmlaempffpjaaGreat
