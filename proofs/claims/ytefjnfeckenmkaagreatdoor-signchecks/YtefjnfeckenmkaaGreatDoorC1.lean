/-
 A text's bytes as a slice of one's own.
-/
import Derived.Test.YtefjnfeckenmkaaGreatDoorCu2
import Derived.Lib.ConvBytes
namespace Go.Proofs.YtefjnfeckenmkaaGreatDoor
open Go.RowKit Num
def bl (s : ByteArray) : List UInt8 := s.data.toList
theorem bl_len (s : ByteArray) : (bl s).length = s.size := by unfold bl; rw [Array.length_toList]; rfl
def byC (l : List UInt8) (m : Nat) : Array Value := (cs l ++ List.replicate m (Value.int .u8 0)).toArray
theorem byC_size (l : List UInt8) (m : Nat) : (byC l m).size = l.length + m := by simp [byC, cs]
theorem byC_get (l : List UInt8) (m i : Nat) (hi : i < l.length) : (byC l m)[i]? = some (iN .u8 (l.getD i 0).toNat) := by
 unfold byC
 rw [List.getElem?_toArray, List.getElem?_append_left (by rw [cs_length]; exact hi)]
 simp [cs, iN, List.getElem?_eq_getElem hi]
theorem byC_put (l : List UInt8) (m i x : Nat) (hi : i < l.length) (hx : x < 256) : (byC l m).setIfInBounds i (.int .u8 (x : Int)) = byC (l.set i (UInt8.ofNat x)) m := by
 unfold byC
 rw [List.setIfInBounds_toArray, List.set_append_left _ _ (by rw [cs_length]; exact hi)]
 congr 2
 unfold cs
 rw [List.map_set, UInt8.toNat_ofNat', Nat.mod_eq_of_lt hx]
theorem HA.bytes {w0 w : World} {L : List (Nat × TypeId × Array Value)} (h : HA w0 L w) (s : ByteArray) : ∃ m, HA w0 ((w.heap.size, 5, byC (bl s) m) :: L) (Lib.bytesWorld w 5 s) := by
 have hb : Below w.heap.size w (Lib.bytesWorld w 5 s) := ⟨rfl, rfl, rfl, by rw [Lib.bytesWorld_size]; omega, fun k hk => Lib.bytesWorld_at_old w 5 s k hk⟩
 have h1 := h.keep _ _ hb
 refine ⟨grownCap w s.size 0 5 - s.size, h1.old, fun x hx => ?_, fun x hx => ?_, ?_⟩
 ·rcases List.mem_cons.1 hx with rfl | hx
  ·have e : Lib.bytesCells w 5 s = byC (bl s) (grownCap w s.size 0 5 - s.size) := by
    unfold Lib.bytesCells byC cs bl
    apply Array.toList_inj.1
    simp
   have hn := Lib.bytesWorld_at_new w 5 s
   rw [e] at hn
   exact ⟨_, hn, .inr (Nat.le_refl _)⟩
  ·exact h1.blk x hx
 ·rcases List.mem_cons.1 hx with rfl | hx
  ·exact h.size
  ·exact h1.own x hx
 ·rw [List.map_cons, List.nodup_cons]
  refine ⟨fun hm => ?_, h1.nd⟩
  obtain ⟨x, hx, e⟩ := List.mem_map.1 hm
  have := (h.blk x hx).lt
  simp at e
  omega
section
variable {ops : Array Oper} {Q : Exit → Act → World → Prop} {a : Act} {w w0 : World} {L : List (Nat × TypeId × Array Value)} {rest : List Oper} {dst : Option Tmp} {ty : TypeId} {pos : String} {aft : Array Edge} {gd : Option (Nat × Bool)} {x : Operand} {s : ByteArray}
theorem wl_bytes (H : HA w0 L w)  
  (h : ∀ q cp m w', HA w0 ((q, 5, byC (bl s) m) :: L) w' → WL Tryz.prog ops Q rest (a.put dst (.slice (some ⟨q, 0, none⟩) s.size cp)) w') (hw : Region.wanted ⟨dst, .convert 9 71 x, ty, pos, aft, gd⟩ (yielded ops a.tmps) = true := by kernel_rfl) (hx : a.eval x = .string s := by kernel_rfl) : WL Tryz.prog ops Q (⟨dst, .convert 9 71 x, ty, pos, aft, gd⟩ :: rest) a w := by
 obtain ⟨m, hm⟩ := H.bytes s
 refine ⟨?_⟩
 unfold wpList
 rw [if_pos hw]
 refine .inl ?_
 unfold Oper.wp
 have e : (execOp a.eval ⟨dst, .convert 9 71 x, ty, pos, aft, gd⟩).run Tryz.prog w = .ok (.value (.slice (some ⟨w.heap.size, 0, none⟩) s.size (grownCap w s.size 0 5))) (Lib.bytesWorld w 5 s) := by
  simp only [execOp, hx, Sem.run_bind, Lib.run_convert_string_bytes w 9 71 5 s Tryz.underlying9 Tryz.underlying71 Tryz.underlying5, Result.andThen_ok, Sem.run_pure]
 rw [e]
 exact (h _ _ _ _ hm).out
end
section
variable {ρ : Operand → Value} {x y : Operand} {w : World} {dst : Option Tmp} {T T2 ty : TypeId} {pos : String} {aft : Array Edge} {gd : Option (Nat × Bool)}
theorem run_byText {q n c m : Nat} {l : List UInt8} (hn : n = l.length)  (h : Blk w q 5 (byC l m)) (hx : ρ x = .slice (some ⟨q, 0, none⟩) n c := by kernel_rfl) :
  (execOp ρ ⟨dst, .convert 71 9 x, ty, pos, aft, gd⟩).run Tryz.prog w = .ok (.value (.string ⟨l.toArray⟩)) w := by
 subst hn
 have e := run_convert_bytes_back (P := Tryz.prog) w 71 9 5 ⟨q, 0, none⟩ c l Tryz.underlying71 Tryz.underlying5 Tryz.underlying9 (fun j hj => by
  have hadd : (⟨q, 0, none⟩ : Addr).add j = ⟨q, j, none⟩ := by unfold Addr.add; split <;> simp_all
  rw [hadd, h.cell j, byC_get l m j hj, List.getD_eq_getElem?_getD, List.getElem?_eq_getElem hj]
  rfl)
 simp only [execOp, hx, Sem.run_bind, e, Result.andThen_ok, Sem.run_pure]
theorem run_andnot8 {P : Program} {a b : Nat} (h : ∀ a : Fin 256, bits .andNot .u8 ((a.1 : Nat) : Int) (b : Int) = ((a.1 &&& (255 - b) : Nat) : Int)) (hx : ρ x = iN .u8 a) (hy : ρ y = iN .u8 b) (ha : a < 256) : (execOp ρ ⟨dst, .binOp .andNot T x y T2, ty, pos, aft, gd⟩).run P w = .ok (.value (iN .u8 (a &&& (255 - b)))) w := by
 have h2 := h ⟨a, ha⟩
 simp only [execOp, hx, hy, iN]
 simpa [binOp, go_sem] using h2
theorem an128 : ∀ a : Fin 256, bits .andNot .u8 ((a.1 : Nat) : Int) ((128 : Nat) : Int) = ((a.1 &&& (255 - 128) : Nat) : Int) := by decide +kernel
end
theorem u8_lt (u : UInt8) : u.toNat < 256 := UInt8.toNat_lt u
end Go.Proofs.YtefjnfeckenmkaaGreatDoor

namespace Go.Proofs.YtefjnfeckenmkaaGreatDoor
set_option linter.unusedVariables false
set_option maxRecDepth 100000
set_option maxHeartbeats 2000000
open Go.RowKit Num
theorem bit_any (s : ByteArray) (j : Nat) (hs : s.size = 32) (hj : j < 256) (w : World) :
  Calls Tryz.prog 50 #[.string s, iN .i64 j] w fun e w' => e = .returned (.bool (decide (numS s / 2 ^ j % 2 = 1))) ∧ Below w.heap.size w w' := by
 have H0 := HA.start w
 go_enter Tryz.func50, Tryz.ntmps50
 refine zsr ?_
 refine zwv (.bool false) ?_
 refine znt ?_
 refine zsr ?_
 refine zwv (.string s) ?_
 refine zwv (iN .i64 j) ?_
 refine zwu (run_quo (k := .i64) (a := j) (b := 8) (by omega) (by simp only [top]; omega)) ?_
 refine zwu (run_sidx (s := s) (a := j / 8) (by omega)) ?_
 refine zwv (iN .i64 j) ?_
 refine zwu (run_rem (k := .i64) (a := j) (b := 8) (by omega)) ?_
 refine zwu (run_shr (k2 := .i64) (k := .u8) (a := sb s (j / 8)) (b := j % 8) (show j % 8 ≤ 8 by omega)) ?_
 refine zwu (run_and8 (a := (sb s (j / 8)) / 2 ^ (j % 8)) (b := 1) (Nat.lt_of_le_of_lt (Nat.div_le_self _ _) (sb_lt s _))) ?_
 refine zwu (run_eqi (k := .u8) (a := ((sb s (j / 8)) / 2 ^ (j % 8)) &&& 1) (b := 1) _ rfl) ?_
 refine zwv (.bool (decide ((((sb s (j / 8)) / 2 ^ (j % 8)) &&& 1) = 1))) ?_
 refine znt ?_
 refine wp_ret ?_
 repeat first | refine then_ret ?_ | refine block_ret ?_
 exact bodyPost_ret (v := .bool (decide ((sb s (j / 8) / 2 ^ (j % 8) &&& 1) = 1))) (by kernel_rfl) rfl ⟨by rw [bit_of s j], H0.old⟩
def topS (s : ByteArray) : ByteArray := ⟨((bl s).set 31 (UInt8.ofNat (((bl s).getD 31 0).toNat &&& 127))).toArray⟩
theorem withoutTop_any (s : ByteArray) (hs : s.size = 32) (w : World) :
  Calls Tryz.prog 67 #[.string s] w fun e w' => e = .returned (.tuple #[.string (topS s), .bool (decide (numS s / 2 ^ 255 % 2 = 1))]) ∧ Below w.heap.size w w' := by
 have hls : ∀ {i : Nat}, i < 32 → i < (bl s).length := fun h => by rw [bl_len, hs]; exact h
 have H0 := HA.start w
 go_enter Tryz.func67, Tryz.ntmps67
 refine zsr ?_
 refine zwv (.string { data := #[] }) ?_
 refine zwv (.bool false) ?_
 refine znt ?_
 refine zsr ?_
 refine zwv (.string s) ?_
 refine wl_bytes (s := s) H0 ?_
 intro q1 cp2 m3 w4 h5
 refine zwv (.slice (some ⟨q1, 0, none⟩) s.size cp2) ?_
 refine znt ?_
 refine zsr ?_
 refine zwv (.slice (some ⟨q1, 0, none⟩) s.size cp2) ?_
 refine zwu (run_addr_slice (q := q1) (n := s.size) (m := cp2) (a := 31) Tryz.underlying71 Tryz.sizeOf5 (by omega)) ?_
 refine zwu (run_load1 Tryz.isAgg5 (((h5.get 0 rfl).cell 31).trans (byC_get (bl s) m3 31 (hls (i := 31) (by decide))))) ?_
 refine zwu (run_andnot8 (a := ((bl s).getD 31 0).toNat) (b := 128) an128 (by kernel_rfl) (by kernel_rfl) (u8_lt _)) ?_
 refine zwu (run_addr_slice (q := q1) (n := s.size) (m := cp2) (a := 31) Tryz.underlying71 Tryz.sizeOf5 (by omega)) ?_
 refine wl_put (k := .u8) (z := (((((bl s).getD 31 0).toNat) &&& 127 : Nat) : Int)) h5 0 rfl 31 (by rw [byC_size]; exact Nat.lt_add_right _ (hls (i := 31) (by decide))) Tryz.sizeOf5 ?_
 intro w6 h7
 have h8 : HA w [(q1, 5, byC ((bl s).set 31 (UInt8.ofNat ((((bl s).getD 31 0).toNat) &&& 127))) m3)] w6 := (by rw [← byC_put (bl s) m3 31 ((((bl s).getD 31 0).toNat) &&& 127) (hls (i := 31) (by decide)) (Nat.lt_of_le_of_lt Nat.and_le_left (u8_lt _))]; exact h7)
 clear h7
 refine znt ?_
 refine wp_seq ?_
 refine zrs ⟨(.string s :: un :: .string ⟨((bl s).set 31 (UInt8.ofNat ((((bl s).getD 31 0).toNat) &&& 127))).toArray⟩ :: .bool (decide (numS s / 2 ^ 255 % 2 = 1)) :: .slice (some ⟨q1, 0, none⟩) s.size cp2 :: .string s :: .slice (some ⟨q1, 0, none⟩) s.size cp2 :: .slice (some ⟨q1, 0, none⟩) s.size cp2 :: .pointer (some ⟨q1, 31, none⟩) :: iN .u8 (((bl s).getD 31 0).toNat) :: iN .u8 ((((bl s).getD 31 0).toNat) &&& 127) :: .pointer (some ⟨q1, 31, none⟩) :: .slice (some ⟨q1, 0, none⟩) s.size cp2 :: .string ⟨((bl s).set 31 (UInt8.ofNat ((((bl s).getD 31 0).toNat) &&& 127))).toArray⟩ :: .string s :: .bool (decide (numS s / 2 ^ 255 % 2 = 1)) :: List.replicate 0 un).toArray, []⟩ (HA w [(q1, 5, byC ((bl s).set 31 (UInt8.ofNat ((((bl s).getD 31 0).toNat) &&& 127))) m3)]) h8.drew ?_ ?_
 ·refine zsp (.slice (some ⟨q1, 0, none⟩) s.size cp2) ?_
  refine zst (fun w' h' => run_byText (n := s.size) (c := cp2) (m := m3) (l := (bl s).set 31 (UInt8.ofNat ((((bl s).getD 31 0).toNat) &&& 127))) (by simp only [List.length_set, bl_len]) (h'.get 0 rfl)) ?_
  refine zsp (.string s) ?_
  refine zsc enter62 HA.keep (fun w' h' => bit_any s 255 hs (by decide) w') ?_
  refine zsp (.string ⟨((bl s).set 31 (UInt8.ofNat ((((bl s).getD 31 0).toNat) &&& 127))).toArray⟩) ?_
  refine zsp (.bool (decide (numS s / 2 ^ 255 % 2 = 1))) ?_
  exact AllSure.nil
 intro w9 h10
 refine then_at rfl ?_
 exact wp_ret (zb h10.old)
end Go.Proofs.YtefjnfeckenmkaaGreatDoor

namespace Go.Proofs.YtefjnfeckenmkaaGreatDoor
open Go.RowKit Num
theorem run_callv {ρ : Operand → Value} {x : Operand} {xs : Array Operand} {ats : Array TypeId} {w : World} {dst : Option Tmp} {ty : TypeId} {pos : String} {aft : Array Edge} {gd : Option (Nat × Bool)} {f : FuncId} {cap args : Array Value}
  (hr : ∀ args w, (callFunc f args).run Tryz.prog w = .ok (.enter f args) w) (hx : ρ x = .func (.func f) #[] cap) (ha : #[] ++ xs.map ρ ++ cap = args) :
  (execOp ρ ⟨dst, .call { callee := .value x, args := xs, argTypes := ats }, ty, pos, aft, gd⟩).run Tryz.prog w = .ok (.enter f args) w := by
 subst ha
 simp only [execOp, resolve, hx, invoke, Deferred.ofValue, Sem.run_bind, Sem.run_pure, Result.andThen_ok]
 exact hr _ w
theorem up_true {d : Nat → Bool} {i m : Nat} (h : d m = true) : up d i true m = true := by
 by_cases e : m = i
 ·rw [e]; exact up_at _ _ _
 ·rw [up_ne _ _ e]; exact h
end Go.Proofs.YtefjnfeckenmkaaGreatDoor

namespace Go.Proofs.YtefjnfeckenmkaaGreatDoor
set_option linter.unusedVariables false
set_option maxRecDepth 100000
set_option maxHeartbeats 2000000
open Go.RowKit Num
theorem P_lt16 : P < 65536 ^ 16 := by decide
theorem wsmall_any (n : Nat) (hn : n < 4294967296) (w : World) :
  Calls Tryz.prog 78 #[iN .u32 n] w fun e w' => e = .returned (rarr n) ∧ Below w.heap.size w w' := by
 have H0 := HA.start w
 go_enter Tryz.func78, Tryz.ntmps78
 refine zsr ?_
 refine wl_make H0 51 run_alloc32 ?_
 intro q1 w2 h3
 refine znt ?_
 refine zsr ?_
 refine zwv (iN .u32 n) ?_
 refine zwc h3 enter97 (rsmall_any n hn w2) ?_
 intro w4 h5
 refine wl_fill (c' := rl n) h5 0 rfl (rl_sz n 0) (info_rl n) (one_rl n) ?_
 intro w6 (h7 : HA w [(q1, 51, rl n)] w6)
 refine znt ?_
 refine wp_ret ?_
 repeat first | refine then_ret ?_ | refine block_ret ?_
 exact bodyPost_ret (res_cell (p := 2) (by kernel_rfl) (by kernel_rfl) (h7.get 0 rfl) Tryz.underlying51 rfl (info_rl _)) rfl ⟨rfl, h7.old⟩
theorem wadd_any (a b : Nat) (ha : a < P) (hb : b < P) (w : World) :
  Calls Tryz.prog 110 #[rarr a, rarr b] w fun e w' => e = .returned (rarr (addP a b)) ∧ Below w.heap.size w w' := by
 have H0 := HA.start w
 go_enter Tryz.func110, Tryz.ntmps110
 refine zsr ?_
 refine wl_make H0 51 (run_box32 (c := rl a)) ?_
 intro q1 w2 h3
 refine wl_make h3 51 (run_box32 (c := rl b)) ?_
 intro q4 w5 h6
 refine wl_make h6 51 run_alloc32 ?_
 intro q7 w8 h9
 refine znt ?_
 refine zsr ?_
 refine wl_load h9 2 rfl Tryz.underlying51 rfl (info_rl a) ?_
 refine wl_load h9 1 rfl Tryz.underlying51 rfl (info_rl b) ?_
 refine zwc h9 enter98 (radd_any a b (Nat.lt_trans ha P_lt16) (Nat.lt_trans hb P_lt16) w8) ?_
 intro w10 h11
 refine wl_fill (c' := rl (addP a b)) h11 0 rfl (rl_sz (addP a b) 0) (info_rl (addP a b)) (one_rl (addP a b)) ?_
 intro w12 (h13 : HA w [(q7, 51, rl (addP a b)), (q4, 51, rl b), (q1, 51, rl a)] w12)
 refine znt ?_
 refine wp_ret ?_
 repeat first | refine then_ret ?_ | refine block_ret ?_
 exact bodyPost_ret (res_cell (p := 4) (by kernel_rfl) (by kernel_rfl) (h13.get 0 rfl) Tryz.underlying51 rfl (info_rl _)) rfl ⟨rfl, h13.old⟩
theorem wsub_any (a b : Nat) (ha : a < P) (hb : b < P) (w : World) :
  Calls Tryz.prog 109 #[rarr a, rarr b] w fun e w' => e = .returned (rarr (subP a b)) ∧ Below w.heap.size w w' := by
 have H0 := HA.start w
 go_enter Tryz.func109, Tryz.ntmps109
 refine zsr ?_
 refine wl_make H0 51 (run_box32 (c := rl a)) ?_
 intro q1 w2 h3
 refine wl_make h3 51 (run_box32 (c := rl b)) ?_
 intro q4 w5 h6
 refine wl_make h6 51 run_alloc32 ?_
 intro q7 w8 h9
 refine znt ?_
 refine zsr ?_
 refine wl_load h9 2 rfl Tryz.underlying51 rfl (info_rl a) ?_
 refine wl_load h9 1 rfl Tryz.underlying51 rfl (info_rl b) ?_
 refine zwc h9 enter99 (rsub_any a b ha hb w8) ?_
 intro w10 h11
 refine wl_fill (c' := rl (subP a b)) h11 0 rfl (rl_sz (subP a b) 0) (info_rl (subP a b)) (one_rl (subP a b)) ?_
 intro w12 (h13 : HA w [(q7, 51, rl (subP a b)), (q4, 51, rl b), (q1, 51, rl a)] w12)
 refine znt ?_
 refine wp_ret ?_
 repeat first | refine then_ret ?_ | refine block_ret ?_
 exact bodyPost_ret (res_cell (p := 4) (by kernel_rfl) (by kernel_rfl) (h13.get 0 rfl) Tryz.underlying51 rfl (info_rl _)) rfl ⟨rfl, h13.old⟩
theorem wmul_any (a b : Nat) (ha : a < P) (hb : b < P) (w : World) :
  Calls Tryz.prog 79 #[rarr a, rarr b] w fun e w' => e = .returned (rarr (mulP a b)) ∧ Below w.heap.size w w' := by
 have H0 := HA.start w
 go_enter Tryz.func79, Tryz.ntmps79
 refine zsr ?_
 refine wl_make H0 51 (run_box32 (c := rl a)) ?_
 intro q1 w2 h3
 refine wl_make h3 51 (run_box32 (c := rl b)) ?_
 intro q4 w5 h6
 refine wl_make h6 51 run_alloc32 ?_
 intro q7 w8 h9
 refine znt ?_
 refine zsr ?_
 refine wl_load h9 2 rfl Tryz.underlying51 rfl (info_rl a) ?_
 refine wl_load h9 1 rfl Tryz.underlying51 rfl (info_rl b) ?_
 refine zwc h9 enter90 (rmul_any a b (Nat.lt_trans ha P_lt16) (Nat.lt_trans hb P_lt16) w8) ?_
 intro w10 h11
 refine wl_fill (c' := rl (mulP a b)) h11 0 rfl (rl_sz (mulP a b) 0) (info_rl (mulP a b)) (one_rl (mulP a b)) ?_
 intro w12 (h13 : HA w [(q7, 51, rl (mulP a b)), (q4, 51, rl b), (q1, 51, rl a)] w12)
 refine znt ?_
 refine wp_ret ?_
 repeat first | refine then_ret ?_ | refine block_ret ?_
 exact bodyPost_ret (res_cell (p := 4) (by kernel_rfl) (by kernel_rfl) (h13.get 0 rfl) Tryz.underlying51 rfl (info_rl _)) rfl ⟨rfl, h13.old⟩
theorem wover_any (a b : Nat) (ha : a < P) (hb : b < P) (w : World) :
  Calls Tryz.prog 77 #[rarr a, rarr b] w fun e w' => e = .returned (rarr (mulP a (invE b))) ∧ Below w.heap.size w w' := by
 have H0 := HA.start w
 go_enter Tryz.func77, Tryz.ntmps77
 refine zsr ?_
 refine wl_make H0 51 (run_box32 (c := rl a)) ?_
 intro q1 w2 h3
 refine wl_make h3 51 (run_box32 (c := rl b)) ?_
 intro q4 w5 h6
 refine wl_make h6 51 run_alloc32 ?_
 intro q7 w8 h9
 refine znt ?_
 refine wp_seq ?_
 refine zrg (fun _ : Nat → Nat => (⟨(rarr a :: rarr b :: pt q1 :: pt q4 :: pt q7 :: rarr a :: rarr b :: rarr (invE b) :: rarr (mulP a (invE b)) :: List.replicate 0 un).toArray, []⟩ : Act)) (GF w [(q7, 51, rl 0), (q4, 51, rl b), (q1, 51, rl a)] 4 3 0 q7 51 (rl (mulP a (invE b)))) (fun d hd => GF.start h9.drew (hd 4 (by decide))) ?_ ?_
 ·refine zg (gf_load2 2 rfl Tryz.underlying51 rfl (info_rl a)) ?_
  refine zg (gf_load2 1 rfl Tryz.underlying51 rfl (info_rl b)) ?_
  refine zg (gf_callh (v := rarr (invE b)) enter50 #[rarr b] (fun w' ho => rinv_any b hb w')) ?_
  refine zg (gf_callh (v := rarr (mulP a (invE b))) enter52 #[rarr a, rarr (invE b)] (fun w' ho => wmul_any a (invE b) ha (invE_lt _) w')) ?_
  refine zg (gf_fill rfl (rl_sz (mulP a (invE b)) 0) (info_rl (mulP a (invE b))) (one_rl (mulP a (invE b)))) ?_
  exact AllGhost.nil
 intro _ w10 g11
 have h12 : HA w [(q7, 51, rl (mulP a (invE b))), (q4, 51, rl b), (q1, 51, rl a)] w10 := g11.held
 clear g11
 refine then_at rfl ?_
 refine wp_ret ?_
 repeat first | refine then_ret ?_ | refine block_ret ?_
 exact bodyPost_ret (res_cell (p := 4) (by kernel_rfl) (by kernel_rfl) (h12.get 0 rfl) Tryz.underlying51 rfl (info_rl _)) rfl ⟨rfl, h12.old⟩
end Go.Proofs.YtefjnfeckenmkaaGreatDoor

namespace Go.Proofs.YtefjnfeckenmkaaGreatDoor
set_option linter.unusedVariables false
set_option maxRecDepth 100000
set_option maxHeartbeats 2000000
open Go.RowKit Num
theorem psame_yes (a b c d : Nat) (ha : a < P) (hb : b < P) (hc : c < P) (hd : d < P) (h1 : a = c) (h2 : b = d) (w : World) :
  Calls Tryz.prog 29 #[.agg (pr a b), .agg (pr c d)] w fun e w' => e = .returned (.bool true) ∧ Below w.heap.size w w' := by
 have H0 := HA.start w
 go_enter Tryz.func29, Tryz.ntmps29
 refine zsr ?_
 refine wl_make H0 39 (run_box27 (c := pr a b)) ?_
 intro q1 w2 h3
 refine wl_make h3 39 (run_box27 (c := pr c d)) ?_
 intro q4 w5 h6
 refine zwv (.bool false) ?_
 refine znt ?_
 refine zsr ?_
 refine zwv (.pointer (some ⟨q1, 0, none⟩)) ?_
 refine zwu (run_part (q := q1) (off := 4 * 0) (n := a) (h6.get 1 rfl) (fun i hi => pr_get0 a b i hi)) ?_
 refine zwv (.pointer (some ⟨q4, 0, none⟩)) ?_
 refine zwu (run_part (q := q4) (off := 4 * 0) (n := c) (h6.get 0 rfl) (fun i hi => pr_get0 c d i hi)) ?_
 refine zwc h6 enter40 (Same_yes a c ha hc h1 w5) ?_
 intro w7 h8
 refine zwv (.bool true) ?_
 refine zwv (.pointer (some ⟨q1, 4, none⟩)) ?_
 refine zwu (run_part (q := q1) (off := 4 * 1) (n := b) (h8.get 1 rfl) (fun i _ => pr_get1 a b i)) ?_
 refine zwv (.pointer (some ⟨q4, 4, none⟩)) ?_
 refine zwu (run_part (q := q4) (off := 4 * 1) (n := d) (h8.get 0 rfl) (fun i _ => pr_get1 c d i)) ?_
 refine zwc h8 enter40 (Same_yes b d hb hd h2 w7) ?_
 intro w9 h10
 refine zwv (.bool true) ?_
 refine zwv (.bool true) ?_
 refine znt ?_
 exact wp_ret (zb h10.old)
theorem psame_no1 (a b c d : Nat) (ha : a < P) (hb : b < P) (hc : c < P) (hd : d < P) (h1 : a ≠ c) (w : World) :
  Calls Tryz.prog 29 #[.agg (pr a b), .agg (pr c d)] w fun e w' => e = .returned (.bool false) ∧ Below w.heap.size w w' := by
 have H0 := HA.start w
 go_enter Tryz.func29, Tryz.ntmps29
 refine zsr ?_
 refine wl_make H0 39 (run_box27 (c := pr a b)) ?_
 intro q1 w2 h3
 refine wl_make h3 39 (run_box27 (c := pr c d)) ?_
 intro q4 w5 h6
 refine zwv (.bool false) ?_
 refine znt ?_
 refine zsr ?_
 refine zwv (.pointer (some ⟨q1, 0, none⟩)) ?_
 refine zwu (run_part (q := q1) (off := 4 * 0) (n := a) (h6.get 1 rfl) (fun i hi => pr_get0 a b i hi)) ?_
 refine zwv (.pointer (some ⟨q4, 0, none⟩)) ?_
 refine zwu (run_part (q := q4) (off := 4 * 0) (n := c) (h6.get 0 rfl) (fun i hi => pr_get0 c d i hi)) ?_
 refine zwc h6 enter40 (Same_no a c ha hc h1 w5) ?_
 intro w7 h8
 refine zwv (.bool false) ?_
 refine wl_skip ?_
 refine wl_skip ?_
 refine wl_skip ?_
 refine wl_skip ?_
 refine wl_skip ?_
 refine zwv (.bool false) ?_
 refine zwv (.bool false) ?_
 refine znt ?_
 exact wp_ret (zb h8.old)
theorem psame_no2 (a b c d : Nat) (ha : a < P) (hb : b < P) (hc : c < P) (hd : d < P) (h1 : a = c) (h2 : b ≠ d) (w : World) :
  Calls Tryz.prog 29 #[.agg (pr a b), .agg (pr c d)] w fun e w' => e = .returned (.bool false) ∧ Below w.heap.size w w' := by
 have H0 := HA.start w
 go_enter Tryz.func29, Tryz.ntmps29
 refine zsr ?_
 refine wl_make H0 39 (run_box27 (c := pr a b)) ?_
 intro q1 w2 h3
 refine wl_make h3 39 (run_box27 (c := pr c d)) ?_
 intro q4 w5 h6
 refine zwv (.bool false) ?_
 refine znt ?_
 refine zsr ?_
 refine zwv (.pointer (some ⟨q1, 0, none⟩)) ?_
 refine zwu (run_part (q := q1) (off := 4 * 0) (n := a) (h6.get 1 rfl) (fun i hi => pr_get0 a b i hi)) ?_
 refine zwv (.pointer (some ⟨q4, 0, none⟩)) ?_
 refine zwu (run_part (q := q4) (off := 4 * 0) (n := c) (h6.get 0 rfl) (fun i hi => pr_get0 c d i hi)) ?_
 refine zwc h6 enter40 (Same_yes a c ha hc h1 w5) ?_
 intro w7 h8
 refine zwv (.bool true) ?_
 refine zwv (.pointer (some ⟨q1, 4, none⟩)) ?_
 refine zwu (run_part (q := q1) (off := 4 * 1) (n := b) (h8.get 1 rfl) (fun i _ => pr_get1 a b i)) ?_
 refine zwv (.pointer (some ⟨q4, 4, none⟩)) ?_
 refine zwu (run_part (q := q4) (off := 4 * 1) (n := d) (h8.get 0 rfl) (fun i _ => pr_get1 c d i)) ?_
 refine zwc h8 enter40 (Same_no b d hb hd h2 w7) ?_
 intro w9 h10
 refine zwv (.bool false) ?_
 refine zwv (.bool false) ?_
 refine znt ?_
 exact wp_ret (zb h10.old)
theorem run_geq {ρ : Operand → Value} {x y : Operand} {w : World} {dst : Option Tmp} {T T2 ty : TypeId} {pos : String} {aft : Array Edge} {gd : Option (Nat × Bool)} {P : Program} {k : IntKind} {a b : Nat}   (t : Bool) (ht : decide (b ≤ a) = t) (hx : ρ x = iN k a := by kernel_rfl) (hy : ρ y = iN k b := by kernel_rfl) :
  (execOp ρ ⟨dst, .binOp .geq T x y T2, ty, pos, aft, gd⟩).run P w = .ok (.value (.bool t)) w :=
 run_geq0 (k := k) (a := (a : Int)) (b := (b : Int)) (hx := hx) (hy := hy) t (by rw [← ht]; exact decide_eq_decide.2 Int.ofNat_le)
theorem Root_yes (a : Nat) {n : Nat} (ha : a < P) (h : rootP a = some n) (w : World) (V : Vars w) : Calls Tryz.prog 104 #[arr a] w fun e w' => e = .returned (.tuple #[arr n, .bool true]) ∧ Below w.heap.size w w' := by
 have h1 := Root_any a ha w V
 rw [h] at h1
 exact h1
theorem Root_no (a : Nat) (ha : a < P) (h : rootP a = none) (w : World) (V : Vars w) : Calls Tryz.prog 104 #[arr a] w fun e w' => e = .returned (.tuple #[arr 0, .bool false]) ∧ Below w.heap.size w w' := by
 have h1 := Root_any a ha w V
 rw [h] at h1
 exact h1
def halfN (n : Nat) : Nat := if 97 ≤ n then n - 97 + 10 else n - 48
theorem half_up (n : Nat) (hn : n < 128) (h : 97 ≤ n) (w : World) :
  Calls Tryz.prog 65 #[iN .u8 n] w fun e w' => e = .returned (iN .u8 (n - 97 + 10)) ∧ Below w.heap.size w w' := by
 have H0 := HA.start w
 go_enter Tryz.func65, Tryz.ntmps65
 refine zsr ?_
 refine zwv (iN .u8 0) ?_
 refine znt ?_
 refine wp_seq ?_
 refine zsr ?_
 refine zwv (iN .u8 n) ?_
 refine zwu (run_geq (k := .u8) (a := n) (b := 97) true (decide_eq_true h)) ?_
 refine znt ?_
 refine zct ?_
 refine zsr ?_
 refine zwv (iN .u8 n) ?_
 refine zwu (run_sub (k := .u8) (a := n) (b := 97) (by omega) (by simp only [top]; omega)) ?_
 refine zwu (run_add (k := .u8) (a := n - 97) (b := 10) (by simp only [top]; omega)) ?_
 refine zwv (iN .u8 ((n - 97) + 10)) ?_
 refine znt ?_
 refine wp_ret ?_
 repeat first | refine then_ret ?_ | refine block_ret ?_
 exact bodyPost_ret (by kernel_rfl) rfl ⟨rfl, H0.old⟩
theorem half_dn (n : Nat) (hn : n < 128) (h : ¬ 97 ≤ n) (h0 : 48 ≤ n) (w : World) :
  Calls Tryz.prog 65 #[iN .u8 n] w fun e w' => e = .returned (iN .u8 (n - 48)) ∧ Below w.heap.size w w' := by
 have H0 := HA.start w
 go_enter Tryz.func65, Tryz.ntmps65
 refine zsr ?_
 refine zwv (iN .u8 0) ?_
 refine znt ?_
 refine wp_seq ?_
 refine zsr ?_
 refine zwv (iN .u8 n) ?_
 refine zwu (run_geq (k := .u8) (a := n) (b := 97) false (decide_eq_false h)) ?_
 refine znt ?_
 refine zcf ?_
 refine wp_skip ?_
 refine then_at rfl ?_
 refine zsr ?_
 refine zwv (iN .u8 n) ?_
 refine zwu (run_sub (k := .u8) (a := n) (b := 48) (by omega) (by simp only [top]; omega)) ?_
 refine zwv (iN .u8 (n - 48)) ?_
 refine znt ?_
 refine wp_ret ?_
 repeat first | refine then_ret ?_ | refine block_ret ?_
 exact bodyPost_ret (by kernel_rfl) rfl ⟨rfl, H0.old⟩
def bsq (y : Nat) : Nat := mulP (mulP (subP (mulP y y) 1) 121666) (invE (subP 121666 (mulP (mulP y y) 121665)))
theorem bsq_lt (y : Nat) : bsq y < P := mulP_lt _ _
theorem beside_yes (y : Nat) (hy : y < P) (rt : Nat) (hr : rt < P) (hroot : rootP (bsq y) = some rt) (w : World) (VV : Vars w) :
  Calls Tryz.prog 68 #[arr y] w fun e w' => e = .returned (.tuple #[arr rt, .bool true]) ∧ Below w.heap.size w w' := by
 have H0 := HA.start w
 go_enter Tryz.func68, Tryz.ntmps68
 refine zsr ?_
 refine wl_make H0 37 (run_box25 (c := el y)) ?_
 intro q1 w2 h3
 refine wl_make h3 37 run_alloc25 ?_
 intro q4 w5 h6
 refine zwv (.bool false) ?_
 refine znt ?_
 refine zsr ?_
 refine wl_load h6 1 rfl Tryz.underlying37 rfl (info_el _) ?_
 refine zwc h6 enter78 (squared_any y hy w5 (VV.below h6.old VV.big)) ?_
 intro w7 h8
 refine wl_make h8 37 run_alloc25 ?_
 intro q9 w10 h11
 refine wl_fill (c' := el (mulP y y)) h11 0 rfl (el_sz _ _) (info_el _) (one_el _) ?_
 intro w12 (h13 : HA w [(q9, 37, el (mulP y y)), (q4, 37, el 0), (q1, 37, el y)] w12)
 refine znt ?_
 refine wp_seq ?_
 obtain ⟨B14, eB14⟩ : ∃ B, B = w12.heap.size := ⟨_, rfl⟩
 refine zrg (fun g : Nat → Nat => (⟨(arr y :: pt q1 :: pt q4 :: .bool false :: pt q9 :: pt (g 5) :: un :: arr y :: arr (mulP y y) :: arr (mulP y y) :: arr 1 :: arr (subP (mulP y y) 1) :: arr 121666 :: arr (mulP (subP (mulP y y) 1) 121666) :: List.replicate 12 un).toArray, []⟩ : Act)) (GS w [(q9, 37, el (mulP y y)), (q4, 37, el 0), (q1, 37, el y)] B14 1 5 6 37 (el 0) (fun _ => el (mulP (subP (mulP y y) 1) 121666))) (fun d hd => GS.start h13.drew eB14 (by decide) (fun _ _ => (el_sz _ _)) (fun j hj => hd j (Nat.lt_of_lt_of_le hj (by decide)))) ?_ ?_
 ·refine zg (ghost_load 0 rfl Tryz.underlying37 rfl (info_el _)) ?_
  refine zg (ghost_call (v := arr 1) enter41 #[iN .u32 1] (fun w' h' => Small_any 1 (by decide) w')) ?_
  refine zg (ghost_call (v := arr (subP (mulP y y) 1)) enter79 #[arr (mulP y y), arr 1] (fun w' h' => Sub_any (mulP y y) 1 (mulP_lt _ _) (by decide) w' (VV.below h'.old VV.big))) ?_
  refine zg (ghost_call (v := arr 121666) enter41 #[iN .u32 121666] (fun w' h' => Small_any 121666 (by decide) w')) ?_
  refine zg (ghost_call (v := arr (mulP (subP (mulP y y) 1) 121666)) enter80 #[arr (subP (mulP y y) 1), arr 121666] (fun w' h' => Mul_any (subP (mulP y y) 1) 121666 (subP_lt _ _) (by decide) w' (VV.below h'.old VV.big))) ?_
  refine zg (ghost_make 0 rfl (fun _ _ => run_alloc25)) ?_
  refine zg (ghost_fill 0 rfl (info_el _) (one_el _)) ?_
  exact AllGhost.nil
 intro g w15 g16
 have h17 : HA w [(g 5, 37, el (mulP (subP (mulP y y) 1) 121666)), (q9, 37, el (mulP y y)), (q4, 37, el 0), (q1, 37, el y)] w15 := g16.one
 clear g16 eB14
 generalize g 5 = q18 at h17 ⊢
 clear g
 refine then_at rfl ?_
 refine wp_seq ?_
 obtain ⟨B19, eB19⟩ : ∃ B, B = w15.heap.size := ⟨_, rfl⟩
 refine zrg (fun g : Nat → Nat => (⟨(arr y :: pt q1 :: pt q4 :: .bool false :: pt q9 :: pt q18 :: pt (g 5) :: arr y :: arr (mulP y y) :: arr (mulP y y) :: arr 1 :: arr (subP (mulP y y) 1) :: arr 121666 :: arr (mulP (subP (mulP y y) 1) 121666) :: arr 121666 :: arr (mulP y y) :: arr 121665 :: arr (mulP (mulP y y) 121665) :: arr (subP 121666 (mulP (mulP y y) 121665)) :: List.replicate 7 un).toArray, []⟩ : Act)) (GS w [(q18, 37, el (mulP (subP (mulP y y) 1) 121666)), (q9, 37, el (mulP y y)), (q4, 37, el 0), (q1, 37, el y)] B19 1 5 6 37 (el 0) (fun _ => el (subP 121666 (mulP (mulP y y) 121665)))) (fun d hd => GS.start h17.drew eB19 (by decide) (fun _ _ => (el_sz _ _)) (fun j hj => hd j (Nat.lt_of_lt_of_le hj (by decide)))) ?_ ?_
 ·refine zg (ghost_call (v := arr 121666) enter41 #[iN .u32 121666] (fun w' h' => Small_any 121666 (by decide) w')) ?_
  refine zg (ghost_load 1 rfl Tryz.underlying37 rfl (info_el _)) ?_
  refine zg (ghost_call (v := arr 121665) enter41 #[iN .u32 121665] (fun w' h' => Small_any 121665 (by decide) w')) ?_
  refine zg (ghost_call (v := arr (mulP (mulP y y) 121665)) enter80 #[arr (mulP y y), arr 121665] (fun w' h' => Mul_any (mulP y y) 121665 (mulP_lt _ _) (by decide) w' (VV.below h'.old VV.big))) ?_
  refine zg (ghost_call (v := arr (subP 121666 (mulP (mulP y y) 121665))) enter79 #[arr 121666, arr (mulP (mulP y y) 121665)] (fun w' h' => Sub_any 121666 (mulP (mulP y y) 121665) (by decide) (mulP_lt _ _) w' (VV.below h'.old VV.big))) ?_
  refine zg (ghost_make 0 rfl (fun _ _ => run_alloc25)) ?_
  refine zg (ghost_fill 0 rfl (info_el _) (one_el _)) ?_
  exact AllGhost.nil
 intro g w20 g21
 have h22 : HA w [(g 5, 37, el (subP 121666 (mulP (mulP y y) 121665))), (q18, 37, el (mulP (subP (mulP y y) 1) 121666)), (q9, 37, el (mulP y y)), (q4, 37, el 0), (q1, 37, el y)] w20 := g21.one
 clear g21 eB19
 generalize g 5 = q23 at h22 ⊢
 clear g
 refine then_at rfl ?_
 refine wp_seq ?_
 refine zrg (fun _ : Nat → Nat => (⟨(arr y :: pt q1 :: pt q4 :: .bool true :: pt q9 :: pt q18 :: pt q23 :: arr y :: arr (mulP y y) :: arr (mulP y y) :: arr 1 :: arr (subP (mulP y y) 1) :: arr 121666 :: arr (mulP (subP (mulP y y) 1) 121666) :: arr 121666 :: arr (mulP y y) :: arr 121665 :: arr (mulP (mulP y y) 121665) :: arr (subP 121666 (mulP (mulP y y) 121665)) :: arr (mulP (subP (mulP y y) 1) 121666) :: arr (subP 121666 (mulP (mulP y y) 121665)) :: arr (invE (subP 121666 (mulP (mulP y y) 121665))) :: arr (mulP (mulP (subP (mulP y y) 1) 121666) (invE (subP 121666 (mulP (mulP y y) 121665)))) :: .tuple #[arr rt, .bool true] :: arr rt :: .bool true :: List.replicate 0 un).toArray, []⟩ : Act)) (GF w [(q23, 37, el (subP 121666 (mulP (mulP y y) 121665))), (q18, 37, el (mulP (subP (mulP y y) 1) 121666)), (q9, 37, el (mulP y y)), (q4, 37, el 0), (q1, 37, el y)] 7 5 3 q4 37 (el rt)) (fun d hd => GF.start h22.drew (hd 7 (by decide))) ?_ ?_
 ·refine zg (gf_load2 1 rfl Tryz.underlying37 rfl (info_el _)) ?_
  refine zg (gf_load2 0 rfl Tryz.underlying37 rfl (info_el _)) ?_
  refine zg (gf_callh (v := arr (invE (subP 121666 (mulP (mulP y y) 121665)))) enter81 #[arr (subP 121666 (mulP (mulP y y) 121665))] (fun w' ho => Inv_any (subP 121666 (mulP (mulP y y) 121665)) (subP_lt _ _) w' (VV.below ho VV.big))) ?_
  refine zg (gf_callh (v := arr (mulP (mulP (subP (mulP y y) 1) 121666) (invE (subP 121666 (mulP (mulP y y) 121665))))) enter80 #[arr (mulP (subP (mulP y y) 1) 121666), arr (invE (subP 121666 (mulP (mulP y y) 121665)))] (fun w' ho => Mul_any (mulP (subP (mulP y y) 1) 121666) (invE (subP 121666 (mulP (mulP y y) 121665))) (mulP_lt _ _) (invE_lt _) w' (VV.below ho VV.big))) ?_
  refine zg (gf_callh (v := .tuple #[arr rt, .bool true]) enter82 #[arr (mulP (mulP (subP (mulP y y) 1) 121666) (invE (subP 121666 (mulP (mulP y y) 121665))))] (fun w' ho => Root_yes (bsq y) (bsq_lt y) hroot w' (VV.below ho VV.big))) ?_
  refine zg (gf_plain (v := arr rt)) ?_
  refine zg (gf_plain (v := .bool true)) ?_
  refine zg (gf_fill rfl (el_sz _ _) (info_el _) (one_el _)) ?_
  refine zg (gf_plain (v := .bool true)) ?_
  exact AllGhost.nil
 intro _ w24 g25
 have h26 : HA w [(q23, 37, el (subP 121666 (mulP (mulP y y) 121665))), (q18, 37, el (mulP (subP (mulP y y) 1) 121666)), (q9, 37, el (mulP y y)), (q4, 37, el rt), (q1, 37, el y)] w24 := g25.held
 clear g25
 refine then_at rfl ?_
 refine wp_ret ?_
 repeat first | refine then_ret ?_ | refine block_ret ?_
 exact bodyPost_ret (res_cell_tmp (p := 2) (r := 3) (by kernel_rfl) (by kernel_rfl) (by kernel_rfl) (h26.get 3 rfl) Tryz.underlying37 rfl (info_el _)) rfl ⟨rfl, h26.old⟩
theorem beside_no (y : Nat) (hy : y < P) (hroot : rootP (bsq y) = none) (w : World) (VV : Vars w) :
  Calls Tryz.prog 68 #[arr y] w fun e w' => e = .returned (.tuple #[arr 0, .bool false]) ∧ Below w.heap.size w w' := by
 have H0 := HA.start w
 go_enter Tryz.func68, Tryz.ntmps68
 refine zsr ?_
 refine wl_make H0 37 (run_box25 (c := el y)) ?_
 intro q1 w2 h3
 refine wl_make h3 37 run_alloc25 ?_
 intro q4 w5 h6
 refine zwv (.bool false) ?_
 refine znt ?_
 refine zsr ?_
 refine wl_load h6 1 rfl Tryz.underlying37 rfl (info_el _) ?_
 refine zwc h6 enter78 (squared_any y hy w5 (VV.below h6.old VV.big)) ?_
 intro w7 h8
 refine wl_make h8 37 run_alloc25 ?_
 intro q9 w10 h11
 refine wl_fill (c' := el (mulP y y)) h11 0 rfl (el_sz _ _) (info_el _) (one_el _) ?_
 intro w12 (h13 : HA w [(q9, 37, el (mulP y y)), (q4, 37, el 0), (q1, 37, el y)] w12)
 refine znt ?_
 refine wp_seq ?_
 obtain ⟨B14, eB14⟩ : ∃ B, B = w12.heap.size := ⟨_, rfl⟩
 refine zrg (fun g : Nat → Nat => (⟨(arr y :: pt q1 :: pt q4 :: .bool false :: pt q9 :: pt (g 5) :: un :: arr y :: arr (mulP y y) :: arr (mulP y y) :: arr 1 :: arr (subP (mulP y y) 1) :: arr 121666 :: arr (mulP (subP (mulP y y) 1) 121666) :: List.replicate 12 un).toArray, []⟩ : Act)) (GS w [(q9, 37, el (mulP y y)), (q4, 37, el 0), (q1, 37, el y)] B14 1 5 6 37 (el 0) (fun _ => el (mulP (subP (mulP y y) 1) 121666))) (fun d hd => GS.start h13.drew eB14 (by decide) (fun _ _ => (el_sz _ _)) (fun j hj => hd j (Nat.lt_of_lt_of_le hj (by decide)))) ?_ ?_
 ·refine zg (ghost_load 0 rfl Tryz.underlying37 rfl (info_el _)) ?_
  refine zg (ghost_call (v := arr 1) enter41 #[iN .u32 1] (fun w' h' => Small_any 1 (by decide) w')) ?_
  refine zg (ghost_call (v := arr (subP (mulP y y) 1)) enter79 #[arr (mulP y y), arr 1] (fun w' h' => Sub_any (mulP y y) 1 (mulP_lt _ _) (by decide) w' (VV.below h'.old VV.big))) ?_
  refine zg (ghost_call (v := arr 121666) enter41 #[iN .u32 121666] (fun w' h' => Small_any 121666 (by decide) w')) ?_
  refine zg (ghost_call (v := arr (mulP (subP (mulP y y) 1) 121666)) enter80 #[arr (subP (mulP y y) 1), arr 121666] (fun w' h' => Mul_any (subP (mulP y y) 1) 121666 (subP_lt _ _) (by decide) w' (VV.below h'.old VV.big))) ?_
  refine zg (ghost_make 0 rfl (fun _ _ => run_alloc25)) ?_
  refine zg (ghost_fill 0 rfl (info_el _) (one_el _)) ?_
  exact AllGhost.nil
 intro g w15 g16
 have h17 : HA w [(g 5, 37, el (mulP (subP (mulP y y) 1) 121666)), (q9, 37, el (mulP y y)), (q4, 37, el 0), (q1, 37, el y)] w15 := g16.one
 clear g16 eB14
 generalize g 5 = q18 at h17 ⊢
 clear g
 refine then_at rfl ?_
 refine wp_seq ?_
 obtain ⟨B19, eB19⟩ : ∃ B, B = w15.heap.size := ⟨_, rfl⟩
 refine zrg (fun g : Nat → Nat => (⟨(arr y :: pt q1 :: pt q4 :: .bool false :: pt q9 :: pt q18 :: pt (g 5) :: arr y :: arr (mulP y y) :: arr (mulP y y) :: arr 1 :: arr (subP (mulP y y) 1) :: arr 121666 :: arr (mulP (subP (mulP y y) 1) 121666) :: arr 121666 :: arr (mulP y y) :: arr 121665 :: arr (mulP (mulP y y) 121665) :: arr (subP 121666 (mulP (mulP y y) 121665)) :: List.replicate 7 un).toArray, []⟩ : Act)) (GS w [(q18, 37, el (mulP (subP (mulP y y) 1) 121666)), (q9, 37, el (mulP y y)), (q4, 37, el 0), (q1, 37, el y)] B19 1 5 6 37 (el 0) (fun _ => el (subP 121666 (mulP (mulP y y) 121665)))) (fun d hd => GS.start h17.drew eB19 (by decide) (fun _ _ => (el_sz _ _)) (fun j hj => hd j (Nat.lt_of_lt_of_le hj (by decide)))) ?_ ?_
 ·refine zg (ghost_call (v := arr 121666) enter41 #[iN .u32 121666] (fun w' h' => Small_any 121666 (by decide) w')) ?_
  refine zg (ghost_load 1 rfl Tryz.underlying37 rfl (info_el _)) ?_
  refine zg (ghost_call (v := arr 121665) enter41 #[iN .u32 121665] (fun w' h' => Small_any 121665 (by decide) w')) ?_
  refine zg (ghost_call (v := arr (mulP (mulP y y) 121665)) enter80 #[arr (mulP y y), arr 121665] (fun w' h' => Mul_any (mulP y y) 121665 (mulP_lt _ _) (by decide) w' (VV.below h'.old VV.big))) ?_
  refine zg (ghost_call (v := arr (subP 121666 (mulP (mulP y y) 121665))) enter79 #[arr 121666, arr (mulP (mulP y y) 121665)] (fun w' h' => Sub_any 121666 (mulP (mulP y y) 121665) (by decide) (mulP_lt _ _) w' (VV.below h'.old VV.big))) ?_
  refine zg (ghost_make 0 rfl (fun _ _ => run_alloc25)) ?_
  refine zg (ghost_fill 0 rfl (info_el _) (one_el _)) ?_
  exact AllGhost.nil
 intro g w20 g21
 have h22 : HA w [(g 5, 37, el (subP 121666 (mulP (mulP y y) 121665))), (q18, 37, el (mulP (subP (mulP y y) 1) 121666)), (q9, 37, el (mulP y y)), (q4, 37, el 0), (q1, 37, el y)] w20 := g21.one
 clear g21 eB19
 generalize g 5 = q23 at h22 ⊢
 clear g
 refine then_at rfl ?_
 refine wp_seq ?_
 refine zrg (fun _ : Nat → Nat => (⟨(arr y :: pt q1 :: pt q4 :: .bool false :: pt q9 :: pt q18 :: pt q23 :: arr y :: arr (mulP y y) :: arr (mulP y y) :: arr 1 :: arr (subP (mulP y y) 1) :: arr 121666 :: arr (mulP (subP (mulP y y) 1) 121666) :: arr 121666 :: arr (mulP y y) :: arr 121665 :: arr (mulP (mulP y y) 121665) :: arr (subP 121666 (mulP (mulP y y) 121665)) :: arr (mulP (subP (mulP y y) 1) 121666) :: arr (subP 121666 (mulP (mulP y y) 121665)) :: arr (invE (subP 121666 (mulP (mulP y y) 121665))) :: arr (mulP (mulP (subP (mulP y y) 1) 121666) (invE (subP 121666 (mulP (mulP y y) 121665)))) :: .tuple #[arr 0, .bool false] :: arr 0 :: .bool false :: List.replicate 0 un).toArray, []⟩ : Act)) (GF w [(q23, 37, el (subP 121666 (mulP (mulP y y) 121665))), (q18, 37, el (mulP (subP (mulP y y) 1) 121666)), (q9, 37, el (mulP y y)), (q4, 37, el 0), (q1, 37, el y)] 7 5 3 q4 37 (el 0)) (fun d hd => GF.start h22.drew (hd 7 (by decide))) ?_ ?_
 ·refine zg (gf_load2 1 rfl Tryz.underlying37 rfl (info_el _)) ?_
  refine zg (gf_load2 0 rfl Tryz.underlying37 rfl (info_el _)) ?_
  refine zg (gf_callh (v := arr (invE (subP 121666 (mulP (mulP y y) 121665)))) enter81 #[arr (subP 121666 (mulP (mulP y y) 121665))] (fun w' ho => Inv_any (subP 121666 (mulP (mulP y y) 121665)) (subP_lt _ _) w' (VV.below ho VV.big))) ?_
  refine zg (gf_callh (v := arr (mulP (mulP (subP (mulP y y) 1) 121666) (invE (subP 121666 (mulP (mulP y y) 121665))))) enter80 #[arr (mulP (subP (mulP y y) 1) 121666), arr (invE (subP 121666 (mulP (mulP y y) 121665)))] (fun w' ho => Mul_any (mulP (subP (mulP y y) 1) 121666) (invE (subP 121666 (mulP (mulP y y) 121665))) (mulP_lt _ _) (invE_lt _) w' (VV.below ho VV.big))) ?_
  refine zg (gf_callh (v := .tuple #[arr 0, .bool false]) enter82 #[arr (mulP (mulP (subP (mulP y y) 1) 121666) (invE (subP 121666 (mulP (mulP y y) 121665))))] (fun w' ho => Root_no (bsq y) (bsq_lt y) hroot w' (VV.below ho VV.big))) ?_
  refine zg (gf_plain (v := arr 0)) ?_
  refine zg (gf_plain (v := .bool false)) ?_
  refine zg (gf_fill rfl (el_sz _ _) (info_el _) (one_el _)) ?_
  refine zg (gf_plain (v := .bool false)) ?_
  exact AllGhost.nil
 intro _ w24 g25
 have h26 : HA w [(q23, 37, el (subP 121666 (mulP (mulP y y) 121665))), (q18, 37, el (mulP (subP (mulP y y) 1) 121666)), (q9, 37, el (mulP y y)), (q4, 37, el 0), (q1, 37, el y)] w24 := g25.held
 clear g25
 refine then_at rfl ?_
 refine wp_ret ?_
 repeat first | refine then_ret ?_ | refine block_ret ?_
 exact bodyPost_ret (res_cell_tmp (p := 2) (r := 3) (by kernel_rfl) (by kernel_rfl) (by kernel_rfl) (h26.get 3 rfl) Tryz.underlying37 rfl (info_el _)) rfl ⟨rfl, h26.old⟩
end Go.Proofs.YtefjnfeckenmkaaGreatDoor

namespace Go.Proofs.YtefjnfeckenmkaaGreatDoor
set_option linter.unusedVariables false
set_option maxRecDepth 100000
set_option maxHeartbeats 2000000
open Go.RowKit Num
def bX : Nat := 15112221349535400772501151409588531511454012693041857206046113283949847762202
def bY : Nat := 46316835694926478169428394003475163141307993866256225615783033603165251855960
theorem bX_lt : bX < P := by decide
theorem bY_lt : bY < P := by decide
theorem bX_of : ofP { data := #[26, 213, 37, 143, 96, 45, 86, 201, 178, 167, 37, 149, 96, 199, 44, 105, 92, 220, 214, 253, 49, 226, 164, 192, 254, 83, 110, 205, 211, 54, 105, 33] } = some bX := by decide +kernel
theorem bY_of : ofP { data := #[88, 102, 102, 102, 102, 102, 102, 102, 102, 102, 102, 102, 102, 102, 102, 102, 102, 102, 102, 102, 102, 102, 102, 102, 102, 102, 102, 102, 102, 102, 102, 102] } = some bY := by decide +kernel
theorem Base_any (w : World) (VV : Vars w) :
  Calls Tryz.prog 16 #[] w fun e w' => e = .returned (.agg (pr bX (subP bY 1))) ∧ Below w.heap.size w w' := by
 have H0 := HA.start w
 go_enter Tryz.func16, Tryz.ntmps16
 refine zsr ?_
 refine wl_make H0 39 run_alloc27 ?_
 intro q1 w2 h3
 refine znt ?_
 refine zsr ?_
 refine zwc (v := .tuple #[arr bX, .bool true]) (args := #[.string { data := #[26, 213, 37, 143, 96, 45, 86, 201, 178, 167, 37, 149, 96, 199, 44, 105, 92, 220, 214, 253, 49, 226, 164, 192, 254, 83, 110, 205, 211, 54, 105, 33] }]) h3 enter38 (Of_yes _ bX_of w2 (VV.below h3.old VV.big)) ?_
 intro w4 h5
 refine zwv (.tuple #[arr bX, .bool true]) ?_
 refine zwv (arr bX) ?_
 refine zwv (.bool true) ?_
 refine wl_make h5 37 run_alloc25 ?_
 intro q6 w7 h8
 refine wl_fill (c' := el bX) h8 0 rfl (el_sz _ _) (info_el _) (one_el _) ?_
 intro w9 (h10 : HA w [(q6, 37, el bX), (q1, 39, pr 0 0)] w9)
 refine zwv (.bool true) ?_
 refine znt ?_
 refine zsr ?_
 refine zwc (v := .tuple #[arr bY, .bool true]) (args := #[.string { data := #[88, 102, 102, 102, 102, 102, 102, 102, 102, 102, 102, 102, 102, 102, 102, 102, 102, 102, 102, 102, 102, 102, 102, 102, 102, 102, 102, 102, 102, 102, 102, 102] }]) h10 enter38 (Of_yes _ bY_of w9 (VV.below h10.old VV.big)) ?_
 intro w11 h12
 refine zwv (.tuple #[arr bY, .bool true]) ?_
 refine zwv (arr bY) ?_
 refine zwv (.bool true) ?_
 refine wl_make h12 37 run_alloc25 ?_
 intro q13 w14 h15
 refine wl_fill (c' := el bY) h15 0 rfl (el_sz _ _) (info_el _) (one_el _) ?_
 intro w16 (h17 : HA w [(q13, 37, el bY), (q6, 37, el bX), (q1, 39, pr 0 0)] w16)
 refine zwv (.bool true) ?_
 refine znt ?_
 refine zsr ?_
 refine wl_load h17 1 rfl Tryz.underlying37 rfl (info_el _) ?_
 refine wl_load h17 0 rfl Tryz.underlying37 rfl (info_el _) ?_
 refine zwc h17 enter43 (at_any bX bY bX_lt bY_lt w16 (VV.below h17.old VV.big)) ?_
 intro w18 h19
 refine wl_fill (c' := pr bX (subP bY 1)) h19 2 rfl (pr_sz bX (subP bY 1) 0 0) (info27p bX (subP bY 1)) (one_pr bX (subP bY 1)) ?_
 intro w20 (h21 : HA w [(q13, 37, el bY), (q6, 37, el bX), (q1, 39, pr bX (subP bY 1))] w20)
 refine znt ?_
 refine wp_ret ?_
 repeat first | refine then_ret ?_ | refine block_ret ?_
 exact bodyPost_ret (res_cell (p := 0) (by kernel_rfl) (by kernel_rfl) (h21.get 2 rfl) Tryz.underlying39 rfl (info27p bX (subP bY 1))) rfl ⟨rfl, h21.old⟩
end Go.Proofs.YtefjnfeckenmkaaGreatDoor

namespace Go.Proofs.YtefjnfeckenmkaaGreatDoor
set_option linter.unusedVariables false
set_option maxRecDepth 100000
set_option maxHeartbeats 2000000
open Go.RowKit Num
theorem or128_lt (u : UInt8) : u.toNat ||| 128 < 256 := Nat.or_lt_two_pow (n := 8) (UInt8.toNat_lt u) (by decide)
def oddS (y : Nat) : ByteArray := ⟨((bl (bytesOf y)).set 31 (UInt8.ofNat (((bl (bytesOf y)).getD 31 0).toNat ||| 128))).toArray⟩
theorem PBytes_odd (x r : Nat) (hx : x < P) (hr : r < P) (hodd : x % 2 = 1) (w : World) (VV : Vars w) :
  Calls Tryz.prog 18 #[.agg (pr x r)] w fun e w' => e = .returned (.string (oddS (addP r 1))) ∧ Below w.heap.size w w' := by
 have hls : ∀ {i : Nat}, i < 32 → i < (bl (bytesOf (addP r 1))).length := fun h => by rw [bl_len, bytesOf_size]; exact h
 have H0 := HA.start w
 go_enter Tryz.func18, Tryz.ntmps18
 refine zsr ?_
 refine wl_make H0 39 (run_box27 (c := pr x r)) ?_
 intro q1 w2 h3
 refine zwv (.string { data := #[] }) ?_
 refine znt ?_
 refine zsr ?_
 refine wl_load h3 0 rfl Tryz.underlying39 rfl (info27p x r) ?_
 refine zwc h3 enter47 (y_any x r hr w2 (VV.below h3.old VV.big)) ?_
 intro w4 h5
 refine zwc h5 enter48 (Bytes_any (addP r 1) w4) ?_
 intro w6 h7
 refine wl_bytes (s := (bytesOf (addP r 1))) h7 ?_
 intro q8 cp9 m10 w11 h12
 refine zwv (.slice (some ⟨q8, 0, none⟩) (bytesOf (addP r 1)).size cp9) ?_
 refine znt ?_
 refine wp_seq ?_
 refine zsr ?_
 refine zwv (.pointer (some ⟨q1, 0, none⟩)) ?_
 refine zwu (run_part (q := q1) (off := 4 * 0) (n := x) (h12.get 1 rfl) (fun i hi => pr_get0 x r i hi)) ?_
 refine zwc h12 enter49 (Odd_yes x hodd w11) ?_
 intro w13 h14
 refine znt ?_
 refine zct ?_
 refine wl_region ?_
 refine zwv (.slice (some ⟨q8, 0, none⟩) (bytesOf (addP r 1)).size cp9) ?_
 refine zwu (run_addr_slice (q := q8) (n := (bytesOf (addP r 1)).size) (m := cp9) (a := 31) Tryz.underlying71 Tryz.sizeOf5 (by rw [bytesOf_size]; decide)) ?_
 refine zwu (run_load1 Tryz.isAgg5 (((h14.get 0 rfl).cell 31).trans (byC_get (bl ((bytesOf (addP r 1)))) m10 31 (hls (i := 31) (by decide))))) ?_
 refine zwu (run_or8 (a := ((bl ((bytesOf (addP r 1)))).getD 31 0).toNat) (b := 128) (u8_lt _)) ?_
 refine zwu (run_addr_slice (q := q8) (n := (bytesOf (addP r 1)).size) (m := cp9) (a := 31) Tryz.underlying71 Tryz.sizeOf5 (by rw [bytesOf_size]; decide)) ?_
 refine wl_put (k := .u8) (z := (((((bl ((bytesOf (addP r 1)))).getD 31 0).toNat) ||| 128 : Nat) : Int)) h14 0 rfl 31 (by rw [byC_size]; exact Nat.lt_add_right _ (hls (i := 31) (by decide))) Tryz.sizeOf5 ?_
 intro w15 h16
 have h17 : HA w [(q8, 5, byC ((bl ((bytesOf (addP r 1)))).set 31 (UInt8.ofNat ((((bl ((bytesOf (addP r 1)))).getD 31 0).toNat) ||| 128))) m10), (q1, 39, pr x r)] w15 := (by rw [← byC_put (bl ((bytesOf (addP r 1)))) m10 31 ((((bl ((bytesOf (addP r 1)))).getD 31 0).toNat) ||| 128) (hls (i := 31) (by decide)) (or128_lt _)]; exact h16)
 clear h16
 refine znt ?_
 refine zsr ?_
 refine zwv (.slice (some ⟨q8, 0, none⟩) (bytesOf (addP r 1)).size cp9) ?_
 refine zwu (run_byText (n := (bytesOf (addP r 1)).size) (c := cp9) (m := m10) (l := (bl ((bytesOf (addP r 1)))).set 31 (UInt8.ofNat ((((bl ((bytesOf (addP r 1)))).getD 31 0).toNat) ||| 128))) (by simp [bl_len]) (h17.get 0 rfl)) ?_
 refine zwv (.string ⟨((bl ((bytesOf (addP r 1)))).set 31 (UInt8.ofNat ((((bl ((bytesOf (addP r 1)))).getD 31 0).toNat) ||| 128))).toArray⟩) ?_
 refine znt ?_
 exact wp_ret (zb h17.old)
theorem PBytes_even (x r : Nat) (hx : x < P) (hr : r < P) (hodd : x % 2 = 0) (w : World) (VV : Vars w) :
  Calls Tryz.prog 18 #[.agg (pr x r)] w fun e w' => e = .returned (.string (bytesOf (addP r 1))) ∧ Below w.heap.size w w' := by
 have hls : ∀ {i : Nat}, i < 32 → i < (bl (bytesOf (addP r 1))).length := fun h => by rw [bl_len, bytesOf_size]; exact h
 have H0 := HA.start w
 go_enter Tryz.func18, Tryz.ntmps18
 refine zsr ?_
 refine wl_make H0 39 (run_box27 (c := pr x r)) ?_
 intro q1 w2 h3
 refine zwv (.string { data := #[] }) ?_
 refine znt ?_
 refine zsr ?_
 refine wl_load h3 0 rfl Tryz.underlying39 rfl (info27p x r) ?_
 refine zwc h3 enter47 (y_any x r hr w2 (VV.below h3.old VV.big)) ?_
 intro w4 h5
 refine zwc h5 enter48 (Bytes_any (addP r 1) w4) ?_
 intro w6 h7
 refine wl_bytes (s := (bytesOf (addP r 1))) h7 ?_
 intro q8 cp9 m10 w11 h12
 refine zwv (.slice (some ⟨q8, 0, none⟩) (bytesOf (addP r 1)).size cp9) ?_
 refine znt ?_
 refine wp_seq ?_
 refine zsr ?_
 refine zwv (.pointer (some ⟨q1, 0, none⟩)) ?_
 refine zwu (run_part (q := q1) (off := 4 * 0) (n := x) (h12.get 1 rfl) (fun i hi => pr_get0 x r i hi)) ?_
 refine zwc h12 enter49 (Odd_no x hodd w11) ?_
 intro w13 h14
 refine znt ?_
 refine zcf ?_
 refine wp_skip ?_
 refine then_at rfl ?_
 refine zsr ?_
 refine zwv (.slice (some ⟨q8, 0, none⟩) (bytesOf (addP r 1)).size cp9) ?_
 refine zwu (run_byText (n := (bytesOf (addP r 1)).size) (c := cp9) (m := m10) (l := bl ((bytesOf (addP r 1)))) (by simp [bl_len]) (h14.get 0 rfl)) ?_
 refine zwv (.string ⟨(bl ((bytesOf (addP r 1)))).toArray⟩) ?_
 refine znt ?_
 exact wp_ret (zb h14.old)
end Go.Proofs.YtefjnfeckenmkaaGreatDoor

namespace Go.Proofs.YtefjnfeckenmkaaGreatDoor
set_option linter.unusedVariables false
set_option maxRecDepth 100000
set_option maxHeartbeats 2000000
open Go.RowKit Num
section
variable {ops : Array Oper} {Q : Exit → Act → World → Prop} {F : (Nat → Nat) → Act} {i i0 j q : Nat} {dst : Option Tmp} {ty : TypeId} {pos : String} {aft : Array Edge} {gd : Option (Nat × Bool)}
 {w0 : World} {L : List (Nat × TypeId × Array Value)} {t : TypeId} {c : Array Value}
theorem gp_call {f : FuncId} {xs : Array Operand} {ats : Array TypeId} {v : Value} 
  
  (hr : ∀ args w, (callFunc f args).run Tryz.prog w = .ok (.enter f args) w) (args : Array Value) 
  (hc : ∀ w, Calls Tryz.prog f args w fun e w' => e = .returned v ∧ Below w.heap.size w w') (hi : i ≠ i0 := by decide) (hw : ∀ g, Region.wanted ⟨dst, .call { callee := .value (.func f), args := xs, argTypes := ats }, ty, pos, aft, gd⟩ (yielded ops (F g).tmps) = true := by intro _; kernel_rfl) (hp : ∀ g, (F g).put dst v = F g := by intro _; kernel_rfl) (ha : ∀ g, #[] ++ xs.map (F g).eval ++ #[] = args := by intro _; kernel_rfl) :
  OpGhost Tryz.prog .any ops Q (GP w0 L i0 j q t c) F i ⟨dst, .call { callee := .value (.func f), args := xs, argTypes := ats }, ty, pos, aft, gd⟩ :=
 OpGhost.call (v := fun _ => v) (args := fun _ => args) hw hp (fun g w => by rw [execOp_call_go, ha g]; exact hr _ w) (fun _ _ w hS _ => (hc w).mono fun _ _ h => ⟨h.1, by
  unfold GP at hS ⊢
  rw [up_ne _ _ (Ne.symm hi)]
  exact hS.keep _ _ h.2⟩)
end
theorem half_any (n : Nat) (hn : n < 128) (h0 : 48 ≤ n) (w : World) : Calls Tryz.prog 65 #[iN .u8 n] w fun e w' => e = .returned (iN .u8 (halfN n)) ∧ Below w.heap.size w w' := by
 unfold halfN
 split
 ·rename_i h; exact half_up n hn h w
 ·rename_i h; exact half_dn n hn h h0 w
def Hexd (s : ByteArray) : Prop := ∀ i, i < 64 → 48 ≤ sb s i ∧ sb s i < 128 ∧ halfN (sb s i) < 16
def hexb (s : ByteArray) (k : Nat) : Nat := halfN (sb s (2 * k)) * 2 ^ 4 ||| halfN (sb s (2 * k + 1))
def hexL (s : ByteArray) (k : Nat) : List UInt8 := (List.range k).map (fun i => UInt8.ofNat (hexb s i)) ++ List.replicate (32 - k) 0
theorem hexL_len (s : ByteArray) (k : Nat) (hk : k ≤ 32) : (hexL s k).length = 32 := by
 unfold hexL; rw [List.length_append, List.length_map, List.length_range, List.length_replicate]; omega
theorem hexb_lt (s : ByteArray) (hs : Hexd s) (k : Nat) (hk : k < 32) : hexb s k < 256 := by
 have h1 := (hs (2 * k) (by omega)).2.2
 have h2 := (hs (2 * k + 1) (by omega)).2.2
 exact Nat.or_lt_two_pow (n := 8) (by omega) (by omega)
theorem hexL_put (s : ByteArray) (hs : Hexd s) (k : Nat) (hk : k < 32) : (cs (hexL s k)).toArray.setIfInBounds k (.int .u8 (hexb s k : Int)) = (cs (hexL s (k + 1))).toArray := by
 have e0 : (hexb s k : Int) = ((UInt8.ofNat (hexb s k)).toNat : Int) := by rw [UInt8.toNat_ofNat', Nat.mod_eq_of_lt (hexb_lt s hs k hk)]
 rw [e0, cs_set]
 congr 2
 unfold hexL
 rw [List.set_append_right _ _ (by rw [List.length_map, List.length_range]; omega), List.length_map, List.length_range, Nat.sub_self]
 have e : 32 - k = (32 - (k + 1)) + 1 := by omega
 rw [e, List.replicate_succ, List.set_cons_zero, List.range_succ, List.map_append, List.append_assoc]
 rfl
theorem lenS {ρ : Operand → Value} {x : Operand} {s : ByteArray} {w : World} {dst : Option Tmp} {ty : TypeId} {pos : String} {aft : Array Edge} {gd : Option (Nat × Bool)} (hs : s.size = 64) (hx : ρ x = .string s) :
  (execOp ρ ⟨dst, .call { callee := .builtin .len, args := #[x], argTypes := #[9] }, ty, pos, aft, gd⟩).run Tryz.prog w = .ok (.value (iN .i64 64)) w := by
 have h := run_len (dst := dst) (ty := ty) (pos := pos) (aft := aft) (gd := gd) (w := w) (hx := hx)
 rw [hs] at h
 exact h
theorem run_len_sl {ρ : Operand → Value} {x : Operand} {a : Option Addr} {n c : Nat} {w : World} {dst : Option Tmp} {ty : TypeId} {pos : String} {aft : Array Edge} {gd : Option (Nat × Bool)} (hx : ρ x = .slice a n c) :
  (execOp ρ ⟨dst, .call { callee := .builtin .len, args := #[x], argTypes := #[71] }, ty, pos, aft, gd⟩).run Tryz.prog w = .ok (.value (iN .i64 n)) w := by
 simp only [execOp, iN]
 go_simp
theorem hex_any (s : ByteArray) (hs : s.size = 64) (hd : Hexd s) (w : World) :
  Calls Tryz.prog 26 #[.string s] w fun e w' => e = .returned (.string ⟨(hexL s 32).toArray⟩) ∧ Below w.heap.size w w' := by
 have H0 := HA.start w
 go_enter Tryz.func26, Tryz.ntmps26
 refine zsr ?_
 refine zwv (.string { data := #[] }) ?_
 refine znt ?_
 refine zsr ?_
 refine zwv (.string s) ?_
 refine zwu (lenS hs (by kernel_rfl)) ?_
 refine zwu (run_quo (k := .i64) (a := 64) (b := 2) (by omega) (by simp only [top]; omega)) ?_
 refine wl_mkslice (n := 32) H0 5 (by kernel_rfl) (run_mk 32) ?_
 intro q1 w2 h3
 refine zwv (.slice (some ⟨q1, 0, none⟩) 32 32) ?_
 refine znt ?_
 refine wp_seq ?_
 refine zsr ?_
 refine zwv (iN .i64 0) ?_
 refine znt ?_
 refine wp_block ?_
 refine wp_count (fun k A w' => ∃ u4 : Nat → Value, A = ⟨(.string s :: un :: .string { data := #[] } :: .slice (some ⟨q1, 0, none⟩) 32 32 :: iN .i64 k :: .string s :: iN .i64 64 :: iN .i64 (64 / 2) :: .slice (some ⟨q1, 0, none⟩) 32 32 :: u4 9 :: u4 10 :: u4 11 :: u4 12 :: u4 13 :: u4 14 :: u4 15 :: u4 16 :: u4 17 :: u4 18 :: u4 19 :: u4 20 :: u4 21 :: u4 22 :: u4 23 :: u4 24 :: u4 25 :: u4 26 :: u4 27 :: u4 28 :: u4 29 :: u4 30 :: List.replicate 2 un).toArray, []⟩ ∧ HA w [(q1, 5, (cs (hexL s k)).toArray)] w') 32 ?_ ?_ ?_
 ·exact zex ((by rw [← (by kernel_rfl : zr 32 = (cs (hexL s 0)).toArray)]; exact h3))
 ·rintro k hk _ w5 ⟨u4, rfl, h6⟩
  refine wp_seq ?_
  refine zsr ?_
  refine zwv (iN .i64 k) ?_
  refine zwv (.slice (some ⟨q1, 0, none⟩) 32 32) ?_
  refine zwu (run_len_sl (a := some ⟨q1, 0, none⟩) (n := 32) (c := 32) (by kernel_rfl)) ?_
  refine zwu (run_lss (k := .i64) (a := k) (b := 32) true (decide_eq_true hk)) ?_
  refine znt ?_
  refine zct ?_
  refine wp_skip ?_
  refine then_at rfl ?_
  refine wp_seq ?_
  refine wp_block ?_
  refine zrg (fun _ : Nat → Nat => (⟨(.string s :: un :: .string { data := #[] } :: .slice (some ⟨q1, 0, none⟩) 32 32 :: iN .i64 k :: .string s :: iN .i64 64 :: iN .i64 (64 / 2) :: .slice (some ⟨q1, 0, none⟩) 32 32 :: iN .i64 k :: .slice (some ⟨q1, 0, none⟩) 32 32 :: iN .i64 32 :: .bool true :: u4 13 :: u4 14 :: .slice (some ⟨q1, 0, none⟩) 32 32 :: iN .i64 k :: .string s :: iN .i64 k :: iN .i64 (2 * k) :: iN .u8 (sb s (2 * k)) :: iN .u8 (halfN (sb s (2 * k))) :: iN .u8 ((halfN (sb s (2 * k))) * 2 ^ 4) :: .string s :: iN .i64 k :: iN .i64 (2 * k) :: iN .i64 ((2 * k) + 1) :: iN .u8 (sb s ((2 * k) + 1)) :: iN .u8 (halfN (sb s ((2 * k) + 1))) :: iN .u8 (((halfN (sb s (2 * k))) * 2 ^ 4) ||| (halfN (sb s ((2 * k) + 1)))) :: .pointer (some ⟨q1, k, none⟩) :: List.replicate 2 un).toArray, []⟩ : Act)) (GP w [(q1, 5, (cs (hexL s k)).toArray)] 16 0 q1 5 ((cs (hexL s (k + 1))).toArray)) (fun d hd => GP.start h6.drew (hd 16 (by decide))) ?_ ?_
  ·refine zg (gp_plain (v := .slice (some ⟨q1, 0, none⟩) 32 32) (fun _ _ => (by kernel_rfl))) ?_
   refine zg (gp_plain (v := iN .i64 k) (fun _ _ => (by kernel_rfl))) ?_
   refine zg (gp_plain (v := .string s) (fun _ _ => (by kernel_rfl))) ?_
   refine zg (gp_plain (v := iN .i64 k) (fun _ _ => (by kernel_rfl))) ?_
   refine zg (gp_plain (v := iN .i64 (2 * k)) (fun _ _ => (run_mul (k := .i64) (a := 2) (b := k) (by simp only [top]; omega)))) ?_
   refine zg (gp_plain (v := iN .u8 (sb s (2 * k))) (fun _ _ => (run_sidx (s := s) (a := 2 * k) (by omega)))) ?_
   refine zg (gp_call (v := iN .u8 (halfN (sb s (2 * k)))) enter71 #[iN .u8 (sb s (2 * k))] (fun w' => half_any (sb s (2 * k)) (hd (2 * k) (by omega)).2.1 (hd (2 * k) (by omega)).1 w')) ?_
   refine zg (gp_plain (v := iN .u8 ((halfN (sb s (2 * k))) * 2 ^ 4)) (fun _ _ => (run_shl (k2 := .u64) (k := .u8) (a := halfN (sb s (2 * k))) (b := 4) (by have hz := (hd (2 * k) (by omega)).2.2; simp only [top]; omega)))) ?_
   refine zg (gp_plain (v := .string s) (fun _ _ => (by kernel_rfl))) ?_
   refine zg (gp_plain (v := iN .i64 k) (fun _ _ => (by kernel_rfl))) ?_
   refine zg (gp_plain (v := iN .i64 (2 * k)) (fun _ _ => (run_mul (k := .i64) (a := 2) (b := k) (by simp only [top]; omega)))) ?_
   refine zg (gp_plain (v := iN .i64 ((2 * k) + 1)) (fun _ _ => (run_add (k := .i64) (a := 2 * k) (b := 1) (by simp only [top]; omega)))) ?_
   refine zg (gp_plain (v := iN .u8 (sb s ((2 * k) + 1))) (fun _ _ => (run_sidx (s := s) (a := (2 * k) + 1) (by omega)))) ?_
   refine zg (gp_call (v := iN .u8 (halfN (sb s ((2 * k) + 1)))) enter71 #[iN .u8 (sb s ((2 * k) + 1))] (fun w' => half_any (sb s ((2 * k) + 1)) (hd ((2 * k) + 1) (by omega)).2.1 (hd ((2 * k) + 1) (by omega)).1 w')) ?_
   refine zg (gp_plain (v := iN .u8 (((halfN (sb s (2 * k))) * 2 ^ 4) ||| (halfN (sb s ((2 * k) + 1))))) (fun _ _ => (run_or8 (a := (halfN (sb s (2 * k))) * 2 ^ 4) (b := halfN (sb s ((2 * k) + 1))) (by have hz := (hd (2 * k) (by omega)).2.2; omega) (hb := (by have hz := (hd (2 * k + 1) (by omega)).2.2; omega))))) ?_
   refine zg (gp_plain (v := .pointer (some ⟨q1, k, none⟩)) (fun _ _ => (run_addr_slice (q := q1) (n := 32) (m := 32) (a := k) Tryz.underlying71 Tryz.sizeOf5 (by omega)))) ?_
   refine zg (gp_put (k := .u8) (z := ((((halfN (sb s (2 * k))) * 2 ^ 4) ||| (halfN (sb s ((2 * k) + 1))) : Nat) : Int)) (off := k) rfl (by rw [List.size_toArray, cs_length, hexL_len _ _ (by omega)]; omega) ((hexL_put s hd k hk)) Tryz.sizeOf5) ?_
   exact AllGhost.nil
  intro _ w7 g8
  have h9 : HA w [(q1, 5, (cs (hexL s (k + 1))).toArray)] w7 := g8
  clear g8
  refine block_normal ?_
  refine then_at rfl ?_
  refine wl_region ?_
  refine zwv (iN .i64 k) ?_
  refine zwu (run_add (k := .i64) (a := k) (b := 1) (by simp only [top]; omega)) ?_
  refine zwv (iN .i64 (k + 1)) ?_
  refine wl_nil ?_
  exact then_I (zex h9)
 ·rintro _ w10 ⟨u4, rfl, h11⟩
  refine wp_seq ?_
  refine zsr ?_
  refine zwv (iN .i64 32) ?_
  refine zwv (.slice (some ⟨q1, 0, none⟩) 32 32) ?_
  refine zwu (run_len_sl (a := some ⟨q1, 0, none⟩) (n := 32) (c := 32) (by kernel_rfl)) ?_
  refine zwu (run_lss (k := .i64) (a := 32) (b := 32) false (by decide)) ?_
  refine znt ?_
  refine zcf ?_
  refine wp_exit ?_
  repeat first | refine then_exit ?_ | refine block_exit ?_ | refine block_exit_ne (by decide) ?_
  refine then_at rfl ?_
  refine zsr ?_
  refine zwv (.slice (some ⟨q1, 0, none⟩) 32 32) ?_
  refine zwu (run_text (hexL s 32) (by kernel_rfl) (h11.get 0 rfl) rfl (hexL_len s 32 (by decide))) ?_
  refine zwv (.string ⟨(hexL s 32).toArray⟩) ?_
  refine znt ?_
  exact wp_ret (zb h11.old)
end Go.Proofs.YtefjnfeckenmkaaGreatDoor
