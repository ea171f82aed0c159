/-
  DiskKeeps.
-/
import Derived.Test.YtjedhnjjgmbcbaaDK
import Derived.Test.YtjedhnjjgmbcbaaDX
namespace Go.Proofs.Ytjedhnjjgmbcbaa
open Go.RowKit

def StrA (w : World) (o : Option Addr) (ss : List ByteArray) : Prop := ∀ i, i < ss.length → ∃ a, o = some a ∧ w.cell? (a.add i) = some (.string (ss.getD i { data := #[] }))
def IntA (w : World) (o : Option Addr) (ks : List Int) : Prop := ∀ i, i < ks.length → ∃ a, o = some a ∧ w.cell? (a.add i) = some (.int .i64 (ks.getD i 0))
def stc (l : List ByteArray) : Array Value := (l.map Value.string).toArray
theorem stc_size (l : List ByteArray) : (stc l).size = l.length := by simp [stc]
theorem stc_get (l : List ByteArray) (i : Nat) (h : i < l.length) : (stc l)[i]? = some (.string (l.getD i { data := #[] })) := by simp [stc, h]
theorem stc_put (l : List ByteArray) (i : Nat) (s : ByteArray) : (stc l).setIfInBounds i (.string s) = stc (l.set i s) := by
  apply Array.ext'
  simp [stc, List.map_set]
theorem by8_of {n : Nat} (h : n < 256) : iN .u8 n = by8 (UInt8.ofNat n) := by
  unfold by8
  rw [UInt8.toNat_ofNat', Nat.mod_eq_of_lt h]
section
variable {ρ : Operand → Value} {x y : Operand} {w : World} {dst : Option Tmp} {ty : TypeId} {pos : String} {aft : Array Edge} {gd : Option (Nat × Bool)}
theorem run_addr3 {q i : Nat} (hx : ρ x = .pointer (some ⟨q, 0, none⟩)) (hy : ρ y = iN .i64 i) (hi : i < 3) : (execOp ρ ⟨dst, .indexAddr 51 x y, ty, pos, aft, gd⟩).run Try.prog w = .ok (.value (.pointer (some ⟨q, i, none⟩))) w := by
  simp only [execOp, hx, hy, iN]
  go_simp
  omega
theorem run_slI {a : Option Addr} {n cap m : Nat} (hx : ρ x = .slice a n cap) (hy : ρ y = iN .i64 m) (hm : m ≤ cap) : (execOp ρ ⟨dst, .slice 26 x none (some y) none, ty, pos, aft, gd⟩).run Try.prog w = .ok (.value (.slice a m cap)) w := by
  have ha : a.map (·.add 0) = a := by
    cases a with
    | none => rfl
    | some b => cases b; simp [Addr.add]
  simp only [execOp, hx, iN] at hy ⊢
  simp [Instr.sliceAt, Instr.slice, Instr.sliceBounds, Instr.sliceBound, run_underlying Try.underlying26, Try.sizeOf3, hy, asIntOf, hm, ha]
end
set_option linter.unusedVariables false in
set_option maxRecDepth 100000 in
set_option maxHeartbeats 2000000 in
theorem cut_any (s : ByteArray) (n : Nat) (hs : s.size ≤ 9223372036854775807) (w : World) :
    Calls Try.prog 9 #[.string s, iN .i64 n] w fun e w' => e = .returned (.string (s.extract 0 (min s.size n))) ∧ Below w.heap.size w w' := by
  have H0 := HA.start w
  go_enter Try.func9, Try.ntmps9
  refine wp_seq ?_
  refine wl_region ?_
  refine wl_val (.string ({ data := #[] })) (by kernel_rfl) (by kernel_rfl) ?_
  refine wl_nil ?_
  refine then_at (F := ⟨(.string s :: iN .i64 n :: un :: un :: .string ({ data := #[] }) :: List.replicate 6 un).toArray, []⟩) (by kernel_rfl) ?_
  refine wp_seq ?_
  refine wl_region ?_
  refine wl_val (.string s) (by kernel_rfl) (by kernel_rfl) ?_
  refine wl_val (.string s) (by kernel_rfl) (by kernel_rfl) ?_
  refine wl_val (iN .i64 s.size) (by kernel_rfl) (run_len (s := s) (by kernel_rfl)) ?_
  refine wl_val (iN .i64 n) (by kernel_rfl) (by kernel_rfl) ?_
  refine wl_val (iN .i64 (min s.size n)) (by kernel_rfl) (run_min (i := s.size) (j := n) (by kernel_rfl) (by kernel_rfl)) ?_
  refine wl_val (.string (s.extract 0 (min s.size n))) (by kernel_rfl) (run_cut_hi (s := s) (b := min s.size n) (by kernel_rfl) (by kernel_rfl) (by omega)) ?_
  refine wl_val (.string (s.extract 0 (min s.size n))) (by kernel_rfl) (by kernel_rfl) ?_
  refine wl_nil ?_
  refine then_at (F := ⟨(.string s :: iN .i64 n :: un :: un :: .string (s.extract 0 (min s.size n)) :: .string s :: .string s :: iN .i64 s.size :: iN .i64 n :: iN .i64 (min s.size n) :: .string (s.extract 0 (min s.size n)) :: List.replicate 0 un).toArray, []⟩) (by kernel_rfl) ?_
  refine wp_ret ?_
  repeat first | refine then_ret ?_ | refine block_ret ?_
  exact bodyPost_ret (v := .string (s.extract 0 (min s.size n))) (by kernel_rfl) rfl ⟨rfl, H0.old.old⟩
theorem ke_arm (n : Nat) : armD ⟨[], 1048576, 0, false, []⟩ ((1 + n : Nat) : Int) = (⟨[], 1048576, 1 + n, false, []⟩, 0) := by
  rw [armD, if_neg (by decide), if_neg (by omega), Int.toNat_natCast]
theorem used_sync (D : DS) (nm : ByteArray) : used (syncF D nm).fs = used D.fs := by
  simp only [syncF, used, updF, List.map_map]
  congr 1
  refine List.map_congr_left fun x _ => ?_
  simp only [Function.comp_apply]
  split <;> rfl
set_option linter.unusedVariables false in
set_option maxRecDepth 100000 in
set_option maxHeartbeats 2000000 in
theorem keeps_any (w : World) (ss : List ByteArray) (o : Option Addr) (c : Nat) (hS : StrA w o ss) (hn : ss.length ≤ 9223372036854775807) (hSl : ∀ i, i < ss.length → (ss.getD i { data := #[] }).size ≤ 9223372036854775807) (n : Nat) (hn2 : n < 256) (ks : List Int) (o2 : Option Addr) (c2 : Nat) (hI : IntA w o2 ks) (hkn : ks.length ≤ 9223372036854775807) (hkc : ks.length ≤ c2) :
    Calls Try.prog 4 #[.slice o ss.length c, iN .u8 n, .slice o2 ks.length c2] w fun e w' => e = .returned (.bool true) ∧ Below w.heap.size w w' := by
  have H0 := HA.start w
  have hkv : ∀ L, KV w L o2 (ks.take 5) := fun L => KV.arg (fun j hj => by
    rw [List.length_take] at hj
    obtain ⟨a, e, h⟩ := hI j (by omega)
    refine ⟨a, e, ?_⟩
    rw [h]
    congr 2
    rw [List.getD_eq_getElem?_getD, List.getD_eq_getElem?_getD, List.getElem?_take, if_pos (by omega)])
  go_enter Try.func4, Try.ntmps4
  refine wp_seq ?_
  refine wl_region ?_
  refine wl_val (.bool false) (by kernel_rfl) (by kernel_rfl) ?_
  refine wl_nil ?_
  refine then_at (F := ⟨(.slice o ss.length c :: iN .u8 n :: .slice o2 ks.length c2 :: un :: un :: un :: .bool false :: List.replicate 148 un).toArray, []⟩) (by kernel_rfl) ?_
  refine wp_seq ?_
  refine wl_region ?_
  refine wl_callx (by kernel_rfl) enter7 #[iN .i64 1048576] (by kernel_rfl) (New_any 1048576 H0) ?_
  rintro _ w1 ⟨d, rfl, hD0⟩
  refine ⟨_, rfl, ?_⟩
  have hD1 : DH _ _ d ⟨[], 1048576, 0, false, []⟩ _ _ := hD0
  have hD1 : DH _ _ d (⟨[], 1048576, 0, false, []⟩) _ _ := hD1
  obtain ⟨z2, X3, hcl4, hbe5, h6⟩ := DH.front hD1
  have h7 : HA z2 X3 w1 := h6
  refine wl_val (.pointer (some ⟨d.q, 0, none⟩)) (by kernel_rfl) (by kernel_rfl) ?_
  refine wl_nil ?_
  refine then_at (F := ⟨(.slice o ss.length c :: iN .u8 n :: .slice o2 ks.length c2 :: un :: un :: un :: .bool false :: pt d.q :: un :: un :: un :: un :: un :: un :: un :: un :: un :: pt d.q :: List.replicate 137 un).toArray, []⟩) (by kernel_rfl) ?_
  refine wp_seq ?_
  refine wp_seq ?_
  refine wl_region ?_
  refine wl_val (.pointer (some ⟨d.q, 0, none⟩)) (by kernel_rfl) (by kernel_rfl) ?_
  refine wl_val (.bool false) (by kernel_rfl) (by kernel_rfl) ?_
  refine wl_val (.bool false) (by kernel_rfl) (by kernel_rfl) ?_
  refine wl_val (.pointer (some ⟨d.q, 0, none⟩)) (by kernel_rfl) (by kernel_rfl) ?_
  refine wl_val (iN .u8 n) (by kernel_rfl) (by kernel_rfl) ?_
  refine wl_val (iN .i64 n) (by kernel_rfl) (run_conv .i64 Try.underlying5 Try.underlying3 (by kernel_rfl) (by first | omega | (simp only [top]; omega))) ?_
  refine wl_val (iN .i64 (1 + n)) (by kernel_rfl) (run_add (k := .i64) (a := 1) (b := n) (by kernel_rfl) (by kernel_rfl) (by first | omega | (simp only [top]; omega))) ?_
  refine wl_callx (by kernel_rfl) enter18 #[.pointer (some ⟨d.q, 0, none⟩), iN .i64 (1 + n)] (by kernel_rfl) (by have h := Arm_any (hcl4 [] _ h7) ((1 + n : Nat) : Int); rw [ke_arm] at h; exact h) ?_
  rintro _ w8 ⟨rfl, hDa⟩
  refine ⟨_, rfl, ?_⟩
  have hDa : DH _ _ d (⟨[], 1048576, 1 + n, false, []⟩) _ _ := hDa
  obtain ⟨z9, X10, hcl11, hbe12, h13⟩ := DH.front hDa
  have h14 : HA z9 X10 w8 := h13
  refine wl_val (.bool false) (by kernel_rfl) (run_nei (k := .i64) (a := 0) (b := 0) (by kernel_rfl) (by kernel_rfl) false (by decide)) ?_
  refine wl_val (.bool false) (by kernel_rfl) (by kernel_rfl) ?_
  refine wl_nil ?_
  refine then_at (F := ⟨(.slice o ss.length c :: iN .u8 n :: .slice o2 ks.length c2 :: un :: un :: un :: .bool false :: pt d.q :: un :: un :: un :: un :: un :: un :: un :: un :: un :: pt d.q :: pt d.q :: .bool false :: .bool false :: pt d.q :: iN .u8 n :: iN .i64 n :: iN .i64 (1 + n) :: iN .i64 0 :: .bool false :: .bool false :: List.replicate 127 un).toArray, []⟩) (by kernel_rfl) ?_
  refine wp_cond_false (by kernel_rfl) ?_
  refine wp_skip ?_
  refine then_at (F := ⟨(.slice o ss.length c :: iN .u8 n :: .slice o2 ks.length c2 :: un :: un :: un :: .bool false :: pt d.q :: un :: un :: un :: un :: un :: un :: un :: un :: un :: pt d.q :: pt d.q :: .bool false :: .bool false :: pt d.q :: iN .u8 n :: iN .i64 n :: iN .i64 (1 + n) :: iN .i64 0 :: .bool false :: .bool false :: List.replicate 127 un).toArray, []⟩) (by kernel_rfl) ?_
  refine wp_seq ?_
  refine wl_region ?_
  refine wl_make (c := stc ([{ data := #[] }, { data := #[] }, { data := #[] }])) h14 51 (by kernel_rfl) (by kernel_rfl) ?_
  intro q8 w15 (h16 : HA z9 ((q8, 51, stc ([{ data := #[] }, { data := #[] }, { data := #[] }])) :: X10) w15)
  refine wl_make (c := stc ([{ data := #[] }, { data := #[] }, { data := #[] }])) h16 51 (by kernel_rfl) (by kernel_rfl) ?_
  intro q9 w17 (h18 : HA z9 ((q9, 51, stc ([{ data := #[] }, { data := #[] }, { data := #[] }])) :: (q8, 51, stc ([{ data := #[] }, { data := #[] }, { data := #[] }])) :: X10) w17)
  refine wl_nil ?_
  refine then_at (F := ⟨(.slice o ss.length c :: iN .u8 n :: .slice o2 ks.length c2 :: un :: un :: un :: .bool false :: pt d.q :: pt q8 :: pt q9 :: un :: un :: un :: un :: un :: un :: un :: pt d.q :: pt d.q :: .bool false :: .bool false :: pt d.q :: iN .u8 n :: iN .i64 n :: iN .i64 (1 + n) :: iN .i64 0 :: .bool false :: .bool false :: List.replicate 127 un).toArray, []⟩) (by kernel_rfl) ?_
  refine wp_seq ?_
  refine wp_seq ?_
  refine wl_region ?_
  refine wl_val (iN .i64 0) (by kernel_rfl) (by kernel_rfl) ?_
  refine wl_nil ?_
  refine then_at (F := ⟨(.slice o ss.length c :: iN .u8 n :: .slice o2 ks.length c2 :: un :: un :: un :: .bool false :: pt d.q :: pt q8 :: pt q9 :: iN .i64 0 :: un :: un :: un :: un :: un :: un :: pt d.q :: pt d.q :: .bool false :: .bool false :: pt d.q :: iN .u8 n :: iN .i64 n :: iN .i64 (1 + n) :: iN .i64 0 :: .bool false :: .bool false :: List.replicate 127 un).toArray, []⟩) (by kernel_rfl) ?_
  refine Code.wp_mono (Q := fun ex AQ w' => ex = Exit.normal ∧ ∃ u19 : Nat → Value, AQ = ⟨(.slice o ss.length c :: iN .u8 n :: .slice o2 ks.length c2 :: un :: un :: un :: .bool false :: pt d.q :: pt q8 :: pt q9 :: u19 10 :: u19 11 :: u19 12 :: u19 13 :: un :: un :: un :: pt d.q :: pt d.q :: .bool false :: .bool false :: pt d.q :: iN .u8 n :: iN .i64 n :: iN .i64 (1 + n) :: iN .i64 0 :: .bool false :: .bool false :: u19 28 :: u19 29 :: u19 30 :: u19 31 :: u19 32 :: u19 33 :: u19 34 :: u19 35 :: u19 36 :: u19 37 :: u19 38 :: u19 39 :: u19 40 :: u19 41 :: u19 42 :: u19 43 :: u19 44 :: u19 45 :: u19 46 :: u19 47 :: u19 48 :: u19 49 :: u19 50 :: u19 51 :: u19 52 :: u19 53 :: u19 54 :: u19 55 :: u19 56 :: u19 57 :: u19 58 :: u19 59 :: u19 60 :: u19 61 :: u19 62 :: u19 63 :: u19 64 :: u19 65 :: u19 66 :: u19 67 :: u19 68 :: u19 69 :: u19 70 :: u19 71 :: u19 72 :: u19 73 :: u19 74 :: u19 75 :: List.replicate 79 un).toArray, []⟩ ∧ ∃ D sy pu, KR D sy pu ∧ DB D 1600 80 ∧ DH w [] d D [(q9, 51, stc pu), (q8, 51, stc sy)] w') ?_ ?_
  · rintro _ _ w20 ⟨rfl, u19, rfl, D, sy, pu, hkr, hdb, hLp⟩
    have hLp : DH _ _ d (D) _ _ := hLp
    obtain ⟨z21, X22, hcl23, hbe24, h25⟩ := DH.front hLp
    have h26 : HA z21 ((q9, 51, stc pu) :: (q8, 51, stc sy) :: X22) w20 := h25
    refine then_at (F := ⟨(.slice o ss.length c :: iN .u8 n :: .slice o2 ks.length c2 :: un :: un :: un :: .bool false :: pt d.q :: pt q8 :: pt q9 :: u19 10 :: u19 11 :: u19 12 :: u19 13 :: un :: un :: un :: pt d.q :: pt d.q :: .bool false :: .bool false :: pt d.q :: iN .u8 n :: iN .i64 n :: iN .i64 (1 + n) :: iN .i64 0 :: .bool false :: .bool false :: u19 28 :: u19 29 :: u19 30 :: u19 31 :: u19 32 :: u19 33 :: u19 34 :: u19 35 :: u19 36 :: u19 37 :: u19 38 :: u19 39 :: u19 40 :: u19 41 :: u19 42 :: u19 43 :: u19 44 :: u19 45 :: u19 46 :: u19 47 :: u19 48 :: u19 49 :: u19 50 :: u19 51 :: u19 52 :: u19 53 :: u19 54 :: u19 55 :: u19 56 :: u19 57 :: u19 58 :: u19 59 :: u19 60 :: u19 61 :: u19 62 :: u19 63 :: u19 64 :: u19 65 :: u19 66 :: u19 67 :: u19 68 :: u19 69 :: u19 70 :: u19 71 :: u19 72 :: u19 73 :: u19 74 :: u19 75 :: List.replicate 79 un).toArray, []⟩) (by kernel_rfl) ?_
    refine wp_seq ?_
    refine wp_seq ?_
    refine wl_region ?_
    refine wl_val (.pointer (some ⟨d.q, 0, none⟩)) (by kernel_rfl) (by kernel_rfl) ?_
    refine wl_val (.slice o2 ks.length c2) (by kernel_rfl) (by kernel_rfl) ?_
    refine wl_val (.slice o2 ks.length c2) (by kernel_rfl) (by kernel_rfl) ?_
    refine wl_val (iN .i64 ks.length) (by kernel_rfl) (by kernel_rfl) ?_
    refine wl_val (iN .i64 (min ks.length 5)) (by kernel_rfl) (run_min (i := ks.length) (j := 5) (by kernel_rfl) (by kernel_rfl)) ?_
    refine wl_val (.slice o2 (min ks.length 5) c2) (by kernel_rfl) (run_slI (a := o2) (n := ks.length) (cap := c2) (m := min ks.length 5) (by kernel_rfl) (by kernel_rfl) (by omega)) ?_
    refine wl_callx (by kernel_rfl) enter20 #[.pointer (some ⟨d.q, 0, none⟩), .slice o2 (min ks.length 5) c2] (by kernel_rfl) (by have h := Wake_any (o := o2) (c := c2) (ks := ks.take 5) (hcl23 [(q9, 51, stc pu), (q8, 51, stc sy)] _ h26) (hkv _) (by rw [List.length_take]; omega) hdb (by decide) (by decide); rw [List.length_take, Nat.min_comm] at h; exact h) ?_
    rintro _ w27 ⟨rfl, hDw⟩
    refine ⟨_, rfl, ?_⟩
    have hDw : DH _ _ d (wakeD D (ks.take 5)) _ _ := hDw
    obtain ⟨z28, X29, hcl30, hbe31, h32⟩ := DH.front hDw
    have h33 : HA z28 ((q9, 51, stc pu) :: (q8, 51, stc sy) :: X29) w27 := h32
    refine wl_val (.bool false) (by kernel_rfl) (run_nei (k := .i64) (a := 0) (b := 0) (by kernel_rfl) (by kernel_rfl) false (by decide)) ?_
    refine wl_val (.bool false) (by kernel_rfl) (by kernel_rfl) ?_
    refine wl_val (.pointer (some ⟨d.q, 0, none⟩)) (by kernel_rfl) (by kernel_rfl) ?_
    refine wl_call (v := .bool false) h33 (by kernel_rfl) enter27 #[.pointer (some ⟨d.q, 0, none⟩)] (by kernel_rfl) (Down_any (hcl30 [(q9, 51, stc pu), (q8, 51, stc sy)] _ h33)) ?_
    intro w34 h35
    refine wl_val (.bool false) (by kernel_rfl) (by kernel_rfl) ?_
    refine wl_nil ?_
    refine then_at (F := ⟨(.slice o ss.length c :: iN .u8 n :: .slice o2 ks.length c2 :: un :: un :: un :: .bool false :: pt d.q :: pt q8 :: pt q9 :: u19 10 :: u19 11 :: u19 12 :: u19 13 :: un :: un :: un :: pt d.q :: pt d.q :: .bool false :: .bool false :: pt d.q :: iN .u8 n :: iN .i64 n :: iN .i64 (1 + n) :: iN .i64 0 :: .bool false :: .bool false :: u19 28 :: u19 29 :: u19 30 :: u19 31 :: u19 32 :: u19 33 :: u19 34 :: u19 35 :: u19 36 :: u19 37 :: u19 38 :: u19 39 :: u19 40 :: u19 41 :: u19 42 :: u19 43 :: u19 44 :: u19 45 :: u19 46 :: u19 47 :: u19 48 :: u19 49 :: u19 50 :: u19 51 :: u19 52 :: u19 53 :: u19 54 :: u19 55 :: u19 56 :: u19 57 :: u19 58 :: u19 59 :: u19 60 :: u19 61 :: u19 62 :: u19 63 :: u19 64 :: u19 65 :: u19 66 :: u19 67 :: u19 68 :: u19 69 :: u19 70 :: u19 71 :: u19 72 :: u19 73 :: u19 74 :: u19 75 :: pt d.q :: .slice o2 ks.length c2 :: .slice o2 ks.length c2 :: iN .i64 ks.length :: iN .i64 (min ks.length 5) :: .slice o2 (min ks.length 5) c2 :: iN .i64 0 :: .bool false :: .bool false :: pt d.q :: .bool false :: .bool false :: List.replicate 67 un).toArray, []⟩) (by kernel_rfl) ?_
    refine wp_cond_false (by kernel_rfl) ?_
    refine wp_skip ?_
    refine then_at (F := ⟨(.slice o ss.length c :: iN .u8 n :: .slice o2 ks.length c2 :: un :: un :: un :: .bool false :: pt d.q :: pt q8 :: pt q9 :: u19 10 :: u19 11 :: u19 12 :: u19 13 :: un :: un :: un :: pt d.q :: pt d.q :: .bool false :: .bool false :: pt d.q :: iN .u8 n :: iN .i64 n :: iN .i64 (1 + n) :: iN .i64 0 :: .bool false :: .bool false :: u19 28 :: u19 29 :: u19 30 :: u19 31 :: u19 32 :: u19 33 :: u19 34 :: u19 35 :: u19 36 :: u19 37 :: u19 38 :: u19 39 :: u19 40 :: u19 41 :: u19 42 :: u19 43 :: u19 44 :: u19 45 :: u19 46 :: u19 47 :: u19 48 :: u19 49 :: u19 50 :: u19 51 :: u19 52 :: u19 53 :: u19 54 :: u19 55 :: u19 56 :: u19 57 :: u19 58 :: u19 59 :: u19 60 :: u19 61 :: u19 62 :: u19 63 :: u19 64 :: u19 65 :: u19 66 :: u19 67 :: u19 68 :: u19 69 :: u19 70 :: u19 71 :: u19 72 :: u19 73 :: u19 74 :: u19 75 :: pt d.q :: .slice o2 ks.length c2 :: .slice o2 ks.length c2 :: iN .i64 ks.length :: iN .i64 (min ks.length 5) :: .slice o2 (min ks.length 5) c2 :: iN .i64 0 :: .bool false :: .bool false :: pt d.q :: .bool false :: .bool false :: List.replicate 67 un).toArray, []⟩) (by kernel_rfl) ?_
    refine wp_seq ?_
    refine wp_seq ?_
    refine wl_region ?_
    refine wl_val (iN .i64 0) (by kernel_rfl) (by kernel_rfl) ?_
    refine wl_nil ?_
    refine then_at (F := ⟨(.slice o ss.length c :: iN .u8 n :: .slice o2 ks.length c2 :: un :: un :: un :: .bool false :: pt d.q :: pt q8 :: pt q9 :: u19 10 :: u19 11 :: u19 12 :: u19 13 :: iN .i64 0 :: un :: un :: pt d.q :: pt d.q :: .bool false :: .bool false :: pt d.q :: iN .u8 n :: iN .i64 n :: iN .i64 (1 + n) :: iN .i64 0 :: .bool false :: .bool false :: u19 28 :: u19 29 :: u19 30 :: u19 31 :: u19 32 :: u19 33 :: u19 34 :: u19 35 :: u19 36 :: u19 37 :: u19 38 :: u19 39 :: u19 40 :: u19 41 :: u19 42 :: u19 43 :: u19 44 :: u19 45 :: u19 46 :: u19 47 :: u19 48 :: u19 49 :: u19 50 :: u19 51 :: u19 52 :: u19 53 :: u19 54 :: u19 55 :: u19 56 :: u19 57 :: u19 58 :: u19 59 :: u19 60 :: u19 61 :: u19 62 :: u19 63 :: u19 64 :: u19 65 :: u19 66 :: u19 67 :: u19 68 :: u19 69 :: u19 70 :: u19 71 :: u19 72 :: u19 73 :: u19 74 :: u19 75 :: pt d.q :: .slice o2 ks.length c2 :: .slice o2 ks.length c2 :: iN .i64 ks.length :: iN .i64 (min ks.length 5) :: .slice o2 (min ks.length 5) c2 :: iN .i64 0 :: .bool false :: .bool false :: pt d.q :: .bool false :: .bool false :: List.replicate 67 un).toArray, []⟩) (by kernel_rfl) ?_
    refine wp_block ?_
    refine wp_count (fun k A w' => ∃ u36 : Nat → Value, A = ⟨(.slice o ss.length c :: iN .u8 n :: .slice o2 ks.length c2 :: un :: un :: un :: u36 6 :: pt d.q :: pt q8 :: pt q9 :: u19 10 :: u19 11 :: u19 12 :: u19 13 :: iN .i64 k :: u36 15 :: u36 16 :: pt d.q :: pt d.q :: .bool false :: .bool false :: pt d.q :: iN .u8 n :: iN .i64 n :: iN .i64 (1 + n) :: iN .i64 0 :: .bool false :: .bool false :: u19 28 :: u19 29 :: u19 30 :: u19 31 :: u19 32 :: u19 33 :: u19 34 :: u19 35 :: u19 36 :: u19 37 :: u19 38 :: u19 39 :: u19 40 :: u19 41 :: u19 42 :: u19 43 :: u19 44 :: u19 45 :: u19 46 :: u19 47 :: u19 48 :: u19 49 :: u19 50 :: u19 51 :: u19 52 :: u19 53 :: u19 54 :: u19 55 :: u19 56 :: u19 57 :: u19 58 :: u19 59 :: u19 60 :: u19 61 :: u19 62 :: u19 63 :: u19 64 :: u19 65 :: u19 66 :: u19 67 :: u19 68 :: u19 69 :: u19 70 :: u19 71 :: u19 72 :: u19 73 :: u19 74 :: u19 75 :: pt d.q :: .slice o2 ks.length c2 :: .slice o2 ks.length c2 :: iN .i64 ks.length :: iN .i64 (min ks.length 5) :: .slice o2 (min ks.length 5) c2 :: iN .i64 0 :: .bool false :: .bool false :: pt d.q :: .bool false :: .bool false :: u36 88 :: u36 89 :: u36 90 :: u36 91 :: u36 92 :: u36 93 :: u36 94 :: u36 95 :: u36 96 :: u36 97 :: u36 98 :: u36 99 :: u36 100 :: u36 101 :: u36 102 :: u36 103 :: u36 104 :: u36 105 :: u36 106 :: u36 107 :: u36 108 :: u36 109 :: u36 110 :: u36 111 :: u36 112 :: u36 113 :: u36 114 :: u36 115 :: u36 116 :: u36 117 :: u36 118 :: u36 119 :: u36 120 :: u36 121 :: u36 122 :: u36 123 :: u36 124 :: u36 125 :: u36 126 :: u36 127 :: u36 128 :: u36 129 :: u36 130 :: u36 131 :: u36 132 :: u36 133 :: u36 134 :: u36 135 :: u36 136 :: u36 137 :: u36 138 :: u36 139 :: u36 140 :: u36 141 :: u36 142 :: u36 143 :: u36 144 :: u36 145 :: u36 146 :: u36 147 :: u36 148 :: u36 149 :: u36 150 :: u36 151 :: u36 152 :: u36 153 :: List.replicate 1 un).toArray, []⟩ ∧ DH w [] d (wakeD D (ks.take 5)) [(q9, 51, stc pu), (q8, 51, stc sy)] w') 3 ?_ ?_ ?_
    · exact ⟨fun ii => (([(6, .bool false), (15, undef), (16, undef), (88, undef), (89, undef), (90, undef), (91, undef), (92, undef), (93, undef), (94, undef), (95, undef), (96, undef), (97, undef), (98, undef), (99, undef), (100, undef), (101, undef), (102, undef), (103, undef), (104, undef), (105, undef), (106, undef), (107, undef), (108, undef), (109, undef), (110, undef), (111, undef), (112, undef), (113, undef), (114, undef), (115, undef), (116, undef), (117, undef), (118, undef), (119, undef), (120, undef), (121, undef), (122, undef), (123, undef), (124, undef), (125, undef), (126, undef), (127, undef), (128, undef), (129, undef), (130, undef), (131, undef), (132, undef), (133, undef), (134, undef), (135, undef), (136, undef), (137, undef), (138, undef), (139, undef), (140, undef), (141, undef), (142, undef), (143, undef), (144, undef), (145, undef), (146, undef), (147, undef), (148, undef), (149, undef), (150, undef), (151, undef), (152, undef), (153, undef)] : List (Nat × Value)).find? (·.1 == ii)).elim undef (·.2), by kernel_rfl, (hcl30 [(q9, 51, stc pu), (q8, 51, stc sy)] _ (h35))⟩
    · rintro k hk _ w37 ⟨u36, rfl, hL2⟩
      have hL2 : DH _ _ d (wakeD D (ks.take 5)) _ _ := hL2
      obtain ⟨z38, X39, hcl40, hbe41, h42⟩ := DH.front hL2
      have h43 : HA z38 ((q9, 51, stc pu) :: (q8, 51, stc sy) :: X39) w37 := h42
      refine wp_seq ?_
      refine wp_seq ?_
      refine wl_region ?_
      refine wl_val (iN .i64 k) (by kernel_rfl) (by kernel_rfl) ?_
      refine wl_val (.bool true) (by kernel_rfl) (run_lss (k := .i64) (a := k) (b := 3) (by kernel_rfl) (by kernel_rfl) true (decide_eq_true (by omega))) ?_
      refine wl_nil ?_
      refine then_at (F := ⟨(.slice o ss.length c :: iN .u8 n :: .slice o2 ks.length c2 :: un :: un :: un :: u36 6 :: pt d.q :: pt q8 :: pt q9 :: u19 10 :: u19 11 :: u19 12 :: u19 13 :: iN .i64 k :: u36 15 :: u36 16 :: pt d.q :: pt d.q :: .bool false :: .bool false :: pt d.q :: iN .u8 n :: iN .i64 n :: iN .i64 (1 + n) :: iN .i64 0 :: .bool false :: .bool false :: u19 28 :: u19 29 :: u19 30 :: u19 31 :: u19 32 :: u19 33 :: u19 34 :: u19 35 :: u19 36 :: u19 37 :: u19 38 :: u19 39 :: u19 40 :: u19 41 :: u19 42 :: u19 43 :: u19 44 :: u19 45 :: u19 46 :: u19 47 :: u19 48 :: u19 49 :: u19 50 :: u19 51 :: u19 52 :: u19 53 :: u19 54 :: u19 55 :: u19 56 :: u19 57 :: u19 58 :: u19 59 :: u19 60 :: u19 61 :: u19 62 :: u19 63 :: u19 64 :: u19 65 :: u19 66 :: u19 67 :: u19 68 :: u19 69 :: u19 70 :: u19 71 :: u19 72 :: u19 73 :: u19 74 :: u19 75 :: pt d.q :: .slice o2 ks.length c2 :: .slice o2 ks.length c2 :: iN .i64 ks.length :: iN .i64 (min ks.length 5) :: .slice o2 (min ks.length 5) c2 :: iN .i64 0 :: .bool false :: .bool false :: pt d.q :: .bool false :: .bool false :: iN .i64 k :: .bool true :: u36 90 :: u36 91 :: u36 92 :: u36 93 :: u36 94 :: u36 95 :: u36 96 :: u36 97 :: u36 98 :: u36 99 :: u36 100 :: u36 101 :: u36 102 :: u36 103 :: u36 104 :: u36 105 :: u36 106 :: u36 107 :: u36 108 :: u36 109 :: u36 110 :: u36 111 :: u36 112 :: u36 113 :: u36 114 :: u36 115 :: u36 116 :: u36 117 :: u36 118 :: u36 119 :: u36 120 :: u36 121 :: u36 122 :: u36 123 :: u36 124 :: u36 125 :: u36 126 :: u36 127 :: u36 128 :: u36 129 :: u36 130 :: u36 131 :: u36 132 :: u36 133 :: u36 134 :: u36 135 :: u36 136 :: u36 137 :: u36 138 :: u36 139 :: u36 140 :: u36 141 :: u36 142 :: u36 143 :: u36 144 :: u36 145 :: u36 146 :: u36 147 :: u36 148 :: u36 149 :: u36 150 :: u36 151 :: u36 152 :: u36 153 :: List.replicate 1 un).toArray, []⟩) (by kernel_rfl) ?_
      refine wp_cond_true (by kernel_rfl) ?_
      refine wp_skip ?_
      refine then_at (F := ⟨(.slice o ss.length c :: iN .u8 n :: .slice o2 ks.length c2 :: un :: un :: un :: u36 6 :: pt d.q :: pt q8 :: pt q9 :: u19 10 :: u19 11 :: u19 12 :: u19 13 :: iN .i64 k :: u36 15 :: u36 16 :: pt d.q :: pt d.q :: .bool false :: .bool false :: pt d.q :: iN .u8 n :: iN .i64 n :: iN .i64 (1 + n) :: iN .i64 0 :: .bool false :: .bool false :: u19 28 :: u19 29 :: u19 30 :: u19 31 :: u19 32 :: u19 33 :: u19 34 :: u19 35 :: u19 36 :: u19 37 :: u19 38 :: u19 39 :: u19 40 :: u19 41 :: u19 42 :: u19 43 :: u19 44 :: u19 45 :: u19 46 :: u19 47 :: u19 48 :: u19 49 :: u19 50 :: u19 51 :: u19 52 :: u19 53 :: u19 54 :: u19 55 :: u19 56 :: u19 57 :: u19 58 :: u19 59 :: u19 60 :: u19 61 :: u19 62 :: u19 63 :: u19 64 :: u19 65 :: u19 66 :: u19 67 :: u19 68 :: u19 69 :: u19 70 :: u19 71 :: u19 72 :: u19 73 :: u19 74 :: u19 75 :: pt d.q :: .slice o2 ks.length c2 :: .slice o2 ks.length c2 :: iN .i64 ks.length :: iN .i64 (min ks.length 5) :: .slice o2 (min ks.length 5) c2 :: iN .i64 0 :: .bool false :: .bool false :: pt d.q :: .bool false :: .bool false :: iN .i64 k :: .bool true :: u36 90 :: u36 91 :: u36 92 :: u36 93 :: u36 94 :: u36 95 :: u36 96 :: u36 97 :: u36 98 :: u36 99 :: u36 100 :: u36 101 :: u36 102 :: u36 103 :: u36 104 :: u36 105 :: u36 106 :: u36 107 :: u36 108 :: u36 109 :: u36 110 :: u36 111 :: u36 112 :: u36 113 :: u36 114 :: u36 115 :: u36 116 :: u36 117 :: u36 118 :: u36 119 :: u36 120 :: u36 121 :: u36 122 :: u36 123 :: u36 124 :: u36 125 :: u36 126 :: u36 127 :: u36 128 :: u36 129 :: u36 130 :: u36 131 :: u36 132 :: u36 133 :: u36 134 :: u36 135 :: u36 136 :: u36 137 :: u36 138 :: u36 139 :: u36 140 :: u36 141 :: u36 142 :: u36 143 :: u36 144 :: u36 145 :: u36 146 :: u36 147 :: u36 148 :: u36 149 :: u36 150 :: u36 151 :: u36 152 :: u36 153 :: List.replicate 1 un).toArray, []⟩) (by kernel_rfl) ?_
      refine wp_seq ?_
      refine wp_block ?_
      refine wp_seq ?_
      rcases KR.woken (ks := ks.take 5) hkr hk with ⟨hrd, hpu, hsy0⟩ | ⟨rs, hrd, hr1, hr2, hrs, hsn⟩
      · have hpe : pu.getD k { data := #[] } = { data := #[] } := bl_inj hpu
        have hse : sy.getD k { data := #[] } = { data := #[] } := bl_inj hsy0
        refine wl_region ?_
        refine wl_val (.pointer (some ⟨d.q, 0, none⟩)) (by kernel_rfl) (by kernel_rfl) ?_
        refine wl_val (iN .i64 k) (by kernel_rfl) (by kernel_rfl) ?_
        refine wl_val (iN .u8 k) (by kernel_rfl) (run_conv .u8 Try.underlying3 Try.underlying5 (by kernel_rfl) (by simp only [top]; omega)) ?_
        refine wl_val (iN .u8 (97 + k)) (by kernel_rfl) (run_add (k := .u8) (a := 97) (b := k) (by kernel_rfl) (by kernel_rfl) (by first | omega | (simp only [top]; omega))) ?_
        refine wl_mks (n := 1) (m := 1) (c := bc [UInt8.ofNat (97 + k)]) h43 5 (by kernel_rfl) (run_build1 (u := UInt8.ofNat (97 + k)) ((by kernel_rfl : _ = iN .u8 (97 + k)).trans (by8_of (by omega)))) ?_
        intro q44 w45 (h46 : HA z38 ((q44, 5, bc [UInt8.ofNat (97 + k)]) :: (q9, 51, stc pu) :: (q8, 51, stc sy) :: X39) w45)
        refine wl_val (.string (nmK k)) (by kernel_rfl) (((run_textg (m := 1) (c := 1) (l := [UInt8.ofNat (97 + k)]) (by kernel_rfl) (h46.get 0 rfl) (by simp)).trans (by rfl))) ?_
        refine wl_call (v := .tuple #[.string ((⟨#[]⟩ : ByteArray)), iN .i64 5]) h46 (by kernel_rfl) enter23 #[.pointer (some ⟨d.q, 0, none⟩), .string (nmK k)] (by kernel_rfl) (by have h := Read_any (hcl40 [(q44, 5, bc [UInt8.ofNat (97 + k)]), (q9, 51, stc pu), (q8, 51, stc sy)] _ h46) (nmK k); rw [hrd] at h; exact h) ?_
        intro w47 h48
        refine wl_val (.tuple #[.string ((⟨#[]⟩ : ByteArray)), iN .i64 5]) (by kernel_rfl) (by kernel_rfl) ?_
        refine wl_val (.string ((⟨#[]⟩ : ByteArray))) (by kernel_rfl) (by kernel_rfl) ?_
        refine wl_val (iN .i64 5) (by kernel_rfl) (by kernel_rfl) ?_
        refine wl_val (.string ((⟨#[]⟩ : ByteArray))) (by kernel_rfl) (by kernel_rfl) ?_
        refine wl_val (iN .i64 5) (by kernel_rfl) (by kernel_rfl) ?_
        refine wl_nil ?_
        refine then_at (F := ⟨(.slice o ss.length c :: iN .u8 n :: .slice o2 ks.length c2 :: un :: un :: un :: u36 6 :: pt d.q :: pt q8 :: pt q9 :: u19 10 :: u19 11 :: u19 12 :: u19 13 :: iN .i64 k :: .string ((⟨#[]⟩ : ByteArray)) :: iN .i64 5 :: pt d.q :: pt d.q :: .bool false :: .bool false :: pt d.q :: iN .u8 n :: iN .i64 n :: iN .i64 (1 + n) :: iN .i64 0 :: .bool false :: .bool false :: u19 28 :: u19 29 :: u19 30 :: u19 31 :: u19 32 :: u19 33 :: u19 34 :: u19 35 :: u19 36 :: u19 37 :: u19 38 :: u19 39 :: u19 40 :: u19 41 :: u19 42 :: u19 43 :: u19 44 :: u19 45 :: u19 46 :: u19 47 :: u19 48 :: u19 49 :: u19 50 :: u19 51 :: u19 52 :: u19 53 :: u19 54 :: u19 55 :: u19 56 :: u19 57 :: u19 58 :: u19 59 :: u19 60 :: u19 61 :: u19 62 :: u19 63 :: u19 64 :: u19 65 :: u19 66 :: u19 67 :: u19 68 :: u19 69 :: u19 70 :: u19 71 :: u19 72 :: u19 73 :: u19 74 :: u19 75 :: pt d.q :: .slice o2 ks.length c2 :: .slice o2 ks.length c2 :: iN .i64 ks.length :: iN .i64 (min ks.length 5) :: .slice o2 (min ks.length 5) c2 :: iN .i64 0 :: .bool false :: .bool false :: pt d.q :: .bool false :: .bool false :: iN .i64 k :: .bool true :: u36 90 :: u36 91 :: .tuple #[.string ((⟨#[]⟩ : ByteArray)), iN .i64 5] :: pt d.q :: iN .i64 k :: iN .u8 k :: iN .u8 (97 + k) :: .slice (some ⟨q44, 0, none⟩) 1 1 :: .string (nmK k) :: .tuple #[.string ((⟨#[]⟩ : ByteArray)), iN .i64 5] :: .string ((⟨#[]⟩ : ByteArray)) :: iN .i64 5 :: u36 102 :: u36 103 :: u36 104 :: u36 105 :: u36 106 :: u36 107 :: u36 108 :: u36 109 :: u36 110 :: u36 111 :: u36 112 :: u36 113 :: u36 114 :: u36 115 :: u36 116 :: u36 117 :: u36 118 :: u36 119 :: u36 120 :: u36 121 :: u36 122 :: u36 123 :: u36 124 :: u36 125 :: u36 126 :: u36 127 :: u36 128 :: u36 129 :: u36 130 :: u36 131 :: u36 132 :: u36 133 :: u36 134 :: u36 135 :: u36 136 :: u36 137 :: u36 138 :: u36 139 :: u36 140 :: u36 141 :: u36 142 :: u36 143 :: u36 144 :: u36 145 :: u36 146 :: u36 147 :: u36 148 :: u36 149 :: u36 150 :: u36 151 :: u36 152 :: u36 153 :: List.replicate 1 un).toArray, []⟩) (by kernel_rfl) ?_
        refine wp_seq ?_
        refine wl_region ?_
        refine wl_val (iN .i64 5) (by kernel_rfl) (by kernel_rfl) ?_
        refine wl_val (.bool true) (by kernel_rfl) (run_nei (k := .i64) (a := 5) (b := 0) (by kernel_rfl) (by kernel_rfl) true (by decide)) ?_
        refine wl_val (.bool true) (by kernel_rfl) (by kernel_rfl) ?_
        refine wl_val (iN .i64 k) (by kernel_rfl) (by kernel_rfl) ?_
        refine wl_val (.pointer (some ⟨q9, k, none⟩)) (by kernel_rfl) (run_addr3 (q := q9) (i := k) (by kernel_rfl) (by kernel_rfl) (by omega)) ?_
        refine wl_val (.string (pu.getD k { data := #[] })) (by kernel_rfl) (run_load1 (fun w => Try.isAgg9 w) (by kernel_rfl) (((h48.get 1 rfl).cell k).trans (stc_get pu k (by first | (rw [hkr.lp]; omega) | (rw [List.length_set, hkr.lp]; omega))))) ?_
        refine wl_val (.bool false) (by kernel_rfl) (run_nes (s := pu.getD k { data := #[] }) (t := { data := #[] }) (by kernel_rfl) (by kernel_rfl) false (decide_eq_true hpe)) ?_
        refine wl_val (.bool false) (by kernel_rfl) (by kernel_rfl) ?_
        refine wl_val (.bool false) (by kernel_rfl) (by kernel_rfl) ?_
        refine wl_val (.string ((⟨#[]⟩ : ByteArray))) (by kernel_rfl) (by kernel_rfl) ?_
        refine wl_val (iN .i64 (((⟨#[]⟩ : ByteArray)).size)) (by kernel_rfl) (run_len (s := (⟨#[]⟩ : ByteArray)) (by kernel_rfl)) ?_
        refine wl_val (iN .i64 k) (by kernel_rfl) (by kernel_rfl) ?_
        refine wl_val (.pointer (some ⟨q8, k, none⟩)) (by kernel_rfl) (run_addr3 (q := q8) (i := k) (by kernel_rfl) (by kernel_rfl) (by omega)) ?_
        refine wl_val (.string (sy.getD k { data := #[] })) (by kernel_rfl) (run_load1 (fun w => Try.isAgg9 w) (by kernel_rfl) (((h48.get 2 rfl).cell k).trans (stc_get sy k (by first | (rw [hkr.ls]; omega) | (rw [List.length_set, hkr.ls]; omega))))) ?_
        refine wl_val (iN .i64 ((sy.getD k { data := #[] }).size)) (by kernel_rfl) (run_len (s := sy.getD k { data := #[] }) (by kernel_rfl)) ?_
        refine wl_val (.bool false) (by kernel_rfl) (run_lss (k := .i64) (a := ((⟨#[]⟩ : ByteArray)).size) (b := (sy.getD k { data := #[] }).size) (by kernel_rfl) (by kernel_rfl) false (decide_eq_false (by rw [hse]; decide))) ?_
        refine wl_val (.bool false) (by kernel_rfl) (by kernel_rfl) ?_
        refine wl_val (.bool false) (by kernel_rfl) (by kernel_rfl) ?_
        refine wl_val (.string ((⟨#[]⟩ : ByteArray))) (by kernel_rfl) (by kernel_rfl) ?_
        refine wl_val (iN .i64 (((⟨#[]⟩ : ByteArray)).size)) (by kernel_rfl) (run_len (s := (⟨#[]⟩ : ByteArray)) (by kernel_rfl)) ?_
        refine wl_val (iN .i64 k) (by kernel_rfl) (by kernel_rfl) ?_
        refine wl_val (.pointer (some ⟨q9, k, none⟩)) (by kernel_rfl) (run_addr3 (q := q9) (i := k) (by kernel_rfl) (by kernel_rfl) (by omega)) ?_
        refine wl_val (.string (pu.getD k { data := #[] })) (by kernel_rfl) (run_load1 (fun w => Try.isAgg9 w) (by kernel_rfl) (((h48.get 1 rfl).cell k).trans (stc_get pu k (by first | (rw [hkr.lp]; omega) | (rw [List.length_set, hkr.lp]; omega))))) ?_
        refine wl_val (iN .i64 ((pu.getD k { data := #[] }).size)) (by kernel_rfl) (run_len (s := pu.getD k { data := #[] }) (by kernel_rfl)) ?_
        refine wl_val (.bool false) (by kernel_rfl) (run_gtr (k := .i64) (a := ((⟨#[]⟩ : ByteArray)).size) (b := (pu.getD k { data := #[] }).size) (by kernel_rfl) (by kernel_rfl) false (decide_eq_false (by rw [hpe]; decide))) ?_
        refine wl_val (.bool false) (by kernel_rfl) (by kernel_rfl) ?_
        refine wl_val (.bool false) (by kernel_rfl) (by kernel_rfl) ?_
        refine wl_val (.string ((⟨#[]⟩ : ByteArray))) (by kernel_rfl) (by kernel_rfl) ?_
        refine wl_val (iN .i64 k) (by kernel_rfl) (by kernel_rfl) ?_
        refine wl_val (.pointer (some ⟨q9, k, none⟩)) (by kernel_rfl) (run_addr3 (q := q9) (i := k) (by kernel_rfl) (by kernel_rfl) (by omega)) ?_
        refine wl_val (.string (pu.getD k { data := #[] })) (by kernel_rfl) (run_load1 (fun w => Try.isAgg9 w) (by kernel_rfl) (((h48.get 1 rfl).cell k).trans (stc_get pu k (by first | (rw [hkr.lp]; omega) | (rw [List.length_set, hkr.lp]; omega))))) ?_
        refine wl_val (.string ((⟨#[]⟩ : ByteArray))) (by kernel_rfl) (by kernel_rfl) ?_
        refine wl_val (iN .i64 (((⟨#[]⟩ : ByteArray)).size)) (by kernel_rfl) (run_len (s := (⟨#[]⟩ : ByteArray)) (by kernel_rfl)) ?_
        refine wl_val (.string ((pu.getD k { data := #[] }).extract 0 (((⟨#[]⟩ : ByteArray)).size))) (by kernel_rfl) (run_cut_hi (s := pu.getD k { data := #[] }) (b := ((⟨#[]⟩ : ByteArray)).size) (by kernel_rfl) (by kernel_rfl) (by first | omega | exact Nat.zero_le _)) ?_
        refine wl_val (.bool false) (by kernel_rfl) (run_nes (s := (⟨#[]⟩ : ByteArray)) (t := (pu.getD k { data := #[] }).extract 0 (((⟨#[]⟩ : ByteArray)).size)) (by kernel_rfl) (by kernel_rfl) false (decide_eq_true (by rw [hpe]; rfl))) ?_
        refine wl_val (.bool false) (by kernel_rfl) (by kernel_rfl) ?_
        refine wl_val (.bool false) (by kernel_rfl) (by kernel_rfl) ?_
        refine wl_val (iN .i64 5) (by kernel_rfl) (by kernel_rfl) ?_
        refine wl_val (.bool false) (by kernel_rfl) (run_eqi (k := .i64) (a := 5) (b := 0) (by kernel_rfl) (by kernel_rfl) false (by decide)) ?_
        refine wl_val (.bool false) (by kernel_rfl) (by kernel_rfl) ?_
        refine wl_skip (by kernel_rfl) ?_
        refine wl_skip (by kernel_rfl) ?_
        refine wl_skip (by kernel_rfl) ?_
        refine wl_skip (by kernel_rfl) ?_
        refine wl_skip (by kernel_rfl) ?_
        refine wl_skip (by kernel_rfl) ?_
        refine wl_skip (by kernel_rfl) ?_
        refine wl_skip (by kernel_rfl) ?_
        refine wl_skip (by kernel_rfl) ?_
        refine wl_skip (by kernel_rfl) ?_
        refine wl_val (.bool false) (by kernel_rfl) (by kernel_rfl) ?_
        refine wl_val (.bool false) (by kernel_rfl) (by kernel_rfl) ?_
        refine wl_nil ?_
        refine then_at (F := ⟨(.slice o ss.length c :: iN .u8 n :: .slice o2 ks.length c2 :: un :: un :: un :: u36 6 :: pt d.q :: pt q8 :: pt q9 :: u19 10 :: u19 11 :: u19 12 :: u19 13 :: iN .i64 k :: .string ((⟨#[]⟩ : ByteArray)) :: iN .i64 5 :: pt d.q :: pt d.q :: .bool false :: .bool false :: pt d.q :: iN .u8 n :: iN .i64 n :: iN .i64 (1 + n) :: iN .i64 0 :: .bool false :: .bool false :: u19 28 :: u19 29 :: u19 30 :: u19 31 :: u19 32 :: u19 33 :: u19 34 :: u19 35 :: u19 36 :: u19 37 :: u19 38 :: u19 39 :: u19 40 :: u19 41 :: u19 42 :: u19 43 :: u19 44 :: u19 45 :: u19 46 :: u19 47 :: u19 48 :: u19 49 :: u19 50 :: u19 51 :: u19 52 :: u19 53 :: u19 54 :: u19 55 :: u19 56 :: u19 57 :: u19 58 :: u19 59 :: u19 60 :: u19 61 :: u19 62 :: u19 63 :: u19 64 :: u19 65 :: u19 66 :: u19 67 :: u19 68 :: u19 69 :: u19 70 :: u19 71 :: u19 72 :: u19 73 :: u19 74 :: u19 75 :: pt d.q :: .slice o2 ks.length c2 :: .slice o2 ks.length c2 :: iN .i64 ks.length :: iN .i64 (min ks.length 5) :: .slice o2 (min ks.length 5) c2 :: iN .i64 0 :: .bool false :: .bool false :: pt d.q :: .bool false :: .bool false :: iN .i64 k :: .bool true :: u36 90 :: u36 91 :: .tuple #[.string ((⟨#[]⟩ : ByteArray)), iN .i64 5] :: pt d.q :: iN .i64 k :: iN .u8 k :: iN .u8 (97 + k) :: .slice (some ⟨q44, 0, none⟩) 1 1 :: .string (nmK k) :: .tuple #[.string ((⟨#[]⟩ : ByteArray)), iN .i64 5] :: .string ((⟨#[]⟩ : ByteArray)) :: iN .i64 5 :: iN .i64 5 :: .bool true :: .bool true :: iN .i64 k :: .pointer (some ⟨q9, k, none⟩) :: .string (pu.getD k { data := #[] }) :: .bool false :: .bool false :: .bool false :: .string ((⟨#[]⟩ : ByteArray)) :: iN .i64 (((⟨#[]⟩ : ByteArray)).size) :: iN .i64 k :: .pointer (some ⟨q8, k, none⟩) :: .string (sy.getD k { data := #[] }) :: iN .i64 ((sy.getD k { data := #[] }).size) :: .bool false :: .bool false :: .bool false :: .string ((⟨#[]⟩ : ByteArray)) :: iN .i64 (((⟨#[]⟩ : ByteArray)).size) :: iN .i64 k :: .pointer (some ⟨q9, k, none⟩) :: .string (pu.getD k { data := #[] }) :: iN .i64 ((pu.getD k { data := #[] }).size) :: .bool false :: .bool false :: .bool false :: .string ((⟨#[]⟩ : ByteArray)) :: iN .i64 k :: .pointer (some ⟨q9, k, none⟩) :: .string (pu.getD k { data := #[] }) :: .string ((⟨#[]⟩ : ByteArray)) :: iN .i64 (((⟨#[]⟩ : ByteArray)).size) :: .string ((pu.getD k { data := #[] }).extract 0 (((⟨#[]⟩ : ByteArray)).size)) :: .bool false :: .bool false :: .bool false :: iN .i64 5 :: .bool false :: .bool false :: un :: un :: un :: un :: un :: un :: un :: un :: un :: un :: .bool false :: .bool false :: List.replicate 1 un).toArray, []⟩) (by kernel_rfl) ?_
        refine wp_cond_false (by kernel_rfl) ?_
        refine wp_skip ?_
        refine block_normal ?_
        refine then_at (F := ⟨(.slice o ss.length c :: iN .u8 n :: .slice o2 ks.length c2 :: un :: un :: un :: u36 6 :: pt d.q :: pt q8 :: pt q9 :: u19 10 :: u19 11 :: u19 12 :: u19 13 :: iN .i64 k :: .string ((⟨#[]⟩ : ByteArray)) :: iN .i64 5 :: pt d.q :: pt d.q :: .bool false :: .bool false :: pt d.q :: iN .u8 n :: iN .i64 n :: iN .i64 (1 + n) :: iN .i64 0 :: .bool false :: .bool false :: u19 28 :: u19 29 :: u19 30 :: u19 31 :: u19 32 :: u19 33 :: u19 34 :: u19 35 :: u19 36 :: u19 37 :: u19 38 :: u19 39 :: u19 40 :: u19 41 :: u19 42 :: u19 43 :: u19 44 :: u19 45 :: u19 46 :: u19 47 :: u19 48 :: u19 49 :: u19 50 :: u19 51 :: u19 52 :: u19 53 :: u19 54 :: u19 55 :: u19 56 :: u19 57 :: u19 58 :: u19 59 :: u19 60 :: u19 61 :: u19 62 :: u19 63 :: u19 64 :: u19 65 :: u19 66 :: u19 67 :: u19 68 :: u19 69 :: u19 70 :: u19 71 :: u19 72 :: u19 73 :: u19 74 :: u19 75 :: pt d.q :: .slice o2 ks.length c2 :: .slice o2 ks.length c2 :: iN .i64 ks.length :: iN .i64 (min ks.length 5) :: .slice o2 (min ks.length 5) c2 :: iN .i64 0 :: .bool false :: .bool false :: pt d.q :: .bool false :: .bool false :: iN .i64 k :: .bool true :: u36 90 :: u36 91 :: .tuple #[.string ((⟨#[]⟩ : ByteArray)), iN .i64 5] :: pt d.q :: iN .i64 k :: iN .u8 k :: iN .u8 (97 + k) :: .slice (some ⟨q44, 0, none⟩) 1 1 :: .string (nmK k) :: .tuple #[.string ((⟨#[]⟩ : ByteArray)), iN .i64 5] :: .string ((⟨#[]⟩ : ByteArray)) :: iN .i64 5 :: iN .i64 5 :: .bool true :: .bool true :: iN .i64 k :: .pointer (some ⟨q9, k, none⟩) :: .string (pu.getD k { data := #[] }) :: .bool false :: .bool false :: .bool false :: .string ((⟨#[]⟩ : ByteArray)) :: iN .i64 (((⟨#[]⟩ : ByteArray)).size) :: iN .i64 k :: .pointer (some ⟨q8, k, none⟩) :: .string (sy.getD k { data := #[] }) :: iN .i64 ((sy.getD k { data := #[] }).size) :: .bool false :: .bool false :: .bool false :: .string ((⟨#[]⟩ : ByteArray)) :: iN .i64 (((⟨#[]⟩ : ByteArray)).size) :: iN .i64 k :: .pointer (some ⟨q9, k, none⟩) :: .string (pu.getD k { data := #[] }) :: iN .i64 ((pu.getD k { data := #[] }).size) :: .bool false :: .bool false :: .bool false :: .string ((⟨#[]⟩ : ByteArray)) :: iN .i64 k :: .pointer (some ⟨q9, k, none⟩) :: .string (pu.getD k { data := #[] }) :: .string ((⟨#[]⟩ : ByteArray)) :: iN .i64 (((⟨#[]⟩ : ByteArray)).size) :: .string ((pu.getD k { data := #[] }).extract 0 (((⟨#[]⟩ : ByteArray)).size)) :: .bool false :: .bool false :: .bool false :: iN .i64 5 :: .bool false :: .bool false :: un :: un :: un :: un :: un :: un :: un :: un :: un :: un :: .bool false :: .bool false :: List.replicate 1 un).toArray, []⟩) (by kernel_rfl) ?_
        refine wl_region ?_
        refine wl_val (iN .i64 k) (by kernel_rfl) (by kernel_rfl) ?_
        refine wl_val (iN .i64 (k + 1)) (by kernel_rfl) (run_add (k := .i64) (a := k) (b := 1) (by kernel_rfl) (by kernel_rfl) (by first | omega | (simp only [top]; omega))) ?_
        refine wl_val (iN .i64 (k + 1)) (by kernel_rfl) (by kernel_rfl) ?_
        refine wl_nil ?_
        exact then_I ⟨fun ii => (([(6, u36 6), (15, .string ((⟨#[]⟩ : ByteArray))), (16, iN .i64 5), (88, iN .i64 k), (89, .bool true), (90, iN .i64 k), (91, iN .i64 (k + 1)), (92, .tuple #[.string ((⟨#[]⟩ : ByteArray)), iN .i64 5]), (93, .pointer (some ⟨d.q, 0, none⟩)), (94, iN .i64 k), (95, iN .u8 k), (96, iN .u8 (97 + k)), (97, .slice (some ⟨q44, 0, none⟩) 1 1), (98, .string (nmK k)), (99, .tuple #[.string ((⟨#[]⟩ : ByteArray)), iN .i64 5]), (100, .string ((⟨#[]⟩ : ByteArray))), (101, iN .i64 5), (102, iN .i64 5), (103, .bool true), (104, .bool true), (105, iN .i64 k), (106, .pointer (some ⟨q9, k, none⟩)), (107, .string (pu.getD k { data := #[] })), (108, .bool false), (109, .bool false), (110, .bool false), (111, .string ((⟨#[]⟩ : ByteArray))), (112, iN .i64 (((⟨#[]⟩ : ByteArray)).size)), (113, iN .i64 k), (114, .pointer (some ⟨q8, k, none⟩)), (115, .string (sy.getD k { data := #[] })), (116, iN .i64 ((sy.getD k { data := #[] }).size)), (117, .bool false), (118, .bool false), (119, .bool false), (120, .string ((⟨#[]⟩ : ByteArray))), (121, iN .i64 (((⟨#[]⟩ : ByteArray)).size)), (122, iN .i64 k), (123, .pointer (some ⟨q9, k, none⟩)), (124, .string (pu.getD k { data := #[] })), (125, iN .i64 ((pu.getD k { data := #[] }).size)), (126, .bool false), (127, .bool false), (128, .bool false), (129, .string ((⟨#[]⟩ : ByteArray))), (130, iN .i64 k), (131, .pointer (some ⟨q9, k, none⟩)), (132, .string (pu.getD k { data := #[] })), (133, .string ((⟨#[]⟩ : ByteArray))), (134, iN .i64 (((⟨#[]⟩ : ByteArray)).size)), (135, .string ((pu.getD k { data := #[] }).extract 0 (((⟨#[]⟩ : ByteArray)).size))), (136, .bool false), (137, .bool false), (138, .bool false), (139, iN .i64 5), (140, .bool false), (141, .bool false), (142, undef), (143, undef), (144, undef), (145, undef), (146, undef), (147, undef), (148, undef), (149, undef), (150, undef), (151, undef), (152, .bool false), (153, .bool false)] : List (Nat × Value)).find? (·.1 == ii)).elim undef (·.2), by kernel_rfl, (hcl40 [(q9, 51, stc pu), (q8, 51, stc sy)] _ (h48.sub (List.Sublist.cons _ (List.Sublist.refl _))))⟩
      · skip
        refine wl_region ?_
        refine wl_val (.pointer (some ⟨d.q, 0, none⟩)) (by kernel_rfl) (by kernel_rfl) ?_
        refine wl_val (iN .i64 k) (by kernel_rfl) (by kernel_rfl) ?_
        refine wl_val (iN .u8 k) (by kernel_rfl) (run_conv .u8 Try.underlying3 Try.underlying5 (by kernel_rfl) (by simp only [top]; omega)) ?_
        refine wl_val (iN .u8 (97 + k)) (by kernel_rfl) (run_add (k := .u8) (a := 97) (b := k) (by kernel_rfl) (by kernel_rfl) (by first | omega | (simp only [top]; omega))) ?_
        refine wl_mks (n := 1) (m := 1) (c := bc [UInt8.ofNat (97 + k)]) h43 5 (by kernel_rfl) (run_build1 (u := UInt8.ofNat (97 + k)) ((by kernel_rfl : _ = iN .u8 (97 + k)).trans (by8_of (by omega)))) ?_
        intro q49 w50 (h51 : HA z38 ((q49, 5, bc [UInt8.ofNat (97 + k)]) :: (q9, 51, stc pu) :: (q8, 51, stc sy) :: X39) w50)
        refine wl_val (.string (nmK k)) (by kernel_rfl) (((run_textg (m := 1) (c := 1) (l := [UInt8.ofNat (97 + k)]) (by kernel_rfl) (h51.get 0 rfl) (by simp)).trans (by rfl))) ?_
        refine wl_call (v := .tuple #[.string rs, iN .i64 0]) h51 (by kernel_rfl) enter23 #[.pointer (some ⟨d.q, 0, none⟩), .string (nmK k)] (by kernel_rfl) (by have h := Read_any (hcl40 [(q49, 5, bc [UInt8.ofNat (97 + k)]), (q9, 51, stc pu), (q8, 51, stc sy)] _ h51) (nmK k); rw [hrd] at h; exact h) ?_
        intro w52 h53
        refine wl_val (.tuple #[.string rs, iN .i64 0]) (by kernel_rfl) (by kernel_rfl) ?_
        refine wl_val (.string rs) (by kernel_rfl) (by kernel_rfl) ?_
        refine wl_val (iN .i64 0) (by kernel_rfl) (by kernel_rfl) ?_
        refine wl_val (.string rs) (by kernel_rfl) (by kernel_rfl) ?_
        refine wl_val (iN .i64 0) (by kernel_rfl) (by kernel_rfl) ?_
        refine wl_nil ?_
        refine then_at (F := ⟨(.slice o ss.length c :: iN .u8 n :: .slice o2 ks.length c2 :: un :: un :: un :: u36 6 :: pt d.q :: pt q8 :: pt q9 :: u19 10 :: u19 11 :: u19 12 :: u19 13 :: iN .i64 k :: .string rs :: iN .i64 0 :: pt d.q :: pt d.q :: .bool false :: .bool false :: pt d.q :: iN .u8 n :: iN .i64 n :: iN .i64 (1 + n) :: iN .i64 0 :: .bool false :: .bool false :: u19 28 :: u19 29 :: u19 30 :: u19 31 :: u19 32 :: u19 33 :: u19 34 :: u19 35 :: u19 36 :: u19 37 :: u19 38 :: u19 39 :: u19 40 :: u19 41 :: u19 42 :: u19 43 :: u19 44 :: u19 45 :: u19 46 :: u19 47 :: u19 48 :: u19 49 :: u19 50 :: u19 51 :: u19 52 :: u19 53 :: u19 54 :: u19 55 :: u19 56 :: u19 57 :: u19 58 :: u19 59 :: u19 60 :: u19 61 :: u19 62 :: u19 63 :: u19 64 :: u19 65 :: u19 66 :: u19 67 :: u19 68 :: u19 69 :: u19 70 :: u19 71 :: u19 72 :: u19 73 :: u19 74 :: u19 75 :: pt d.q :: .slice o2 ks.length c2 :: .slice o2 ks.length c2 :: iN .i64 ks.length :: iN .i64 (min ks.length 5) :: .slice o2 (min ks.length 5) c2 :: iN .i64 0 :: .bool false :: .bool false :: pt d.q :: .bool false :: .bool false :: iN .i64 k :: .bool true :: u36 90 :: u36 91 :: .tuple #[.string rs, iN .i64 0] :: pt d.q :: iN .i64 k :: iN .u8 k :: iN .u8 (97 + k) :: .slice (some ⟨q49, 0, none⟩) 1 1 :: .string (nmK k) :: .tuple #[.string rs, iN .i64 0] :: .string rs :: iN .i64 0 :: u36 102 :: u36 103 :: u36 104 :: u36 105 :: u36 106 :: u36 107 :: u36 108 :: u36 109 :: u36 110 :: u36 111 :: u36 112 :: u36 113 :: u36 114 :: u36 115 :: u36 116 :: u36 117 :: u36 118 :: u36 119 :: u36 120 :: u36 121 :: u36 122 :: u36 123 :: u36 124 :: u36 125 :: u36 126 :: u36 127 :: u36 128 :: u36 129 :: u36 130 :: u36 131 :: u36 132 :: u36 133 :: u36 134 :: u36 135 :: u36 136 :: u36 137 :: u36 138 :: u36 139 :: u36 140 :: u36 141 :: u36 142 :: u36 143 :: u36 144 :: u36 145 :: u36 146 :: u36 147 :: u36 148 :: u36 149 :: u36 150 :: u36 151 :: u36 152 :: u36 153 :: List.replicate 1 un).toArray, []⟩) (by kernel_rfl) ?_
        refine wp_seq ?_
        refine wl_region ?_
        refine wl_val (iN .i64 0) (by kernel_rfl) (by kernel_rfl) ?_
        refine wl_val (.bool false) (by kernel_rfl) (run_nei (k := .i64) (a := 0) (b := 0) (by kernel_rfl) (by kernel_rfl) false (by decide)) ?_
        refine wl_val (.bool false) (by kernel_rfl) (by kernel_rfl) ?_
        refine wl_skip (by kernel_rfl) ?_
        refine wl_skip (by kernel_rfl) ?_
        refine wl_skip (by kernel_rfl) ?_
        refine wl_skip (by kernel_rfl) ?_
        refine wl_val (.bool false) (by kernel_rfl) (by kernel_rfl) ?_
        refine wl_val (.bool false) (by kernel_rfl) (by kernel_rfl) ?_
        refine wl_val (.string rs) (by kernel_rfl) (by kernel_rfl) ?_
        refine wl_val (iN .i64 rs.size) (by kernel_rfl) (run_len (s := rs) (by kernel_rfl)) ?_
        refine wl_val (iN .i64 k) (by kernel_rfl) (by kernel_rfl) ?_
        refine wl_val (.pointer (some ⟨q8, k, none⟩)) (by kernel_rfl) (run_addr3 (q := q8) (i := k) (by kernel_rfl) (by kernel_rfl) (by omega)) ?_
        refine wl_val (.string (sy.getD k { data := #[] })) (by kernel_rfl) (run_load1 (fun w => Try.isAgg9 w) (by kernel_rfl) (((h53.get 2 rfl).cell k).trans (stc_get sy k (by first | (rw [hkr.ls]; omega) | (rw [List.length_set, hkr.ls]; omega))))) ?_
        refine wl_val (iN .i64 ((sy.getD k { data := #[] }).size)) (by kernel_rfl) (run_len (s := sy.getD k { data := #[] }) (by kernel_rfl)) ?_
        refine wl_val (.bool false) (by kernel_rfl) (run_lss (k := .i64) (a := rs.size) (b := (sy.getD k { data := #[] }).size) (by kernel_rfl) (by kernel_rfl) false (decide_eq_false (by omega))) ?_
        refine wl_val (.bool false) (by kernel_rfl) (by kernel_rfl) ?_
        refine wl_val (.bool false) (by kernel_rfl) (by kernel_rfl) ?_
        refine wl_val (.string rs) (by kernel_rfl) (by kernel_rfl) ?_
        refine wl_val (iN .i64 rs.size) (by kernel_rfl) (run_len (s := rs) (by kernel_rfl)) ?_
        refine wl_val (iN .i64 k) (by kernel_rfl) (by kernel_rfl) ?_
        refine wl_val (.pointer (some ⟨q9, k, none⟩)) (by kernel_rfl) (run_addr3 (q := q9) (i := k) (by kernel_rfl) (by kernel_rfl) (by omega)) ?_
        refine wl_val (.string (pu.getD k { data := #[] })) (by kernel_rfl) (run_load1 (fun w => Try.isAgg9 w) (by kernel_rfl) (((h53.get 1 rfl).cell k).trans (stc_get pu k (by first | (rw [hkr.lp]; omega) | (rw [List.length_set, hkr.lp]; omega))))) ?_
        refine wl_val (iN .i64 ((pu.getD k { data := #[] }).size)) (by kernel_rfl) (run_len (s := pu.getD k { data := #[] }) (by kernel_rfl)) ?_
        refine wl_val (.bool false) (by kernel_rfl) (run_gtr (k := .i64) (a := rs.size) (b := (pu.getD k { data := #[] }).size) (by kernel_rfl) (by kernel_rfl) false (decide_eq_false (by omega))) ?_
        refine wl_val (.bool false) (by kernel_rfl) (by kernel_rfl) ?_
        refine wl_val (.bool false) (by kernel_rfl) (by kernel_rfl) ?_
        refine wl_val (.string rs) (by kernel_rfl) (by kernel_rfl) ?_
        refine wl_val (iN .i64 k) (by kernel_rfl) (by kernel_rfl) ?_
        refine wl_val (.pointer (some ⟨q9, k, none⟩)) (by kernel_rfl) (run_addr3 (q := q9) (i := k) (by kernel_rfl) (by kernel_rfl) (by omega)) ?_
        refine wl_val (.string (pu.getD k { data := #[] })) (by kernel_rfl) (run_load1 (fun w => Try.isAgg9 w) (by kernel_rfl) (((h53.get 1 rfl).cell k).trans (stc_get pu k (by first | (rw [hkr.lp]; omega) | (rw [List.length_set, hkr.lp]; omega))))) ?_
        refine wl_val (.string rs) (by kernel_rfl) (by kernel_rfl) ?_
        refine wl_val (iN .i64 rs.size) (by kernel_rfl) (run_len (s := rs) (by kernel_rfl)) ?_
        refine wl_val (.string ((pu.getD k { data := #[] }).extract 0 rs.size)) (by kernel_rfl) (run_cut_hi (s := pu.getD k { data := #[] }) (b := rs.size) (by kernel_rfl) (by kernel_rfl) (by first | omega | exact Nat.zero_le _)) ?_
        refine wl_val (.bool false) (by kernel_rfl) (run_nes (s := rs) (t := (pu.getD k { data := #[] }).extract 0 rs.size) (by kernel_rfl) (by kernel_rfl) false (decide_eq_true hrs)) ?_
        refine wl_val (.bool false) (by kernel_rfl) (by kernel_rfl) ?_
        refine wl_val (.bool false) (by kernel_rfl) (by kernel_rfl) ?_
        refine wl_val (iN .i64 0) (by kernel_rfl) (by kernel_rfl) ?_
        refine wl_val (.bool true) (by kernel_rfl) (run_eqi (k := .i64) (a := 0) (b := 0) (by kernel_rfl) (by kernel_rfl) true (by decide)) ?_
        refine wl_val (.bool true) (by kernel_rfl) (by kernel_rfl) ?_
        refine wl_val (.pointer (some ⟨d.q, 0, none⟩)) (by kernel_rfl) (by kernel_rfl) ?_
        refine wl_val (iN .i64 k) (by kernel_rfl) (by kernel_rfl) ?_
        refine wl_val (iN .u8 k) (by kernel_rfl) (run_conv .u8 Try.underlying3 Try.underlying5 (by kernel_rfl) (by simp only [top]; omega)) ?_
        refine wl_val (iN .u8 (97 + k)) (by kernel_rfl) (run_add (k := .u8) (a := 97) (b := k) (by kernel_rfl) (by kernel_rfl) (by first | omega | (simp only [top]; omega))) ?_
        refine wl_mks (n := 1) (m := 1) (c := bc [UInt8.ofNat (97 + k)]) h53 5 (by kernel_rfl) (run_build1 (u := UInt8.ofNat (97 + k)) ((by kernel_rfl : _ = iN .u8 (97 + k)).trans (by8_of (by omega)))) ?_
        intro q54 w55 (h56 : HA z38 ((q54, 5, bc [UInt8.ofNat (97 + k)]) :: (q49, 5, bc [UInt8.ofNat (97 + k)]) :: (q9, 51, stc pu) :: (q8, 51, stc sy) :: X39) w55)
        refine wl_val (.string (nmK k)) (by kernel_rfl) (((run_textg (m := 1) (c := 1) (l := [UInt8.ofNat (97 + k)]) (by kernel_rfl) (h56.get 0 rfl) (by simp)).trans (by rfl))) ?_
        refine wl_call (v := iN .i64 rs.size) h56 (by kernel_rfl) enter28 #[.pointer (some ⟨d.q, 0, none⟩), .string (nmK k)] (by kernel_rfl) (by have h := Synced_any (hcl40 [(q54, 5, bc [UInt8.ofNat (97 + k)]), (q49, 5, bc [UInt8.ofNat (97 + k)]), (q9, 51, stc pu), (q8, 51, stc sy)] _ h56) (nmK k); rw [hsn] at h; exact h) ?_
        intro w57 h58
        refine wl_val (.string rs) (by kernel_rfl) (by kernel_rfl) ?_
        refine wl_val (iN .i64 rs.size) (by kernel_rfl) (run_len (s := rs) (by kernel_rfl)) ?_
        refine wl_val (.bool false) (by kernel_rfl) (run_nei (k := .i64) (a := rs.size) (b := rs.size) (by kernel_rfl) (by kernel_rfl) false (decide_eq_false (by omega))) ?_
        refine wl_val (.bool false) (by kernel_rfl) (by kernel_rfl) ?_
        refine wl_val (.bool false) (by kernel_rfl) (by kernel_rfl) ?_
        refine wl_nil ?_
        refine then_at (F := ⟨(.slice o ss.length c :: iN .u8 n :: .slice o2 ks.length c2 :: un :: un :: un :: u36 6 :: pt d.q :: pt q8 :: pt q9 :: u19 10 :: u19 11 :: u19 12 :: u19 13 :: iN .i64 k :: .string rs :: iN .i64 0 :: pt d.q :: pt d.q :: .bool false :: .bool false :: pt d.q :: iN .u8 n :: iN .i64 n :: iN .i64 (1 + n) :: iN .i64 0 :: .bool false :: .bool false :: u19 28 :: u19 29 :: u19 30 :: u19 31 :: u19 32 :: u19 33 :: u19 34 :: u19 35 :: u19 36 :: u19 37 :: u19 38 :: u19 39 :: u19 40 :: u19 41 :: u19 42 :: u19 43 :: u19 44 :: u19 45 :: u19 46 :: u19 47 :: u19 48 :: u19 49 :: u19 50 :: u19 51 :: u19 52 :: u19 53 :: u19 54 :: u19 55 :: u19 56 :: u19 57 :: u19 58 :: u19 59 :: u19 60 :: u19 61 :: u19 62 :: u19 63 :: u19 64 :: u19 65 :: u19 66 :: u19 67 :: u19 68 :: u19 69 :: u19 70 :: u19 71 :: u19 72 :: u19 73 :: u19 74 :: u19 75 :: pt d.q :: .slice o2 ks.length c2 :: .slice o2 ks.length c2 :: iN .i64 ks.length :: iN .i64 (min ks.length 5) :: .slice o2 (min ks.length 5) c2 :: iN .i64 0 :: .bool false :: .bool false :: pt d.q :: .bool false :: .bool false :: iN .i64 k :: .bool true :: u36 90 :: u36 91 :: .tuple #[.string rs, iN .i64 0] :: pt d.q :: iN .i64 k :: iN .u8 k :: iN .u8 (97 + k) :: .slice (some ⟨q49, 0, none⟩) 1 1 :: .string (nmK k) :: .tuple #[.string rs, iN .i64 0] :: .string rs :: iN .i64 0 :: iN .i64 0 :: .bool false :: .bool false :: un :: un :: un :: un :: .bool false :: .bool false :: .string rs :: iN .i64 rs.size :: iN .i64 k :: .pointer (some ⟨q8, k, none⟩) :: .string (sy.getD k { data := #[] }) :: iN .i64 ((sy.getD k { data := #[] }).size) :: .bool false :: .bool false :: .bool false :: .string rs :: iN .i64 rs.size :: iN .i64 k :: .pointer (some ⟨q9, k, none⟩) :: .string (pu.getD k { data := #[] }) :: iN .i64 ((pu.getD k { data := #[] }).size) :: .bool false :: .bool false :: .bool false :: .string rs :: iN .i64 k :: .pointer (some ⟨q9, k, none⟩) :: .string (pu.getD k { data := #[] }) :: .string rs :: iN .i64 rs.size :: .string ((pu.getD k { data := #[] }).extract 0 rs.size) :: .bool false :: .bool false :: .bool false :: iN .i64 0 :: .bool true :: .bool true :: pt d.q :: iN .i64 k :: iN .u8 k :: iN .u8 (97 + k) :: .slice (some ⟨q54, 0, none⟩) 1 1 :: .string (nmK k) :: iN .i64 rs.size :: .string rs :: iN .i64 rs.size :: .bool false :: .bool false :: .bool false :: List.replicate 1 un).toArray, []⟩) (by kernel_rfl) ?_
        refine wp_cond_false (by kernel_rfl) ?_
        refine wp_skip ?_
        refine block_normal ?_
        refine then_at (F := ⟨(.slice o ss.length c :: iN .u8 n :: .slice o2 ks.length c2 :: un :: un :: un :: u36 6 :: pt d.q :: pt q8 :: pt q9 :: u19 10 :: u19 11 :: u19 12 :: u19 13 :: iN .i64 k :: .string rs :: iN .i64 0 :: pt d.q :: pt d.q :: .bool false :: .bool false :: pt d.q :: iN .u8 n :: iN .i64 n :: iN .i64 (1 + n) :: iN .i64 0 :: .bool false :: .bool false :: u19 28 :: u19 29 :: u19 30 :: u19 31 :: u19 32 :: u19 33 :: u19 34 :: u19 35 :: u19 36 :: u19 37 :: u19 38 :: u19 39 :: u19 40 :: u19 41 :: u19 42 :: u19 43 :: u19 44 :: u19 45 :: u19 46 :: u19 47 :: u19 48 :: u19 49 :: u19 50 :: u19 51 :: u19 52 :: u19 53 :: u19 54 :: u19 55 :: u19 56 :: u19 57 :: u19 58 :: u19 59 :: u19 60 :: u19 61 :: u19 62 :: u19 63 :: u19 64 :: u19 65 :: u19 66 :: u19 67 :: u19 68 :: u19 69 :: u19 70 :: u19 71 :: u19 72 :: u19 73 :: u19 74 :: u19 75 :: pt d.q :: .slice o2 ks.length c2 :: .slice o2 ks.length c2 :: iN .i64 ks.length :: iN .i64 (min ks.length 5) :: .slice o2 (min ks.length 5) c2 :: iN .i64 0 :: .bool false :: .bool false :: pt d.q :: .bool false :: .bool false :: iN .i64 k :: .bool true :: u36 90 :: u36 91 :: .tuple #[.string rs, iN .i64 0] :: pt d.q :: iN .i64 k :: iN .u8 k :: iN .u8 (97 + k) :: .slice (some ⟨q49, 0, none⟩) 1 1 :: .string (nmK k) :: .tuple #[.string rs, iN .i64 0] :: .string rs :: iN .i64 0 :: iN .i64 0 :: .bool false :: .bool false :: un :: un :: un :: un :: .bool false :: .bool false :: .string rs :: iN .i64 rs.size :: iN .i64 k :: .pointer (some ⟨q8, k, none⟩) :: .string (sy.getD k { data := #[] }) :: iN .i64 ((sy.getD k { data := #[] }).size) :: .bool false :: .bool false :: .bool false :: .string rs :: iN .i64 rs.size :: iN .i64 k :: .pointer (some ⟨q9, k, none⟩) :: .string (pu.getD k { data := #[] }) :: iN .i64 ((pu.getD k { data := #[] }).size) :: .bool false :: .bool false :: .bool false :: .string rs :: iN .i64 k :: .pointer (some ⟨q9, k, none⟩) :: .string (pu.getD k { data := #[] }) :: .string rs :: iN .i64 rs.size :: .string ((pu.getD k { data := #[] }).extract 0 rs.size) :: .bool false :: .bool false :: .bool false :: iN .i64 0 :: .bool true :: .bool true :: pt d.q :: iN .i64 k :: iN .u8 k :: iN .u8 (97 + k) :: .slice (some ⟨q54, 0, none⟩) 1 1 :: .string (nmK k) :: iN .i64 rs.size :: .string rs :: iN .i64 rs.size :: .bool false :: .bool false :: .bool false :: List.replicate 1 un).toArray, []⟩) (by kernel_rfl) ?_
        refine wl_region ?_
        refine wl_val (iN .i64 k) (by kernel_rfl) (by kernel_rfl) ?_
        refine wl_val (iN .i64 (k + 1)) (by kernel_rfl) (run_add (k := .i64) (a := k) (b := 1) (by kernel_rfl) (by kernel_rfl) (by first | omega | (simp only [top]; omega))) ?_
        refine wl_val (iN .i64 (k + 1)) (by kernel_rfl) (by kernel_rfl) ?_
        refine wl_nil ?_
        exact then_I ⟨fun ii => (([(6, u36 6), (15, .string rs), (16, iN .i64 0), (88, iN .i64 k), (89, .bool true), (90, iN .i64 k), (91, iN .i64 (k + 1)), (92, .tuple #[.string rs, iN .i64 0]), (93, .pointer (some ⟨d.q, 0, none⟩)), (94, iN .i64 k), (95, iN .u8 k), (96, iN .u8 (97 + k)), (97, .slice (some ⟨q49, 0, none⟩) 1 1), (98, .string (nmK k)), (99, .tuple #[.string rs, iN .i64 0]), (100, .string rs), (101, iN .i64 0), (102, iN .i64 0), (103, .bool false), (104, .bool false), (105, undef), (106, undef), (107, undef), (108, undef), (109, .bool false), (110, .bool false), (111, .string rs), (112, iN .i64 rs.size), (113, iN .i64 k), (114, .pointer (some ⟨q8, k, none⟩)), (115, .string (sy.getD k { data := #[] })), (116, iN .i64 ((sy.getD k { data := #[] }).size)), (117, .bool false), (118, .bool false), (119, .bool false), (120, .string rs), (121, iN .i64 rs.size), (122, iN .i64 k), (123, .pointer (some ⟨q9, k, none⟩)), (124, .string (pu.getD k { data := #[] })), (125, iN .i64 ((pu.getD k { data := #[] }).size)), (126, .bool false), (127, .bool false), (128, .bool false), (129, .string rs), (130, iN .i64 k), (131, .pointer (some ⟨q9, k, none⟩)), (132, .string (pu.getD k { data := #[] })), (133, .string rs), (134, iN .i64 rs.size), (135, .string ((pu.getD k { data := #[] }).extract 0 rs.size)), (136, .bool false), (137, .bool false), (138, .bool false), (139, iN .i64 0), (140, .bool true), (141, .bool true), (142, .pointer (some ⟨d.q, 0, none⟩)), (143, iN .i64 k), (144, iN .u8 k), (145, iN .u8 (97 + k)), (146, .slice (some ⟨q54, 0, none⟩) 1 1), (147, .string (nmK k)), (148, iN .i64 rs.size), (149, .string rs), (150, iN .i64 rs.size), (151, .bool false), (152, .bool false), (153, .bool false)] : List (Nat × Value)).find? (·.1 == ii)).elim undef (·.2), by kernel_rfl, (hcl40 [(q9, 51, stc pu), (q8, 51, stc sy)] _ (h58.sub (List.Sublist.cons _ (List.Sublist.cons _ (List.Sublist.refl _)))))⟩
    · rintro _ w59 ⟨u36, rfl, hL2⟩
      have hL2 : DH _ _ d (wakeD D (ks.take 5)) _ _ := hL2
      obtain ⟨z60, X61, hcl62, hbe63, h64⟩ := DH.front hL2
      have h65 : HA z60 ((q9, 51, stc pu) :: (q8, 51, stc sy) :: X61) w59 := h64
      refine wp_seq ?_
      refine wp_seq ?_
      refine wl_region ?_
      refine wl_val (iN .i64 3) (by kernel_rfl) (by kernel_rfl) ?_
      refine wl_val (.bool false) (by kernel_rfl) (run_lss (k := .i64) (a := 3) (b := 3) (by kernel_rfl) (by kernel_rfl) false (by decide)) ?_
      refine wl_nil ?_
      refine then_at (F := ⟨(.slice o ss.length c :: iN .u8 n :: .slice o2 ks.length c2 :: un :: un :: un :: u36 6 :: pt d.q :: pt q8 :: pt q9 :: u19 10 :: u19 11 :: u19 12 :: u19 13 :: iN .i64 3 :: u36 15 :: u36 16 :: pt d.q :: pt d.q :: .bool false :: .bool false :: pt d.q :: iN .u8 n :: iN .i64 n :: iN .i64 (1 + n) :: iN .i64 0 :: .bool false :: .bool false :: u19 28 :: u19 29 :: u19 30 :: u19 31 :: u19 32 :: u19 33 :: u19 34 :: u19 35 :: u19 36 :: u19 37 :: u19 38 :: u19 39 :: u19 40 :: u19 41 :: u19 42 :: u19 43 :: u19 44 :: u19 45 :: u19 46 :: u19 47 :: u19 48 :: u19 49 :: u19 50 :: u19 51 :: u19 52 :: u19 53 :: u19 54 :: u19 55 :: u19 56 :: u19 57 :: u19 58 :: u19 59 :: u19 60 :: u19 61 :: u19 62 :: u19 63 :: u19 64 :: u19 65 :: u19 66 :: u19 67 :: u19 68 :: u19 69 :: u19 70 :: u19 71 :: u19 72 :: u19 73 :: u19 74 :: u19 75 :: pt d.q :: .slice o2 ks.length c2 :: .slice o2 ks.length c2 :: iN .i64 ks.length :: iN .i64 (min ks.length 5) :: .slice o2 (min ks.length 5) c2 :: iN .i64 0 :: .bool false :: .bool false :: pt d.q :: .bool false :: .bool false :: iN .i64 3 :: .bool false :: u36 90 :: u36 91 :: u36 92 :: u36 93 :: u36 94 :: u36 95 :: u36 96 :: u36 97 :: u36 98 :: u36 99 :: u36 100 :: u36 101 :: u36 102 :: u36 103 :: u36 104 :: u36 105 :: u36 106 :: u36 107 :: u36 108 :: u36 109 :: u36 110 :: u36 111 :: u36 112 :: u36 113 :: u36 114 :: u36 115 :: u36 116 :: u36 117 :: u36 118 :: u36 119 :: u36 120 :: u36 121 :: u36 122 :: u36 123 :: u36 124 :: u36 125 :: u36 126 :: u36 127 :: u36 128 :: u36 129 :: u36 130 :: u36 131 :: u36 132 :: u36 133 :: u36 134 :: u36 135 :: u36 136 :: u36 137 :: u36 138 :: u36 139 :: u36 140 :: u36 141 :: u36 142 :: u36 143 :: u36 144 :: u36 145 :: u36 146 :: u36 147 :: u36 148 :: u36 149 :: u36 150 :: u36 151 :: u36 152 :: u36 153 :: List.replicate 1 un).toArray, []⟩) (by kernel_rfl) ?_
      refine wp_cond_false (by kernel_rfl) ?_
      refine wp_exit ?_
      repeat first | refine then_exit ?_ | refine block_exit ?_ | refine block_exit_ne (by decide) ?_
      refine then_at (F := ⟨(.slice o ss.length c :: iN .u8 n :: .slice o2 ks.length c2 :: un :: un :: un :: u36 6 :: pt d.q :: pt q8 :: pt q9 :: u19 10 :: u19 11 :: u19 12 :: u19 13 :: iN .i64 3 :: u36 15 :: u36 16 :: pt d.q :: pt d.q :: .bool false :: .bool false :: pt d.q :: iN .u8 n :: iN .i64 n :: iN .i64 (1 + n) :: iN .i64 0 :: .bool false :: .bool false :: u19 28 :: u19 29 :: u19 30 :: u19 31 :: u19 32 :: u19 33 :: u19 34 :: u19 35 :: u19 36 :: u19 37 :: u19 38 :: u19 39 :: u19 40 :: u19 41 :: u19 42 :: u19 43 :: u19 44 :: u19 45 :: u19 46 :: u19 47 :: u19 48 :: u19 49 :: u19 50 :: u19 51 :: u19 52 :: u19 53 :: u19 54 :: u19 55 :: u19 56 :: u19 57 :: u19 58 :: u19 59 :: u19 60 :: u19 61 :: u19 62 :: u19 63 :: u19 64 :: u19 65 :: u19 66 :: u19 67 :: u19 68 :: u19 69 :: u19 70 :: u19 71 :: u19 72 :: u19 73 :: u19 74 :: u19 75 :: pt d.q :: .slice o2 ks.length c2 :: .slice o2 ks.length c2 :: iN .i64 ks.length :: iN .i64 (min ks.length 5) :: .slice o2 (min ks.length 5) c2 :: iN .i64 0 :: .bool false :: .bool false :: pt d.q :: .bool false :: .bool false :: iN .i64 3 :: .bool false :: u36 90 :: u36 91 :: u36 92 :: u36 93 :: u36 94 :: u36 95 :: u36 96 :: u36 97 :: u36 98 :: u36 99 :: u36 100 :: u36 101 :: u36 102 :: u36 103 :: u36 104 :: u36 105 :: u36 106 :: u36 107 :: u36 108 :: u36 109 :: u36 110 :: u36 111 :: u36 112 :: u36 113 :: u36 114 :: u36 115 :: u36 116 :: u36 117 :: u36 118 :: u36 119 :: u36 120 :: u36 121 :: u36 122 :: u36 123 :: u36 124 :: u36 125 :: u36 126 :: u36 127 :: u36 128 :: u36 129 :: u36 130 :: u36 131 :: u36 132 :: u36 133 :: u36 134 :: u36 135 :: u36 136 :: u36 137 :: u36 138 :: u36 139 :: u36 140 :: u36 141 :: u36 142 :: u36 143 :: u36 144 :: u36 145 :: u36 146 :: u36 147 :: u36 148 :: u36 149 :: u36 150 :: u36 151 :: u36 152 :: u36 153 :: List.replicate 1 un).toArray, []⟩) (by kernel_rfl) ?_
      refine wp_seq ?_
      refine wl_region ?_
      refine wl_call (v := .bool true) h65 (by kernel_rfl) enter26 #[] (by kernel_rfl) (works_any w59) ?_
      intro w66 h67
      refine wl_val (.bool true) (by kernel_rfl) (by kernel_rfl) ?_
      refine wl_nil ?_
      refine then_at (F := ⟨(.slice o ss.length c :: iN .u8 n :: .slice o2 ks.length c2 :: un :: un :: un :: .bool true :: pt d.q :: pt q8 :: pt q9 :: u19 10 :: u19 11 :: u19 12 :: u19 13 :: iN .i64 3 :: u36 15 :: u36 16 :: pt d.q :: pt d.q :: .bool false :: .bool false :: pt d.q :: iN .u8 n :: iN .i64 n :: iN .i64 (1 + n) :: iN .i64 0 :: .bool false :: .bool false :: u19 28 :: u19 29 :: u19 30 :: u19 31 :: u19 32 :: u19 33 :: u19 34 :: u19 35 :: u19 36 :: u19 37 :: u19 38 :: u19 39 :: u19 40 :: u19 41 :: u19 42 :: u19 43 :: u19 44 :: u19 45 :: u19 46 :: u19 47 :: u19 48 :: u19 49 :: u19 50 :: u19 51 :: u19 52 :: u19 53 :: u19 54 :: u19 55 :: u19 56 :: u19 57 :: u19 58 :: u19 59 :: u19 60 :: u19 61 :: u19 62 :: u19 63 :: u19 64 :: u19 65 :: u19 66 :: u19 67 :: u19 68 :: u19 69 :: u19 70 :: u19 71 :: u19 72 :: u19 73 :: u19 74 :: u19 75 :: pt d.q :: .slice o2 ks.length c2 :: .slice o2 ks.length c2 :: iN .i64 ks.length :: iN .i64 (min ks.length 5) :: .slice o2 (min ks.length 5) c2 :: iN .i64 0 :: .bool false :: .bool false :: pt d.q :: .bool false :: .bool false :: iN .i64 3 :: .bool false :: u36 90 :: u36 91 :: u36 92 :: u36 93 :: u36 94 :: u36 95 :: u36 96 :: u36 97 :: u36 98 :: u36 99 :: u36 100 :: u36 101 :: u36 102 :: u36 103 :: u36 104 :: u36 105 :: u36 106 :: u36 107 :: u36 108 :: u36 109 :: u36 110 :: u36 111 :: u36 112 :: u36 113 :: u36 114 :: u36 115 :: u36 116 :: u36 117 :: u36 118 :: u36 119 :: u36 120 :: u36 121 :: u36 122 :: u36 123 :: u36 124 :: u36 125 :: u36 126 :: u36 127 :: u36 128 :: u36 129 :: u36 130 :: u36 131 :: u36 132 :: u36 133 :: u36 134 :: u36 135 :: u36 136 :: u36 137 :: u36 138 :: u36 139 :: u36 140 :: u36 141 :: u36 142 :: u36 143 :: u36 144 :: u36 145 :: u36 146 :: u36 147 :: u36 148 :: u36 149 :: u36 150 :: u36 151 :: u36 152 :: u36 153 :: .bool true :: List.replicate 0 un).toArray, []⟩) (by kernel_rfl) ?_
      refine wp_ret ?_
      repeat first | refine then_ret ?_ | refine block_ret ?_
      exact bodyPost_ret (v := .bool true) (by kernel_rfl) rfl ⟨rfl, hbe63 _ _ h67⟩
  · refine wp_block ?_
    refine wp_count (fun i AQ w' => ∃ u68 : Nat → Value, AQ = ⟨(.slice o ss.length c :: iN .u8 n :: .slice o2 ks.length c2 :: un :: un :: un :: .bool false :: pt d.q :: pt q8 :: pt q9 :: iN .i64 i :: u68 11 :: u68 12 :: u68 13 :: un :: un :: un :: pt d.q :: pt d.q :: .bool false :: .bool false :: pt d.q :: iN .u8 n :: iN .i64 n :: iN .i64 (1 + n) :: iN .i64 0 :: .bool false :: .bool false :: u68 28 :: u68 29 :: u68 30 :: u68 31 :: u68 32 :: u68 33 :: u68 34 :: u68 35 :: u68 36 :: u68 37 :: u68 38 :: u68 39 :: u68 40 :: u68 41 :: u68 42 :: u68 43 :: u68 44 :: u68 45 :: u68 46 :: u68 47 :: u68 48 :: u68 49 :: u68 50 :: u68 51 :: u68 52 :: u68 53 :: u68 54 :: u68 55 :: u68 56 :: u68 57 :: u68 58 :: u68 59 :: u68 60 :: u68 61 :: u68 62 :: u68 63 :: u68 64 :: u68 65 :: u68 66 :: u68 67 :: u68 68 :: u68 69 :: u68 70 :: u68 71 :: u68 72 :: u68 73 :: u68 74 :: u68 75 :: List.replicate 79 un).toArray, []⟩ ∧ ∃ D sy pu, KR D sy pu ∧ DB D (40 * i) (2 * i) ∧ D.free + used D.fs = 1048576 ∧ (∀ j, j < 3 → (pu.getD j { data := #[] }).size ≤ 40 * i) ∧ DH w [] d D [(q9, 51, stc pu), (q8, 51, stc sy)] w') (min ss.length 40) ?_ ?_ ?_
    · exact ⟨fun ii => (([(11, undef), (12, undef), (13, undef), (28, undef), (29, undef), (30, undef), (31, undef), (32, undef), (33, undef), (34, undef), (35, undef), (36, undef), (37, undef), (38, undef), (39, undef), (40, undef), (41, undef), (42, undef), (43, undef), (44, undef), (45, undef), (46, undef), (47, undef), (48, undef), (49, undef), (50, undef), (51, undef), (52, undef), (53, undef), (54, undef), (55, undef), (56, undef), (57, undef), (58, undef), (59, undef), (60, undef), (61, undef), (62, undef), (63, undef), (64, undef), (65, undef), (66, undef), (67, undef), (68, undef), (69, undef), (70, undef), (71, undef), (72, undef), (73, undef), (74, undef), (75, undef)] : List (Nat × Value)).find? (·.1 == ii)).elim undef (·.2), by kernel_rfl, ⟨[], 1048576, 1 + n, false, []⟩, _, _, KR.start rfl, ⟨by simp [used], by show 1 + n ≤ _; omega, by simp [used], Nat.le_refl _, fun _ h => (by cases h), Nat.le_refl _, List.nodup_nil⟩, rfl, fun j hj => by (match j, hj with | 0, _ => exact Nat.zero_le _ | 1, _ => exact Nat.zero_le _ | 2, _ => exact Nat.zero_le _), (hcl11 [(q9, 51, stc ([{ data := #[] }, { data := #[] }, { data := #[] }])), (q8, 51, stc ([{ data := #[] }, { data := #[] }, { data := #[] }]))] _ (h18))⟩
    · rintro i hi _ w69 ⟨u68, rfl, D, sy, pu, hkr, hdb, hfu, hpl, hLp⟩
      have hLp : DH _ _ d (D) _ _ := hLp
      obtain ⟨z70, X71, hcl72, hbe73, h74⟩ := DH.front hLp
      have h75 : HA z70 ((q9, 51, stc pu) :: (q8, 51, stc sy) :: X71) w69 := h74
      obtain ⟨sa, hsa, hsc⟩ := hS i (by omega)
      obtain ⟨s, hs⟩ : ∃ s, s = (ss.getD i { data := #[] }).extract 0 (min (ss.getD i { data := #[] }).size 40) := ⟨_, rfl⟩
      have hsl : s.size ≤ 40 := by rw [hs, extract_size _ _ (by omega)]; omega
      have hk3 : s.size % 3 < 3 := Nat.mod_lt _ (by decide)
      refine wp_seq ?_
      refine wp_seq ?_
      refine wl_region ?_
      refine wl_val (iN .i64 i) (by kernel_rfl) (by kernel_rfl) ?_
      refine wl_val (.slice o ss.length c) (by kernel_rfl) (by kernel_rfl) ?_
      refine wl_val (iN .i64 ss.length) (by kernel_rfl) (by kernel_rfl) ?_
      refine wl_val (.bool true) (by kernel_rfl) (run_lss (k := .i64) (a := i) (b := ss.length) (by kernel_rfl) (by kernel_rfl) true (decide_eq_true (by omega))) ?_
      refine wl_val (.bool true) (by kernel_rfl) (by kernel_rfl) ?_
      refine wl_val (iN .i64 i) (by kernel_rfl) (by kernel_rfl) ?_
      refine wl_val (.bool true) (by kernel_rfl) (run_lss (k := .i64) (a := i) (b := 40) (by kernel_rfl) (by kernel_rfl) true (decide_eq_true (by omega))) ?_
      refine wl_val (.bool true) (by kernel_rfl) (by kernel_rfl) ?_
      refine wl_nil ?_
      refine then_at (F := ⟨(.slice o ss.length c :: iN .u8 n :: .slice o2 ks.length c2 :: un :: un :: un :: .bool false :: pt d.q :: pt q8 :: pt q9 :: iN .i64 i :: u68 11 :: u68 12 :: u68 13 :: un :: un :: un :: pt d.q :: pt d.q :: .bool false :: .bool false :: pt d.q :: iN .u8 n :: iN .i64 n :: iN .i64 (1 + n) :: iN .i64 0 :: .bool false :: .bool false :: iN .i64 i :: .slice o ss.length c :: iN .i64 ss.length :: .bool true :: .bool true :: iN .i64 i :: .bool true :: .bool true :: u68 36 :: u68 37 :: u68 38 :: u68 39 :: u68 40 :: u68 41 :: u68 42 :: u68 43 :: u68 44 :: u68 45 :: u68 46 :: u68 47 :: u68 48 :: u68 49 :: u68 50 :: u68 51 :: u68 52 :: u68 53 :: u68 54 :: u68 55 :: u68 56 :: u68 57 :: u68 58 :: u68 59 :: u68 60 :: u68 61 :: u68 62 :: u68 63 :: u68 64 :: u68 65 :: u68 66 :: u68 67 :: u68 68 :: u68 69 :: u68 70 :: u68 71 :: u68 72 :: u68 73 :: u68 74 :: u68 75 :: List.replicate 79 un).toArray, []⟩) (by kernel_rfl) ?_
      refine wp_cond_true (by kernel_rfl) ?_
      refine wp_skip ?_
      refine then_at (F := ⟨(.slice o ss.length c :: iN .u8 n :: .slice o2 ks.length c2 :: un :: un :: un :: .bool false :: pt d.q :: pt q8 :: pt q9 :: iN .i64 i :: u68 11 :: u68 12 :: u68 13 :: un :: un :: un :: pt d.q :: pt d.q :: .bool false :: .bool false :: pt d.q :: iN .u8 n :: iN .i64 n :: iN .i64 (1 + n) :: iN .i64 0 :: .bool false :: .bool false :: iN .i64 i :: .slice o ss.length c :: iN .i64 ss.length :: .bool true :: .bool true :: iN .i64 i :: .bool true :: .bool true :: u68 36 :: u68 37 :: u68 38 :: u68 39 :: u68 40 :: u68 41 :: u68 42 :: u68 43 :: u68 44 :: u68 45 :: u68 46 :: u68 47 :: u68 48 :: u68 49 :: u68 50 :: u68 51 :: u68 52 :: u68 53 :: u68 54 :: u68 55 :: u68 56 :: u68 57 :: u68 58 :: u68 59 :: u68 60 :: u68 61 :: u68 62 :: u68 63 :: u68 64 :: u68 65 :: u68 66 :: u68 67 :: u68 68 :: u68 69 :: u68 70 :: u68 71 :: u68 72 :: u68 73 :: u68 74 :: u68 75 :: List.replicate 79 un).toArray, []⟩) (by kernel_rfl) ?_
      refine wp_seq ?_
      refine wp_block ?_
      refine wp_seq ?_
      refine wl_region ?_
      refine wl_val (.slice o ss.length c) (by kernel_rfl) (by kernel_rfl) ?_
      refine wl_val (iN .i64 i) (by kernel_rfl) (by kernel_rfl) ?_
      refine wl_val (.pointer (some (sa.add i))) (by kernel_rfl) (run_addr_s (b := sa) (n := ss.length) (c := c) (i := i) hsa (by kernel_rfl) (by kernel_rfl) (by omega)) ?_
      refine wl_val (.string (ss.getD i { data := #[] })) (by kernel_rfl) (run_load_at (b := sa.add i) (fun w => Try.isAgg9 w) (by kernel_rfl) (cell_old (hbe73 _ _ h75) hsc)) ?_
      refine wl_call (v := .string s) h75 (by kernel_rfl) enter9 #[.string (ss.getD i { data := #[] }), iN .i64 40] (by kernel_rfl) (by rw [hs]; exact cut_any _ 40 (by have := hSl i (by omega); omega) w69) ?_
      intro w76 h77
      refine wl_val (.string s) (by kernel_rfl) (by kernel_rfl) ?_
      refine wl_nil ?_
      refine then_at (F := ⟨(.slice o ss.length c :: iN .u8 n :: .slice o2 ks.length c2 :: un :: un :: un :: .bool false :: pt d.q :: pt q8 :: pt q9 :: iN .i64 i :: .string s :: u68 12 :: u68 13 :: un :: un :: un :: pt d.q :: pt d.q :: .bool false :: .bool false :: pt d.q :: iN .u8 n :: iN .i64 n :: iN .i64 (1 + n) :: iN .i64 0 :: .bool false :: .bool false :: iN .i64 i :: .slice o ss.length c :: iN .i64 ss.length :: .bool true :: .bool true :: iN .i64 i :: .bool true :: .bool true :: u68 36 :: u68 37 :: .slice o ss.length c :: iN .i64 i :: .pointer (some (sa.add i)) :: .string (ss.getD i { data := #[] }) :: .string s :: u68 43 :: u68 44 :: u68 45 :: u68 46 :: u68 47 :: u68 48 :: u68 49 :: u68 50 :: u68 51 :: u68 52 :: u68 53 :: u68 54 :: u68 55 :: u68 56 :: u68 57 :: u68 58 :: u68 59 :: u68 60 :: u68 61 :: u68 62 :: u68 63 :: u68 64 :: u68 65 :: u68 66 :: u68 67 :: u68 68 :: u68 69 :: u68 70 :: u68 71 :: u68 72 :: u68 73 :: u68 74 :: u68 75 :: List.replicate 79 un).toArray, []⟩) (by kernel_rfl) ?_
      refine wp_seq ?_
      refine wl_region ?_
      refine wl_val (.string s) (by kernel_rfl) (by kernel_rfl) ?_
      refine wl_val (iN .i64 s.size) (by kernel_rfl) (run_len (s := s) (by kernel_rfl)) ?_
      refine wl_val (iN .i64 (s.size % 3)) (by kernel_rfl) (run_rem (k := .i64) (a := s.size) (b := 3) (by kernel_rfl) (by kernel_rfl) (by decide)) ?_
      refine wl_val (iN .i64 (s.size % 3)) (by kernel_rfl) (by kernel_rfl) ?_
      refine wl_nil ?_
      refine then_at (F := ⟨(.slice o ss.length c :: iN .u8 n :: .slice o2 ks.length c2 :: un :: un :: un :: .bool false :: pt d.q :: pt q8 :: pt q9 :: iN .i64 i :: .string s :: iN .i64 (s.size % 3) :: u68 13 :: un :: un :: un :: pt d.q :: pt d.q :: .bool false :: .bool false :: pt d.q :: iN .u8 n :: iN .i64 n :: iN .i64 (1 + n) :: iN .i64 0 :: .bool false :: .bool false :: iN .i64 i :: .slice o ss.length c :: iN .i64 ss.length :: .bool true :: .bool true :: iN .i64 i :: .bool true :: .bool true :: u68 36 :: u68 37 :: .slice o ss.length c :: iN .i64 i :: .pointer (some (sa.add i)) :: .string (ss.getD i { data := #[] }) :: .string s :: .string s :: iN .i64 s.size :: iN .i64 (s.size % 3) :: u68 46 :: u68 47 :: u68 48 :: u68 49 :: u68 50 :: u68 51 :: u68 52 :: u68 53 :: u68 54 :: u68 55 :: u68 56 :: u68 57 :: u68 58 :: u68 59 :: u68 60 :: u68 61 :: u68 62 :: u68 63 :: u68 64 :: u68 65 :: u68 66 :: u68 67 :: u68 68 :: u68 69 :: u68 70 :: u68 71 :: u68 72 :: u68 73 :: u68 74 :: u68 75 :: List.replicate 79 un).toArray, []⟩) (by kernel_rfl) ?_
      refine wp_seq ?_
      refine wl_region ?_
      refine wl_val (iN .i64 (s.size % 3)) (by kernel_rfl) (by kernel_rfl) ?_
      refine wl_val (iN .u8 (s.size % 3)) (by kernel_rfl) (run_conv .u8 Try.underlying3 Try.underlying5 (by kernel_rfl) (by simp only [top]; omega)) ?_
      refine wl_val (iN .u8 (97 + (s.size % 3))) (by kernel_rfl) (run_add (k := .u8) (a := 97) (b := s.size % 3) (by kernel_rfl) (by kernel_rfl) (by first | omega | (simp only [top]; omega))) ?_
      refine wl_mks (n := 1) (m := 1) (c := bc [UInt8.ofNat (97 + (s.size % 3))]) h77 5 (by kernel_rfl) (run_build1 (u := UInt8.ofNat (97 + (s.size % 3))) ((by kernel_rfl : _ = iN .u8 (97 + (s.size % 3))).trans (by8_of (by omega)))) ?_
      intro q78 w79 (h80 : HA z70 ((q78, 5, bc [UInt8.ofNat (97 + (s.size % 3))]) :: (q9, 51, stc pu) :: (q8, 51, stc sy) :: X71) w79)
      refine wl_val (.string (nmK (s.size % 3))) (by kernel_rfl) (((run_textg (m := 1) (c := 1) (l := [UInt8.ofNat (97 + (s.size % 3))]) (by kernel_rfl) (h80.get 0 rfl) (by simp)).trans (by rfl))) ?_
      refine wl_val (.string (nmK (s.size % 3))) (by kernel_rfl) (by kernel_rfl) ?_
      refine wl_nil ?_
      refine then_at (F := ⟨(.slice o ss.length c :: iN .u8 n :: .slice o2 ks.length c2 :: un :: un :: un :: .bool false :: pt d.q :: pt q8 :: pt q9 :: iN .i64 i :: .string s :: iN .i64 (s.size % 3) :: .string (nmK (s.size % 3)) :: un :: un :: un :: pt d.q :: pt d.q :: .bool false :: .bool false :: pt d.q :: iN .u8 n :: iN .i64 n :: iN .i64 (1 + n) :: iN .i64 0 :: .bool false :: .bool false :: iN .i64 i :: .slice o ss.length c :: iN .i64 ss.length :: .bool true :: .bool true :: iN .i64 i :: .bool true :: .bool true :: u68 36 :: u68 37 :: .slice o ss.length c :: iN .i64 i :: .pointer (some (sa.add i)) :: .string (ss.getD i { data := #[] }) :: .string s :: .string s :: iN .i64 s.size :: iN .i64 (s.size % 3) :: iN .i64 (s.size % 3) :: iN .u8 (s.size % 3) :: iN .u8 (97 + (s.size % 3)) :: .slice (some ⟨q78, 0, none⟩) 1 1 :: .string (nmK (s.size % 3)) :: u68 51 :: u68 52 :: u68 53 :: u68 54 :: u68 55 :: u68 56 :: u68 57 :: u68 58 :: u68 59 :: u68 60 :: u68 61 :: u68 62 :: u68 63 :: u68 64 :: u68 65 :: u68 66 :: u68 67 :: u68 68 :: u68 69 :: u68 70 :: u68 71 :: u68 72 :: u68 73 :: u68 74 :: u68 75 :: List.replicate 79 un).toArray, []⟩) (by kernel_rfl) ?_
      refine wp_seq ?_
      refine wp_seq ?_
      have hap := app_is (D := D) (k := s.size % 3) (s := s) (by have := hdb.us; omega)
      by_cases hdn : (spendD D).down = true
      · rw [if_pos hdn] at hap
        have hdb2 := Append_DB hdb (nmK (s.size % 3)) s
        rw [hap] at hdb2
        refine wl_region ?_
        refine wl_val (.pointer (some ⟨d.q, 0, none⟩)) (by kernel_rfl) (by kernel_rfl) ?_
        refine wl_val (.string (nmK (s.size % 3))) (by kernel_rfl) (by kernel_rfl) ?_
        refine wl_val (.string s) (by kernel_rfl) (by kernel_rfl) ?_
        refine wl_callx (by kernel_rfl) enter10 #[.pointer (some ⟨d.q, 0, none⟩), .string (nmK (s.size % 3)), .string s] (by kernel_rfl) (by have h := Append_any (hcl72 [(q78, 5, bc [UInt8.ofNat (97 + (s.size % 3))]), (q9, 51, stc pu), (q8, 51, stc sy)] _ h80) (nmK (s.size % 3)) s hdb (by omega) (by omega); rw [hap] at h; exact h) ?_
        rintro _ w81 ⟨rfl, hDp⟩
        refine ⟨_, rfl, ?_⟩
        have hkr2 : KR (spendD D) sy pu := hkr.fs rfl
        have hDp : DH _ _ d (spendD D) _ _ := hDp
        obtain ⟨z82, X83, hcl84, hbe85, h86⟩ := DH.front hDp
        have h87 : HA z82 ((q78, 5, bc [UInt8.ofNat (97 + (s.size % 3))]) :: (q9, 51, stc pu) :: (q8, 51, stc sy) :: X83) w81 := h86
        refine wl_val (.bool true) (by kernel_rfl) (run_nei (k := .i64) (a := 16) (b := 0) (by kernel_rfl) (by kernel_rfl) true (by decide)) ?_
        refine wl_nil ?_
        refine then_at (F := ⟨(.slice o ss.length c :: iN .u8 n :: .slice o2 ks.length c2 :: un :: un :: un :: .bool false :: pt d.q :: pt q8 :: pt q9 :: iN .i64 i :: .string s :: iN .i64 (s.size % 3) :: .string (nmK (s.size % 3)) :: un :: un :: un :: pt d.q :: pt d.q :: .bool false :: .bool false :: pt d.q :: iN .u8 n :: iN .i64 n :: iN .i64 (1 + n) :: iN .i64 0 :: .bool false :: .bool false :: iN .i64 i :: .slice o ss.length c :: iN .i64 ss.length :: .bool true :: .bool true :: iN .i64 i :: .bool true :: .bool true :: u68 36 :: u68 37 :: .slice o ss.length c :: iN .i64 i :: .pointer (some (sa.add i)) :: .string (ss.getD i { data := #[] }) :: .string s :: .string s :: iN .i64 s.size :: iN .i64 (s.size % 3) :: iN .i64 (s.size % 3) :: iN .u8 (s.size % 3) :: iN .u8 (97 + (s.size % 3)) :: .slice (some ⟨q78, 0, none⟩) 1 1 :: .string (nmK (s.size % 3)) :: pt d.q :: .string (nmK (s.size % 3)) :: .string s :: iN .i64 16 :: .bool true :: u68 56 :: u68 57 :: u68 58 :: u68 59 :: u68 60 :: u68 61 :: u68 62 :: u68 63 :: u68 64 :: u68 65 :: u68 66 :: u68 67 :: u68 68 :: u68 69 :: u68 70 :: u68 71 :: u68 72 :: u68 73 :: u68 74 :: u68 75 :: List.replicate 79 un).toArray, []⟩) (by kernel_rfl) ?_
        refine wp_cond_true (by kernel_rfl) ?_
        refine wp_exit ?_
        repeat first | refine then_exit ?_ | refine block_exit ?_ | refine block_exit_ne (by decide) ?_
        exact ⟨rfl, fun ii => (([(10, iN .i64 i), (11, .string s), (12, iN .i64 (s.size % 3)), (13, .string (nmK (s.size % 3))), (28, iN .i64 i), (29, .slice o ss.length c), (30, iN .i64 ss.length), (31, .bool true), (32, .bool true), (33, iN .i64 i), (34, .bool true), (35, .bool true), (36, u68 36), (37, u68 37), (38, .slice o ss.length c), (39, iN .i64 i), (40, .pointer (some (sa.add i))), (41, .string (ss.getD i { data := #[] })), (42, .string s), (43, .string s), (44, iN .i64 s.size), (45, iN .i64 (s.size % 3)), (46, iN .i64 (s.size % 3)), (47, iN .u8 (s.size % 3)), (48, iN .u8 (97 + (s.size % 3))), (49, .slice (some ⟨q78, 0, none⟩) 1 1), (50, .string (nmK (s.size % 3))), (51, .pointer (some ⟨d.q, 0, none⟩)), (52, .string (nmK (s.size % 3))), (53, .string s), (54, iN .i64 16), (55, .bool true), (56, u68 56), (57, u68 57), (58, u68 58), (59, u68 59), (60, u68 60), (61, u68 61), (62, u68 62), (63, u68 63), (64, u68 64), (65, u68 65), (66, u68 66), (67, u68 67), (68, u68 68), (69, u68 69), (70, u68 70), (71, u68 71), (72, u68 72), (73, u68 73), (74, u68 74), (75, u68 75)] : List (Nat × Value)).find? (·.1 == ii)).elim undef (·.2), by kernel_rfl, _, _, _, hkr2, hdb2.mono (by omega) (by omega), (hcl84 [(q9, 51, stc pu), (q8, 51, stc sy)] _ (h87.sub (List.Sublist.cons _ (List.Sublist.refl _))))⟩
      · rw [if_neg hdn] at hap
        have hdb2 := Append_DB hdb (nmK (s.size % 3)) s
        rw [hap] at hdb2
        refine wl_region ?_
        refine wl_val (.pointer (some ⟨d.q, 0, none⟩)) (by kernel_rfl) (by kernel_rfl) ?_
        refine wl_val (.string (nmK (s.size % 3))) (by kernel_rfl) (by kernel_rfl) ?_
        refine wl_val (.string s) (by kernel_rfl) (by kernel_rfl) ?_
        refine wl_callx (by kernel_rfl) enter10 #[.pointer (some ⟨d.q, 0, none⟩), .string (nmK (s.size % 3)), .string s] (by kernel_rfl) (by have h := Append_any (hcl72 [(q78, 5, bc [UInt8.ofNat (97 + (s.size % 3))]), (q9, 51, stc pu), (q8, 51, stc sy)] _ h80) (nmK (s.size % 3)) s hdb (by omega) (by omega); rw [hap] at h; exact h) ?_
        rintro _ w88 ⟨rfl, hDp⟩
        refine ⟨_, rfl, ?_⟩
        obtain ⟨D2, hD2⟩ : ∃ D2 : DS, D2 = { spendD D with fs := updF (mkF D.fs (nmK (s.size % 3))) (nmK (s.size % 3)) (fun x => { x with da := x.da ++ bl s }), free := D.free - s.size, sizes := D.sizes ++ [s.size] } := ⟨_, rfl⟩
        have hDp : DH w [] d D2 [(q78, 5, bc [UInt8.ofNat (97 + (s.size % 3))]), (q9, 51, stc pu), (q8, 51, stc sy)] w88 := by rw [hD2]; exact hDp
        have hdb2 : DB D2 (40 * i + s.size) (2 * i + 1) := by rw [hD2]; exact hdb2
        have hkr2 : KR D2 sy (pu.set (s.size % 3) (pu.getD (s.size % 3) { data := #[] } ++ s)) := hkr.app hk3 (by rw [hD2])
        have hfu2 : D2.free + used D2.fs = 1048576 := by
          rw [hD2]
          show D.free - s.size + used (updF (mkF D.fs (nmK (s.size % 3))) (nmK (s.size % 3)) (fun x => { x with da := x.da ++ bl s })) = 1048576
          rw [used_app (mkF_nodup hdb.nd _) (mkF_has _ _), used_mkF, bl_len]
          have := hdb.us
          omega
        have hpl2 : ∀ j, j < 3 → ((pu.set (s.size % 3) (pu.getD (s.size % 3) { data := #[] } ++ s)).getD j { data := #[] }).size ≤ 40 * (i + 1) := fun j hj => by
          rw [getD_set (by rw [hkr.lp]; exact hk3)]
          split
          · rw [ByteArray.size_append]; have := hpl (s.size % 3) hk3; omega
          · have := hpl j hj; omega
        have hex : ∃ x ∈ D2.fs, x.nm = nmK (s.size % 3) := by
          rw [hD2]
          obtain ⟨x, hx, e⟩ := mkF_has D.fs (nmK (s.size % 3))
          exact ⟨_, List.mem_map.2 ⟨x, hx, rfl⟩, by rw [if_pos e]; exact e⟩
        have hDp : DH _ _ d (D2) _ _ := hDp
        obtain ⟨z89, X90, hcl91, hbe92, h93⟩ := DH.front hDp
        have h94 : HA z89 ((q78, 5, bc [UInt8.ofNat (97 + (s.size % 3))]) :: (q9, 51, stc pu) :: (q8, 51, stc sy) :: X90) w88 := h93
        refine wl_val (.bool false) (by kernel_rfl) (run_nei (k := .i64) (a := 0) (b := 0) (by kernel_rfl) (by kernel_rfl) false (by decide)) ?_
        refine wl_nil ?_
        refine then_at (F := ⟨(.slice o ss.length c :: iN .u8 n :: .slice o2 ks.length c2 :: un :: un :: un :: .bool false :: pt d.q :: pt q8 :: pt q9 :: iN .i64 i :: .string s :: iN .i64 (s.size % 3) :: .string (nmK (s.size % 3)) :: un :: un :: un :: pt d.q :: pt d.q :: .bool false :: .bool false :: pt d.q :: iN .u8 n :: iN .i64 n :: iN .i64 (1 + n) :: iN .i64 0 :: .bool false :: .bool false :: iN .i64 i :: .slice o ss.length c :: iN .i64 ss.length :: .bool true :: .bool true :: iN .i64 i :: .bool true :: .bool true :: u68 36 :: u68 37 :: .slice o ss.length c :: iN .i64 i :: .pointer (some (sa.add i)) :: .string (ss.getD i { data := #[] }) :: .string s :: .string s :: iN .i64 s.size :: iN .i64 (s.size % 3) :: iN .i64 (s.size % 3) :: iN .u8 (s.size % 3) :: iN .u8 (97 + (s.size % 3)) :: .slice (some ⟨q78, 0, none⟩) 1 1 :: .string (nmK (s.size % 3)) :: pt d.q :: .string (nmK (s.size % 3)) :: .string s :: iN .i64 0 :: .bool false :: u68 56 :: u68 57 :: u68 58 :: u68 59 :: u68 60 :: u68 61 :: u68 62 :: u68 63 :: u68 64 :: u68 65 :: u68 66 :: u68 67 :: u68 68 :: u68 69 :: u68 70 :: u68 71 :: u68 72 :: u68 73 :: u68 74 :: u68 75 :: List.replicate 79 un).toArray, []⟩) (by kernel_rfl) ?_
        refine wp_cond_false (by kernel_rfl) ?_
        refine wp_skip ?_
        refine then_at (F := ⟨(.slice o ss.length c :: iN .u8 n :: .slice o2 ks.length c2 :: un :: un :: un :: .bool false :: pt d.q :: pt q8 :: pt q9 :: iN .i64 i :: .string s :: iN .i64 (s.size % 3) :: .string (nmK (s.size % 3)) :: un :: un :: un :: pt d.q :: pt d.q :: .bool false :: .bool false :: pt d.q :: iN .u8 n :: iN .i64 n :: iN .i64 (1 + n) :: iN .i64 0 :: .bool false :: .bool false :: iN .i64 i :: .slice o ss.length c :: iN .i64 ss.length :: .bool true :: .bool true :: iN .i64 i :: .bool true :: .bool true :: u68 36 :: u68 37 :: .slice o ss.length c :: iN .i64 i :: .pointer (some (sa.add i)) :: .string (ss.getD i { data := #[] }) :: .string s :: .string s :: iN .i64 s.size :: iN .i64 (s.size % 3) :: iN .i64 (s.size % 3) :: iN .u8 (s.size % 3) :: iN .u8 (97 + (s.size % 3)) :: .slice (some ⟨q78, 0, none⟩) 1 1 :: .string (nmK (s.size % 3)) :: pt d.q :: .string (nmK (s.size % 3)) :: .string s :: iN .i64 0 :: .bool false :: u68 56 :: u68 57 :: u68 58 :: u68 59 :: u68 60 :: u68 61 :: u68 62 :: u68 63 :: u68 64 :: u68 65 :: u68 66 :: u68 67 :: u68 68 :: u68 69 :: u68 70 :: u68 71 :: u68 72 :: u68 73 :: u68 74 :: u68 75 :: List.replicate 79 un).toArray, []⟩) (by kernel_rfl) ?_
        refine wp_seq ?_
        refine wl_region ?_
        refine wl_val (iN .i64 (s.size % 3)) (by kernel_rfl) (by kernel_rfl) ?_
        refine wl_val (iN .i64 (s.size % 3)) (by kernel_rfl) (by kernel_rfl) ?_
        refine wl_val (.pointer (some ⟨q9, s.size % 3, none⟩)) (by kernel_rfl) (run_addr3 (q := q9) (i := s.size % 3) (by kernel_rfl) (by kernel_rfl) (by omega)) ?_
        refine wl_val (.string (pu.getD (s.size % 3) { data := #[] })) (by kernel_rfl) (run_load1 (fun w => Try.isAgg9 w) (by kernel_rfl) (((h94.get 1 rfl).cell (s.size % 3)).trans (stc_get pu (s.size % 3) (by first | (rw [hkr.lp]; omega) | (rw [List.length_set, hkr.lp]; omega))))) ?_
        refine wl_val (.string s) (by kernel_rfl) (by kernel_rfl) ?_
        refine wl_val (.string ((pu.getD (s.size % 3) { data := #[] } ++ s))) (by kernel_rfl) (run_cat (s := pu.getD (s.size % 3) { data := #[] }) (t := s) (by kernel_rfl) (by kernel_rfl) (by have := hpl (s.size % 3) hk3; omega)) ?_
        refine wl_val (.pointer (some ⟨q9, s.size % 3, none⟩)) (by kernel_rfl) (run_addr3 (q := q9) (i := s.size % 3) (by kernel_rfl) (by kernel_rfl) (by omega)) ?_
        refine wl_putv (v := .string ((pu.getD (s.size % 3) { data := #[] } ++ s))) h94 1 rfl (s.size % 3) (by rw [stc_size]; first | (rw [hkr.lp]; omega) | (rw [List.length_set, hkr.lp]; omega)) (by kernel_rfl) (fun w => Try.sizeOf9 w) (by kernel_rfl) (by kernel_rfl) (by kernel_rfl) ?_
        intro w95 h96
        have h97 : HA z89 ((q78, 5, bc [UInt8.ofNat (97 + (s.size % 3))]) :: (q9, 51, stc (pu.set (s.size % 3) ((pu.getD (s.size % 3) { data := #[] } ++ s)))) :: (q8, 51, stc sy) :: X90) w95 := (by rw [← stc_put pu (s.size % 3) ((pu.getD (s.size % 3) { data := #[] } ++ s))]; exact h96)
        clear h96
        refine wl_nil ?_
        refine then_at (F := ⟨(.slice o ss.length c :: iN .u8 n :: .slice o2 ks.length c2 :: un :: un :: un :: .bool false :: pt d.q :: pt q8 :: pt q9 :: iN .i64 i :: .string s :: iN .i64 (s.size % 3) :: .string (nmK (s.size % 3)) :: un :: un :: un :: pt d.q :: pt d.q :: .bool false :: .bool false :: pt d.q :: iN .u8 n :: iN .i64 n :: iN .i64 (1 + n) :: iN .i64 0 :: .bool false :: .bool false :: iN .i64 i :: .slice o ss.length c :: iN .i64 ss.length :: .bool true :: .bool true :: iN .i64 i :: .bool true :: .bool true :: u68 36 :: u68 37 :: .slice o ss.length c :: iN .i64 i :: .pointer (some (sa.add i)) :: .string (ss.getD i { data := #[] }) :: .string s :: .string s :: iN .i64 s.size :: iN .i64 (s.size % 3) :: iN .i64 (s.size % 3) :: iN .u8 (s.size % 3) :: iN .u8 (97 + (s.size % 3)) :: .slice (some ⟨q78, 0, none⟩) 1 1 :: .string (nmK (s.size % 3)) :: pt d.q :: .string (nmK (s.size % 3)) :: .string s :: iN .i64 0 :: .bool false :: iN .i64 (s.size % 3) :: iN .i64 (s.size % 3) :: .pointer (some ⟨q9, s.size % 3, none⟩) :: .string (pu.getD (s.size % 3) { data := #[] }) :: .string s :: .string ((pu.getD (s.size % 3) { data := #[] } ++ s)) :: .pointer (some ⟨q9, s.size % 3, none⟩) :: u68 63 :: u68 64 :: u68 65 :: u68 66 :: u68 67 :: u68 68 :: u68 69 :: u68 70 :: u68 71 :: u68 72 :: u68 73 :: u68 74 :: u68 75 :: List.replicate 79 un).toArray, []⟩) (by kernel_rfl) ?_
        refine wp_seq ?_
        by_cases hodd : s.size % 2 = 1
        · refine wl_region ?_
          refine wl_val (.string s) (by kernel_rfl) (by kernel_rfl) ?_
          refine wl_val (iN .i64 s.size) (by kernel_rfl) (run_len (s := s) (by kernel_rfl)) ?_
          refine wl_val (iN .i64 (s.size % 2)) (by kernel_rfl) (run_rem (k := .i64) (a := s.size) (b := 2) (by kernel_rfl) (by kernel_rfl) (by decide)) ?_
          refine wl_val (.bool true) (by kernel_rfl) (run_eqi (k := .i64) (a := s.size % 2) (b := 1) (by kernel_rfl) (by kernel_rfl) true (decide_eq_true hodd)) ?_
          refine wl_nil ?_
          refine then_at (F := ⟨(.slice o ss.length c :: iN .u8 n :: .slice o2 ks.length c2 :: un :: un :: un :: .bool false :: pt d.q :: pt q8 :: pt q9 :: iN .i64 i :: .string s :: iN .i64 (s.size % 3) :: .string (nmK (s.size % 3)) :: un :: un :: un :: pt d.q :: pt d.q :: .bool false :: .bool false :: pt d.q :: iN .u8 n :: iN .i64 n :: iN .i64 (1 + n) :: iN .i64 0 :: .bool false :: .bool false :: iN .i64 i :: .slice o ss.length c :: iN .i64 ss.length :: .bool true :: .bool true :: iN .i64 i :: .bool true :: .bool true :: u68 36 :: u68 37 :: .slice o ss.length c :: iN .i64 i :: .pointer (some (sa.add i)) :: .string (ss.getD i { data := #[] }) :: .string s :: .string s :: iN .i64 s.size :: iN .i64 (s.size % 3) :: iN .i64 (s.size % 3) :: iN .u8 (s.size % 3) :: iN .u8 (97 + (s.size % 3)) :: .slice (some ⟨q78, 0, none⟩) 1 1 :: .string (nmK (s.size % 3)) :: pt d.q :: .string (nmK (s.size % 3)) :: .string s :: iN .i64 0 :: .bool false :: iN .i64 (s.size % 3) :: iN .i64 (s.size % 3) :: .pointer (some ⟨q9, s.size % 3, none⟩) :: .string (pu.getD (s.size % 3) { data := #[] }) :: .string s :: .string ((pu.getD (s.size % 3) { data := #[] } ++ s)) :: .pointer (some ⟨q9, s.size % 3, none⟩) :: .string s :: iN .i64 s.size :: iN .i64 (s.size % 2) :: .bool true :: u68 67 :: u68 68 :: u68 69 :: u68 70 :: u68 71 :: u68 72 :: u68 73 :: u68 74 :: u68 75 :: List.replicate 79 un).toArray, []⟩) (by kernel_rfl) ?_
          refine wp_cond_true (by kernel_rfl) ?_
          refine wp_seq ?_
          refine wp_seq ?_
          have hsy := sync_is hex
          by_cases hdn2 : (spendD D2).down = true
          · rw [if_pos hdn2] at hsy
            have hdb3 := Sync_DB hdb2 (nmK (s.size % 3))
            rw [hsy] at hdb3
            refine wl_region ?_
            refine wl_val (.pointer (some ⟨d.q, 0, none⟩)) (by kernel_rfl) (by kernel_rfl) ?_
            refine wl_val (.string (nmK (s.size % 3))) (by kernel_rfl) (by kernel_rfl) ?_
            refine wl_callx (by kernel_rfl) enter12 #[.pointer (some ⟨d.q, 0, none⟩), .string (nmK (s.size % 3))] (by kernel_rfl) (by have h := Sync_any (hcl91 [(q78, 5, bc [UInt8.ofNat (97 + (s.size % 3))]), (q9, 51, stc (pu.set (s.size % 3) ((pu.getD (s.size % 3) { data := #[] } ++ s)))), (q8, 51, stc sy)] _ h97) (nmK (s.size % 3)) hdb2 (by omega); rw [hsy] at h; exact h) ?_
            rintro _ w98 ⟨rfl, hDs⟩
            refine ⟨_, rfl, ?_⟩
            have hkr3 := hkr2.fs (D' := spendD D2) rfl
            have hDs : DH _ _ d (spendD D2) _ _ := hDs
            obtain ⟨z99, X100, hcl101, hbe102, h103⟩ := DH.front hDs
            have h104 : HA z99 ((q78, 5, bc [UInt8.ofNat (97 + (s.size % 3))]) :: (q9, 51, stc (pu.set (s.size % 3) ((pu.getD (s.size % 3) { data := #[] } ++ s)))) :: (q8, 51, stc sy) :: X100) w98 := h103
            refine wl_val (.bool true) (by kernel_rfl) (run_nei (k := .i64) (a := 16) (b := 0) (by kernel_rfl) (by kernel_rfl) true (by decide)) ?_
            refine wl_nil ?_
            refine then_at (F := ⟨(.slice o ss.length c :: iN .u8 n :: .slice o2 ks.length c2 :: un :: un :: un :: .bool false :: pt d.q :: pt q8 :: pt q9 :: iN .i64 i :: .string s :: iN .i64 (s.size % 3) :: .string (nmK (s.size % 3)) :: un :: un :: un :: pt d.q :: pt d.q :: .bool false :: .bool false :: pt d.q :: iN .u8 n :: iN .i64 n :: iN .i64 (1 + n) :: iN .i64 0 :: .bool false :: .bool false :: iN .i64 i :: .slice o ss.length c :: iN .i64 ss.length :: .bool true :: .bool true :: iN .i64 i :: .bool true :: .bool true :: u68 36 :: u68 37 :: .slice o ss.length c :: iN .i64 i :: .pointer (some (sa.add i)) :: .string (ss.getD i { data := #[] }) :: .string s :: .string s :: iN .i64 s.size :: iN .i64 (s.size % 3) :: iN .i64 (s.size % 3) :: iN .u8 (s.size % 3) :: iN .u8 (97 + (s.size % 3)) :: .slice (some ⟨q78, 0, none⟩) 1 1 :: .string (nmK (s.size % 3)) :: pt d.q :: .string (nmK (s.size % 3)) :: .string s :: iN .i64 0 :: .bool false :: iN .i64 (s.size % 3) :: iN .i64 (s.size % 3) :: .pointer (some ⟨q9, s.size % 3, none⟩) :: .string (pu.getD (s.size % 3) { data := #[] }) :: .string s :: .string ((pu.getD (s.size % 3) { data := #[] } ++ s)) :: .pointer (some ⟨q9, s.size % 3, none⟩) :: .string s :: iN .i64 s.size :: iN .i64 (s.size % 2) :: .bool true :: pt d.q :: .string (nmK (s.size % 3)) :: iN .i64 16 :: .bool true :: u68 71 :: u68 72 :: u68 73 :: u68 74 :: u68 75 :: List.replicate 79 un).toArray, []⟩) (by kernel_rfl) ?_
            refine wp_cond_true (by kernel_rfl) ?_
            refine wp_exit ?_
            repeat first | refine then_exit ?_ | refine block_exit ?_ | refine block_exit_ne (by decide) ?_
            exact ⟨rfl, fun ii => (([(10, iN .i64 i), (11, .string s), (12, iN .i64 (s.size % 3)), (13, .string (nmK (s.size % 3))), (28, iN .i64 i), (29, .slice o ss.length c), (30, iN .i64 ss.length), (31, .bool true), (32, .bool true), (33, iN .i64 i), (34, .bool true), (35, .bool true), (36, u68 36), (37, u68 37), (38, .slice o ss.length c), (39, iN .i64 i), (40, .pointer (some (sa.add i))), (41, .string (ss.getD i { data := #[] })), (42, .string s), (43, .string s), (44, iN .i64 s.size), (45, iN .i64 (s.size % 3)), (46, iN .i64 (s.size % 3)), (47, iN .u8 (s.size % 3)), (48, iN .u8 (97 + (s.size % 3))), (49, .slice (some ⟨q78, 0, none⟩) 1 1), (50, .string (nmK (s.size % 3))), (51, .pointer (some ⟨d.q, 0, none⟩)), (52, .string (nmK (s.size % 3))), (53, .string s), (54, iN .i64 0), (55, .bool false), (56, iN .i64 (s.size % 3)), (57, iN .i64 (s.size % 3)), (58, .pointer (some ⟨q9, s.size % 3, none⟩)), (59, .string (pu.getD (s.size % 3) { data := #[] })), (60, .string s), (61, .string ((pu.getD (s.size % 3) { data := #[] } ++ s))), (62, .pointer (some ⟨q9, s.size % 3, none⟩)), (63, .string s), (64, iN .i64 s.size), (65, iN .i64 (s.size % 2)), (66, .bool true), (67, .pointer (some ⟨d.q, 0, none⟩)), (68, .string (nmK (s.size % 3))), (69, iN .i64 16), (70, .bool true), (71, u68 71), (72, u68 72), (73, u68 73), (74, u68 74), (75, u68 75)] : List (Nat × Value)).find? (·.1 == ii)).elim undef (·.2), by kernel_rfl, _, _, _, hkr3, hdb3.mono (by omega) (by omega), (hcl101 [(q9, 51, stc (pu.set (s.size % 3) ((pu.getD (s.size % 3) { data := #[] } ++ s)))), (q8, 51, stc sy)] _ (h104.sub (List.Sublist.cons _ (List.Sublist.refl _))))⟩
          · rw [if_neg hdn2] at hsy
            have hdb3 := Sync_DB hdb2 (nmK (s.size % 3))
            rw [hsy] at hdb3
            refine wl_region ?_
            refine wl_val (.pointer (some ⟨d.q, 0, none⟩)) (by kernel_rfl) (by kernel_rfl) ?_
            refine wl_val (.string (nmK (s.size % 3))) (by kernel_rfl) (by kernel_rfl) ?_
            refine wl_callx (by kernel_rfl) enter12 #[.pointer (some ⟨d.q, 0, none⟩), .string (nmK (s.size % 3))] (by kernel_rfl) (by have h := Sync_any (hcl91 [(q78, 5, bc [UInt8.ofNat (97 + (s.size % 3))]), (q9, 51, stc (pu.set (s.size % 3) ((pu.getD (s.size % 3) { data := #[] } ++ s)))), (q8, 51, stc sy)] _ h97) (nmK (s.size % 3)) hdb2 (by omega); rw [hsy] at h; exact h) ?_
            rintro _ w105 ⟨rfl, hDs⟩
            refine ⟨_, rfl, ?_⟩
            obtain ⟨D3, hD3⟩ : ∃ D3 : DS, D3 = { spendD D2 with fs := updF D2.fs (nmK (s.size % 3)) (fun x => { x with sy := x.da.length }), sizes := D2.sizes ++ [0] } := ⟨_, rfl⟩
            have hDs : DH w [] d D3 [(q78, 5, bc [UInt8.ofNat (97 + (s.size % 3))]), (q9, 51, stc (pu.set (s.size % 3) ((pu.getD (s.size % 3) { data := #[] } ++ s)))), (q8, 51, stc sy)] w105 := by rw [hD3]; exact hDs
            have hdb3 : DB D3 (40 * i + s.size) (2 * i + 1 + 1) := by rw [hD3]; exact hdb3
            have hkr3 := hkr2.syn (D' := D3) hk3 (by rw [hD3])
            have hfu3 : D3.free + used D3.fs = 1048576 := by
              rw [hD3, ← hfu2]
              show D2.free + used (syncF D2 (nmK (s.size % 3))).fs = _
              rw [used_sync]
            have hDs : DH _ _ d (D3) _ _ := hDs
            obtain ⟨z106, X107, hcl108, hbe109, h110⟩ := DH.front hDs
            have h111 : HA z106 ((q78, 5, bc [UInt8.ofNat (97 + (s.size % 3))]) :: (q9, 51, stc (pu.set (s.size % 3) ((pu.getD (s.size % 3) { data := #[] } ++ s)))) :: (q8, 51, stc sy) :: X107) w105 := h110
            refine wl_val (.bool false) (by kernel_rfl) (run_nei (k := .i64) (a := 0) (b := 0) (by kernel_rfl) (by kernel_rfl) false (by decide)) ?_
            refine wl_nil ?_
            refine then_at (F := ⟨(.slice o ss.length c :: iN .u8 n :: .slice o2 ks.length c2 :: un :: un :: un :: .bool false :: pt d.q :: pt q8 :: pt q9 :: iN .i64 i :: .string s :: iN .i64 (s.size % 3) :: .string (nmK (s.size % 3)) :: un :: un :: un :: pt d.q :: pt d.q :: .bool false :: .bool false :: pt d.q :: iN .u8 n :: iN .i64 n :: iN .i64 (1 + n) :: iN .i64 0 :: .bool false :: .bool false :: iN .i64 i :: .slice o ss.length c :: iN .i64 ss.length :: .bool true :: .bool true :: iN .i64 i :: .bool true :: .bool true :: u68 36 :: u68 37 :: .slice o ss.length c :: iN .i64 i :: .pointer (some (sa.add i)) :: .string (ss.getD i { data := #[] }) :: .string s :: .string s :: iN .i64 s.size :: iN .i64 (s.size % 3) :: iN .i64 (s.size % 3) :: iN .u8 (s.size % 3) :: iN .u8 (97 + (s.size % 3)) :: .slice (some ⟨q78, 0, none⟩) 1 1 :: .string (nmK (s.size % 3)) :: pt d.q :: .string (nmK (s.size % 3)) :: .string s :: iN .i64 0 :: .bool false :: iN .i64 (s.size % 3) :: iN .i64 (s.size % 3) :: .pointer (some ⟨q9, s.size % 3, none⟩) :: .string (pu.getD (s.size % 3) { data := #[] }) :: .string s :: .string ((pu.getD (s.size % 3) { data := #[] } ++ s)) :: .pointer (some ⟨q9, s.size % 3, none⟩) :: .string s :: iN .i64 s.size :: iN .i64 (s.size % 2) :: .bool true :: pt d.q :: .string (nmK (s.size % 3)) :: iN .i64 0 :: .bool false :: u68 71 :: u68 72 :: u68 73 :: u68 74 :: u68 75 :: List.replicate 79 un).toArray, []⟩) (by kernel_rfl) ?_
            refine wp_cond_false (by kernel_rfl) ?_
            refine wp_skip ?_
            refine then_at (F := ⟨(.slice o ss.length c :: iN .u8 n :: .slice o2 ks.length c2 :: un :: un :: un :: .bool false :: pt d.q :: pt q8 :: pt q9 :: iN .i64 i :: .string s :: iN .i64 (s.size % 3) :: .string (nmK (s.size % 3)) :: un :: un :: un :: pt d.q :: pt d.q :: .bool false :: .bool false :: pt d.q :: iN .u8 n :: iN .i64 n :: iN .i64 (1 + n) :: iN .i64 0 :: .bool false :: .bool false :: iN .i64 i :: .slice o ss.length c :: iN .i64 ss.length :: .bool true :: .bool true :: iN .i64 i :: .bool true :: .bool true :: u68 36 :: u68 37 :: .slice o ss.length c :: iN .i64 i :: .pointer (some (sa.add i)) :: .string (ss.getD i { data := #[] }) :: .string s :: .string s :: iN .i64 s.size :: iN .i64 (s.size % 3) :: iN .i64 (s.size % 3) :: iN .u8 (s.size % 3) :: iN .u8 (97 + (s.size % 3)) :: .slice (some ⟨q78, 0, none⟩) 1 1 :: .string (nmK (s.size % 3)) :: pt d.q :: .string (nmK (s.size % 3)) :: .string s :: iN .i64 0 :: .bool false :: iN .i64 (s.size % 3) :: iN .i64 (s.size % 3) :: .pointer (some ⟨q9, s.size % 3, none⟩) :: .string (pu.getD (s.size % 3) { data := #[] }) :: .string s :: .string ((pu.getD (s.size % 3) { data := #[] } ++ s)) :: .pointer (some ⟨q9, s.size % 3, none⟩) :: .string s :: iN .i64 s.size :: iN .i64 (s.size % 2) :: .bool true :: pt d.q :: .string (nmK (s.size % 3)) :: iN .i64 0 :: .bool false :: u68 71 :: u68 72 :: u68 73 :: u68 74 :: u68 75 :: List.replicate 79 un).toArray, []⟩) (by kernel_rfl) ?_
            refine wl_region ?_
            refine wl_val (iN .i64 (s.size % 3)) (by kernel_rfl) (by kernel_rfl) ?_
            refine wl_val (iN .i64 (s.size % 3)) (by kernel_rfl) (by kernel_rfl) ?_
            refine wl_val (.pointer (some ⟨q9, s.size % 3, none⟩)) (by kernel_rfl) (run_addr3 (q := q9) (i := s.size % 3) (by kernel_rfl) (by kernel_rfl) (by omega)) ?_
            refine wl_val (.string ((pu.set (s.size % 3) ((pu.getD (s.size % 3) { data := #[] } ++ s))).getD (s.size % 3) { data := #[] })) (by kernel_rfl) (run_load1 (fun w => Try.isAgg9 w) (by kernel_rfl) (((h111.get 1 rfl).cell (s.size % 3)).trans (stc_get (pu.set (s.size % 3) ((pu.getD (s.size % 3) { data := #[] } ++ s))) (s.size % 3) (by first | (rw [hkr.lp]; omega) | (rw [List.length_set, hkr.lp]; omega))))) ?_
            refine wl_val (.pointer (some ⟨q8, s.size % 3, none⟩)) (by kernel_rfl) (run_addr3 (q := q8) (i := s.size % 3) (by kernel_rfl) (by kernel_rfl) (by omega)) ?_
            refine wl_putv (v := .string ((pu.set (s.size % 3) ((pu.getD (s.size % 3) { data := #[] } ++ s))).getD (s.size % 3) { data := #[] })) h111 2 rfl (s.size % 3) (by rw [stc_size]; first | (rw [hkr.ls]; omega) | (rw [List.length_set, hkr.ls]; omega)) (by kernel_rfl) (fun w => Try.sizeOf9 w) (by kernel_rfl) (by kernel_rfl) (by kernel_rfl) ?_
            intro w112 h113
            have h114 : HA z106 ((q78, 5, bc [UInt8.ofNat (97 + (s.size % 3))]) :: (q9, 51, stc (pu.set (s.size % 3) ((pu.getD (s.size % 3) { data := #[] } ++ s)))) :: (q8, 51, stc (sy.set (s.size % 3) ((pu.set (s.size % 3) ((pu.getD (s.size % 3) { data := #[] } ++ s))).getD (s.size % 3) { data := #[] }))) :: X107) w112 := (by rw [← stc_put sy (s.size % 3) ((pu.set (s.size % 3) ((pu.getD (s.size % 3) { data := #[] } ++ s))).getD (s.size % 3) { data := #[] })]; exact h113)
            clear h113
            refine wl_nil ?_
            refine block_normal ?_
            refine then_at (F := ⟨(.slice o ss.length c :: iN .u8 n :: .slice o2 ks.length c2 :: un :: un :: un :: .bool false :: pt d.q :: pt q8 :: pt q9 :: iN .i64 i :: .string s :: iN .i64 (s.size % 3) :: .string (nmK (s.size % 3)) :: un :: un :: un :: pt d.q :: pt d.q :: .bool false :: .bool false :: pt d.q :: iN .u8 n :: iN .i64 n :: iN .i64 (1 + n) :: iN .i64 0 :: .bool false :: .bool false :: iN .i64 i :: .slice o ss.length c :: iN .i64 ss.length :: .bool true :: .bool true :: iN .i64 i :: .bool true :: .bool true :: u68 36 :: u68 37 :: .slice o ss.length c :: iN .i64 i :: .pointer (some (sa.add i)) :: .string (ss.getD i { data := #[] }) :: .string s :: .string s :: iN .i64 s.size :: iN .i64 (s.size % 3) :: iN .i64 (s.size % 3) :: iN .u8 (s.size % 3) :: iN .u8 (97 + (s.size % 3)) :: .slice (some ⟨q78, 0, none⟩) 1 1 :: .string (nmK (s.size % 3)) :: pt d.q :: .string (nmK (s.size % 3)) :: .string s :: iN .i64 0 :: .bool false :: iN .i64 (s.size % 3) :: iN .i64 (s.size % 3) :: .pointer (some ⟨q9, s.size % 3, none⟩) :: .string (pu.getD (s.size % 3) { data := #[] }) :: .string s :: .string ((pu.getD (s.size % 3) { data := #[] } ++ s)) :: .pointer (some ⟨q9, s.size % 3, none⟩) :: .string s :: iN .i64 s.size :: iN .i64 (s.size % 2) :: .bool true :: pt d.q :: .string (nmK (s.size % 3)) :: iN .i64 0 :: .bool false :: iN .i64 (s.size % 3) :: iN .i64 (s.size % 3) :: .pointer (some ⟨q9, s.size % 3, none⟩) :: .string ((pu.set (s.size % 3) ((pu.getD (s.size % 3) { data := #[] } ++ s))).getD (s.size % 3) { data := #[] }) :: .pointer (some ⟨q8, s.size % 3, none⟩) :: List.replicate 79 un).toArray, []⟩) (by kernel_rfl) ?_
            refine wl_region ?_
            refine wl_val (iN .i64 i) (by kernel_rfl) (by kernel_rfl) ?_
            refine wl_val (iN .i64 (i + 1)) (by kernel_rfl) (run_add (k := .i64) (a := i) (b := 1) (by kernel_rfl) (by kernel_rfl) (by first | omega | (simp only [top]; omega))) ?_
            refine wl_val (iN .i64 (i + 1)) (by kernel_rfl) (by kernel_rfl) ?_
            refine wl_nil ?_
            exact then_I ⟨fun ii => (([(11, .string s), (12, iN .i64 (s.size % 3)), (13, .string (nmK (s.size % 3))), (28, iN .i64 i), (29, .slice o ss.length c), (30, iN .i64 ss.length), (31, .bool true), (32, .bool true), (33, iN .i64 i), (34, .bool true), (35, .bool true), (36, iN .i64 i), (37, iN .i64 (i + 1)), (38, .slice o ss.length c), (39, iN .i64 i), (40, .pointer (some (sa.add i))), (41, .string (ss.getD i { data := #[] })), (42, .string s), (43, .string s), (44, iN .i64 s.size), (45, iN .i64 (s.size % 3)), (46, iN .i64 (s.size % 3)), (47, iN .u8 (s.size % 3)), (48, iN .u8 (97 + (s.size % 3))), (49, .slice (some ⟨q78, 0, none⟩) 1 1), (50, .string (nmK (s.size % 3))), (51, .pointer (some ⟨d.q, 0, none⟩)), (52, .string (nmK (s.size % 3))), (53, .string s), (54, iN .i64 0), (55, .bool false), (56, iN .i64 (s.size % 3)), (57, iN .i64 (s.size % 3)), (58, .pointer (some ⟨q9, s.size % 3, none⟩)), (59, .string (pu.getD (s.size % 3) { data := #[] })), (60, .string s), (61, .string ((pu.getD (s.size % 3) { data := #[] } ++ s))), (62, .pointer (some ⟨q9, s.size % 3, none⟩)), (63, .string s), (64, iN .i64 s.size), (65, iN .i64 (s.size % 2)), (66, .bool true), (67, .pointer (some ⟨d.q, 0, none⟩)), (68, .string (nmK (s.size % 3))), (69, iN .i64 0), (70, .bool false), (71, iN .i64 (s.size % 3)), (72, iN .i64 (s.size % 3)), (73, .pointer (some ⟨q9, s.size % 3, none⟩)), (74, .string ((pu.set (s.size % 3) ((pu.getD (s.size % 3) { data := #[] } ++ s))).getD (s.size % 3) { data := #[] })), (75, .pointer (some ⟨q8, s.size % 3, none⟩))] : List (Nat × Value)).find? (·.1 == ii)).elim undef (·.2), by kernel_rfl, _, _, _, hkr3, hdb3.mono (by omega) (by omega), hfu3, hpl2, (hcl108 [(q9, 51, stc (pu.set (s.size % 3) ((pu.getD (s.size % 3) { data := #[] } ++ s)))), (q8, 51, stc (sy.set (s.size % 3) ((pu.set (s.size % 3) ((pu.getD (s.size % 3) { data := #[] } ++ s))).getD (s.size % 3) { data := #[] })))] _ (h114.sub (List.Sublist.cons _ (List.Sublist.refl _))))⟩
        · refine wl_region ?_
          refine wl_val (.string s) (by kernel_rfl) (by kernel_rfl) ?_
          refine wl_val (iN .i64 s.size) (by kernel_rfl) (run_len (s := s) (by kernel_rfl)) ?_
          refine wl_val (iN .i64 (s.size % 2)) (by kernel_rfl) (run_rem (k := .i64) (a := s.size) (b := 2) (by kernel_rfl) (by kernel_rfl) (by decide)) ?_
          refine wl_val (.bool false) (by kernel_rfl) (run_eqi (k := .i64) (a := s.size % 2) (b := 1) (by kernel_rfl) (by kernel_rfl) false (decide_eq_false hodd)) ?_
          refine wl_nil ?_
          refine then_at (F := ⟨(.slice o ss.length c :: iN .u8 n :: .slice o2 ks.length c2 :: un :: un :: un :: .bool false :: pt d.q :: pt q8 :: pt q9 :: iN .i64 i :: .string s :: iN .i64 (s.size % 3) :: .string (nmK (s.size % 3)) :: un :: un :: un :: pt d.q :: pt d.q :: .bool false :: .bool false :: pt d.q :: iN .u8 n :: iN .i64 n :: iN .i64 (1 + n) :: iN .i64 0 :: .bool false :: .bool false :: iN .i64 i :: .slice o ss.length c :: iN .i64 ss.length :: .bool true :: .bool true :: iN .i64 i :: .bool true :: .bool true :: u68 36 :: u68 37 :: .slice o ss.length c :: iN .i64 i :: .pointer (some (sa.add i)) :: .string (ss.getD i { data := #[] }) :: .string s :: .string s :: iN .i64 s.size :: iN .i64 (s.size % 3) :: iN .i64 (s.size % 3) :: iN .u8 (s.size % 3) :: iN .u8 (97 + (s.size % 3)) :: .slice (some ⟨q78, 0, none⟩) 1 1 :: .string (nmK (s.size % 3)) :: pt d.q :: .string (nmK (s.size % 3)) :: .string s :: iN .i64 0 :: .bool false :: iN .i64 (s.size % 3) :: iN .i64 (s.size % 3) :: .pointer (some ⟨q9, s.size % 3, none⟩) :: .string (pu.getD (s.size % 3) { data := #[] }) :: .string s :: .string ((pu.getD (s.size % 3) { data := #[] } ++ s)) :: .pointer (some ⟨q9, s.size % 3, none⟩) :: .string s :: iN .i64 s.size :: iN .i64 (s.size % 2) :: .bool false :: u68 67 :: u68 68 :: u68 69 :: u68 70 :: u68 71 :: u68 72 :: u68 73 :: u68 74 :: u68 75 :: List.replicate 79 un).toArray, []⟩) (by kernel_rfl) ?_
          refine wp_cond_false (by kernel_rfl) ?_
          refine wp_skip ?_
          refine block_normal ?_
          refine then_at (F := ⟨(.slice o ss.length c :: iN .u8 n :: .slice o2 ks.length c2 :: un :: un :: un :: .bool false :: pt d.q :: pt q8 :: pt q9 :: iN .i64 i :: .string s :: iN .i64 (s.size % 3) :: .string (nmK (s.size % 3)) :: un :: un :: un :: pt d.q :: pt d.q :: .bool false :: .bool false :: pt d.q :: iN .u8 n :: iN .i64 n :: iN .i64 (1 + n) :: iN .i64 0 :: .bool false :: .bool false :: iN .i64 i :: .slice o ss.length c :: iN .i64 ss.length :: .bool true :: .bool true :: iN .i64 i :: .bool true :: .bool true :: u68 36 :: u68 37 :: .slice o ss.length c :: iN .i64 i :: .pointer (some (sa.add i)) :: .string (ss.getD i { data := #[] }) :: .string s :: .string s :: iN .i64 s.size :: iN .i64 (s.size % 3) :: iN .i64 (s.size % 3) :: iN .u8 (s.size % 3) :: iN .u8 (97 + (s.size % 3)) :: .slice (some ⟨q78, 0, none⟩) 1 1 :: .string (nmK (s.size % 3)) :: pt d.q :: .string (nmK (s.size % 3)) :: .string s :: iN .i64 0 :: .bool false :: iN .i64 (s.size % 3) :: iN .i64 (s.size % 3) :: .pointer (some ⟨q9, s.size % 3, none⟩) :: .string (pu.getD (s.size % 3) { data := #[] }) :: .string s :: .string ((pu.getD (s.size % 3) { data := #[] } ++ s)) :: .pointer (some ⟨q9, s.size % 3, none⟩) :: .string s :: iN .i64 s.size :: iN .i64 (s.size % 2) :: .bool false :: u68 67 :: u68 68 :: u68 69 :: u68 70 :: u68 71 :: u68 72 :: u68 73 :: u68 74 :: u68 75 :: List.replicate 79 un).toArray, []⟩) (by kernel_rfl) ?_
          refine wl_region ?_
          refine wl_val (iN .i64 i) (by kernel_rfl) (by kernel_rfl) ?_
          refine wl_val (iN .i64 (i + 1)) (by kernel_rfl) (run_add (k := .i64) (a := i) (b := 1) (by kernel_rfl) (by kernel_rfl) (by first | omega | (simp only [top]; omega))) ?_
          refine wl_val (iN .i64 (i + 1)) (by kernel_rfl) (by kernel_rfl) ?_
          refine wl_nil ?_
          exact then_I ⟨fun ii => (([(11, .string s), (12, iN .i64 (s.size % 3)), (13, .string (nmK (s.size % 3))), (28, iN .i64 i), (29, .slice o ss.length c), (30, iN .i64 ss.length), (31, .bool true), (32, .bool true), (33, iN .i64 i), (34, .bool true), (35, .bool true), (36, iN .i64 i), (37, iN .i64 (i + 1)), (38, .slice o ss.length c), (39, iN .i64 i), (40, .pointer (some (sa.add i))), (41, .string (ss.getD i { data := #[] })), (42, .string s), (43, .string s), (44, iN .i64 s.size), (45, iN .i64 (s.size % 3)), (46, iN .i64 (s.size % 3)), (47, iN .u8 (s.size % 3)), (48, iN .u8 (97 + (s.size % 3))), (49, .slice (some ⟨q78, 0, none⟩) 1 1), (50, .string (nmK (s.size % 3))), (51, .pointer (some ⟨d.q, 0, none⟩)), (52, .string (nmK (s.size % 3))), (53, .string s), (54, iN .i64 0), (55, .bool false), (56, iN .i64 (s.size % 3)), (57, iN .i64 (s.size % 3)), (58, .pointer (some ⟨q9, s.size % 3, none⟩)), (59, .string (pu.getD (s.size % 3) { data := #[] })), (60, .string s), (61, .string ((pu.getD (s.size % 3) { data := #[] } ++ s))), (62, .pointer (some ⟨q9, s.size % 3, none⟩)), (63, .string s), (64, iN .i64 s.size), (65, iN .i64 (s.size % 2)), (66, .bool false), (67, u68 67), (68, u68 68), (69, u68 69), (70, u68 70), (71, u68 71), (72, u68 72), (73, u68 73), (74, u68 74), (75, u68 75)] : List (Nat × Value)).find? (·.1 == ii)).elim undef (·.2), by kernel_rfl, _, _, _, hkr2, hdb2.mono (by omega) (by omega), hfu2, hpl2, (hcl91 [(q9, 51, stc (pu.set (s.size % 3) ((pu.getD (s.size % 3) { data := #[] } ++ s)))), (q8, 51, stc sy)] _ (h97.sub (List.Sublist.cons _ (List.Sublist.refl _))))⟩
    · rintro _ w115 ⟨u68, rfl, D, sy, pu, hkr, hdb, hfu, hpl, hLp⟩
      have hLp : DH _ _ d (D) _ _ := hLp
      obtain ⟨z116, X117, hcl118, hbe119, h120⟩ := DH.front hLp
      have h121 : HA z116 ((q9, 51, stc pu) :: (q8, 51, stc sy) :: X117) w115 := h120
      refine wp_seq ?_
      refine wp_seq ?_
      by_cases hgt : 40 < ss.length
      · refine wl_region ?_
        refine wl_val (iN .i64 (min ss.length 40)) (by kernel_rfl) (by kernel_rfl) ?_
        refine wl_val (.slice o ss.length c) (by kernel_rfl) (by kernel_rfl) ?_
        refine wl_val (iN .i64 ss.length) (by kernel_rfl) (by kernel_rfl) ?_
        refine wl_val (.bool true) (by kernel_rfl) (run_lss (k := .i64) (a := min ss.length 40) (b := ss.length) (by kernel_rfl) (by kernel_rfl) true (decide_eq_true (by omega))) ?_
        refine wl_val (.bool true) (by kernel_rfl) (by kernel_rfl) ?_
        refine wl_val (iN .i64 (min ss.length 40)) (by kernel_rfl) (by kernel_rfl) ?_
        refine wl_val (.bool false) (by kernel_rfl) (run_lss (k := .i64) (a := min ss.length 40) (b := 40) (by kernel_rfl) (by kernel_rfl) false (decide_eq_false (by omega))) ?_
        refine wl_val (.bool false) (by kernel_rfl) (by kernel_rfl) ?_
        refine wl_nil ?_
        refine then_at (F := ⟨(.slice o ss.length c :: iN .u8 n :: .slice o2 ks.length c2 :: un :: un :: un :: .bool false :: pt d.q :: pt q8 :: pt q9 :: iN .i64 (min ss.length 40) :: u68 11 :: u68 12 :: u68 13 :: un :: un :: un :: pt d.q :: pt d.q :: .bool false :: .bool false :: pt d.q :: iN .u8 n :: iN .i64 n :: iN .i64 (1 + n) :: iN .i64 0 :: .bool false :: .bool false :: iN .i64 (min ss.length 40) :: .slice o ss.length c :: iN .i64 ss.length :: .bool true :: .bool true :: iN .i64 (min ss.length 40) :: .bool false :: .bool false :: u68 36 :: u68 37 :: u68 38 :: u68 39 :: u68 40 :: u68 41 :: u68 42 :: u68 43 :: u68 44 :: u68 45 :: u68 46 :: u68 47 :: u68 48 :: u68 49 :: u68 50 :: u68 51 :: u68 52 :: u68 53 :: u68 54 :: u68 55 :: u68 56 :: u68 57 :: u68 58 :: u68 59 :: u68 60 :: u68 61 :: u68 62 :: u68 63 :: u68 64 :: u68 65 :: u68 66 :: u68 67 :: u68 68 :: u68 69 :: u68 70 :: u68 71 :: u68 72 :: u68 73 :: u68 74 :: u68 75 :: List.replicate 79 un).toArray, []⟩) (by kernel_rfl) ?_
        refine wp_cond_false (by kernel_rfl) ?_
        refine wp_exit ?_
        repeat first | refine then_exit ?_ | refine block_exit ?_ | refine block_exit_ne (by decide) ?_
        exact ⟨rfl, fun ii => (([(10, iN .i64 (min ss.length 40)), (11, u68 11), (12, u68 12), (13, u68 13), (28, iN .i64 (min ss.length 40)), (29, .slice o ss.length c), (30, iN .i64 ss.length), (31, .bool true), (32, .bool true), (33, iN .i64 (min ss.length 40)), (34, .bool false), (35, .bool false), (36, u68 36), (37, u68 37), (38, u68 38), (39, u68 39), (40, u68 40), (41, u68 41), (42, u68 42), (43, u68 43), (44, u68 44), (45, u68 45), (46, u68 46), (47, u68 47), (48, u68 48), (49, u68 49), (50, u68 50), (51, u68 51), (52, u68 52), (53, u68 53), (54, u68 54), (55, u68 55), (56, u68 56), (57, u68 57), (58, u68 58), (59, u68 59), (60, u68 60), (61, u68 61), (62, u68 62), (63, u68 63), (64, u68 64), (65, u68 65), (66, u68 66), (67, u68 67), (68, u68 68), (69, u68 69), (70, u68 70), (71, u68 71), (72, u68 72), (73, u68 73), (74, u68 74), (75, u68 75)] : List (Nat × Value)).find? (·.1 == ii)).elim undef (·.2), by kernel_rfl, _, _, _, hkr, hdb.mono (by omega) (by omega), (hcl118 [(q9, 51, stc pu), (q8, 51, stc sy)] _ (h121))⟩
      · refine wl_region ?_
        refine wl_val (iN .i64 (min ss.length 40)) (by kernel_rfl) (by kernel_rfl) ?_
        refine wl_val (.slice o ss.length c) (by kernel_rfl) (by kernel_rfl) ?_
        refine wl_val (iN .i64 ss.length) (by kernel_rfl) (by kernel_rfl) ?_
        refine wl_val (.bool false) (by kernel_rfl) (run_lss (k := .i64) (a := min ss.length 40) (b := ss.length) (by kernel_rfl) (by kernel_rfl) false (decide_eq_false (by omega))) ?_
        refine wl_val (.bool false) (by kernel_rfl) (by kernel_rfl) ?_
        refine wl_skip (by kernel_rfl) ?_
        refine wl_skip (by kernel_rfl) ?_
        refine wl_val (.bool false) (by kernel_rfl) (by kernel_rfl) ?_
        refine wl_nil ?_
        refine then_at (F := ⟨(.slice o ss.length c :: iN .u8 n :: .slice o2 ks.length c2 :: un :: un :: un :: .bool false :: pt d.q :: pt q8 :: pt q9 :: iN .i64 (min ss.length 40) :: u68 11 :: u68 12 :: u68 13 :: un :: un :: un :: pt d.q :: pt d.q :: .bool false :: .bool false :: pt d.q :: iN .u8 n :: iN .i64 n :: iN .i64 (1 + n) :: iN .i64 0 :: .bool false :: .bool false :: iN .i64 (min ss.length 40) :: .slice o ss.length c :: iN .i64 ss.length :: .bool false :: .bool false :: un :: un :: .bool false :: u68 36 :: u68 37 :: u68 38 :: u68 39 :: u68 40 :: u68 41 :: u68 42 :: u68 43 :: u68 44 :: u68 45 :: u68 46 :: u68 47 :: u68 48 :: u68 49 :: u68 50 :: u68 51 :: u68 52 :: u68 53 :: u68 54 :: u68 55 :: u68 56 :: u68 57 :: u68 58 :: u68 59 :: u68 60 :: u68 61 :: u68 62 :: u68 63 :: u68 64 :: u68 65 :: u68 66 :: u68 67 :: u68 68 :: u68 69 :: u68 70 :: u68 71 :: u68 72 :: u68 73 :: u68 74 :: u68 75 :: List.replicate 79 un).toArray, []⟩) (by kernel_rfl) ?_
        refine wp_cond_false (by kernel_rfl) ?_
        refine wp_exit ?_
        repeat first | refine then_exit ?_ | refine block_exit ?_ | refine block_exit_ne (by decide) ?_
        exact ⟨rfl, fun ii => (([(10, iN .i64 (min ss.length 40)), (11, u68 11), (12, u68 12), (13, u68 13), (28, iN .i64 (min ss.length 40)), (29, .slice o ss.length c), (30, iN .i64 ss.length), (31, .bool false), (32, .bool false), (33, undef), (34, undef), (35, .bool false), (36, u68 36), (37, u68 37), (38, u68 38), (39, u68 39), (40, u68 40), (41, u68 41), (42, u68 42), (43, u68 43), (44, u68 44), (45, u68 45), (46, u68 46), (47, u68 47), (48, u68 48), (49, u68 49), (50, u68 50), (51, u68 51), (52, u68 52), (53, u68 53), (54, u68 54), (55, u68 55), (56, u68 56), (57, u68 57), (58, u68 58), (59, u68 59), (60, u68 60), (61, u68 61), (62, u68 62), (63, u68 63), (64, u68 64), (65, u68 65), (66, u68 66), (67, u68 67), (68, u68 68), (69, u68 69), (70, u68 70), (71, u68 71), (72, u68 72), (73, u68 73), (74, u68 74), (75, u68 75)] : List (Nat × Value)).find? (·.1 == ii)).elim undef (·.2), by kernel_rfl, _, _, _, hkr, hdb.mono (by omega) (by omega), (hcl118 [(q9, 51, stc pu), (q8, 51, stc sy)] _ (h121))⟩
end Go.Proofs.Ytjedhnjjgmbcbaa
