/-
  the statements' own small functions, and Equal.
-/
import Derived.Test.YtmlldbkhphngeaaDoorM1
import Derived.Test.YtmlldbkhphngeaaDoorOld
namespace Go.Proofs.YtmlldbkhphngeaaDoor
open Go.RowKit


section
variable {ρ : Operand → Value} {x y : Operand} {w : World} {dst : Option Tmp} {T T2 ty : TypeId} {pos : String} {aft : Array Edge} {gd : Option (Nat × Bool)} {a b : UInt8}
theorem u8n (a : Nat) : IntKind.u8.wrap (a : Int) = ((a % 256 : Nat) : Int) := by rw [IntKind.wrap_u8']; omega
theorem run_subb (hx : ρ x = by8 a) (hy : ρ y = by8 b) : (execOp ρ ⟨dst, .binOp .sub T x y T2, ty, pos, aft, gd⟩).run Tryd.prog w = .ok (.value (by8 (a - b))) w := by
  have ha := a.toNat_lt
  have hb := b.toNat_lt
  have h : IntKind.u8.wrap ((a.toNat : Int) - (b.toNat : Int)) = (((a - b).toNat : Nat) : Int) := by
    rw [IntKind.wrap_u8', UInt8.toNat_sub]
    omega
  simp only [execOp, hx, hy, by8, iN]
  simpa [binOp, go_sem] using h
theorem run_addb (hx : ρ x = by8 a) (hy : ρ y = by8 b) : (execOp ρ ⟨dst, .binOp .add T x y T2, ty, pos, aft, gd⟩).run Tryd.prog w = .ok (.value (by8 (a + b))) w := by
  have h : IntKind.u8.wrap ((a.toNat : Int) + (b.toNat : Int)) = (((a + b).toNat : Nat) : Int) := by
    rw [IntKind.wrap_u8', UInt8.toNat_add]
    omega
  simp only [execOp, hx, hy, by8, iN]
  simpa [binOp, go_sem] using h
theorem run_shlb (hx : ρ x = by8 a) (hy : ρ y = iN .u64 4) : (execOp ρ ⟨dst, .binOp .shl T x y T2, ty, pos, aft, gd⟩).run Tryd.prog w = .ok (.value (by8 (UInt8.ofNat (a.toNat * 16)))) w := by
  have h := u8n (a.toNat * 16)
  have e : (UInt8.ofNat (a.toNat * 16)).toNat = a.toNat * 16 % 256 := UInt8.toNat_ofNat'
  simp only [execOp, hx, hy, by8, iN, e]
  simpa [binOp, go_sem] using h
theorem run_geqb (hx : ρ x = by8 a) (hy : ρ y = by8 b) (t : Bool) (ht : decide (b.toNat ≤ a.toNat) = t) : (execOp ρ ⟨dst, .binOp .geq T x y T2, ty, pos, aft, gd⟩).run Tryd.prog w = .ok (.value (.bool t)) w := by
  subst ht
  simp only [execOp, hx, hy, by8, iN]
  simp [binOp, go_sem]
theorem run_eqlb (hx : ρ x = by8 a) (hy : ρ y = by8 b) (t : Bool) (ht : decide (a = b) = t) : (execOp ρ ⟨dst, .binOp .eql T x y T2, ty, pos, aft, gd⟩).run Tryd.prog w = .ok (.value (.bool t)) w :=
  run_eqi (k := .u8) (a := a.toNat) (b := b.toNat) hx hy t (by rw [← ht]; exact decide_eq_decide.2 ⟨fun h => UInt8.toNat_inj.1 h, fun h => by rw [h]⟩)
end
section
variable {ops : Array Oper} {Q : Exit → Act → World → Prop} {F : (Nat → Nat) → Act} {md : Region.Mode} {i : Nat} {w0 : World} {L M : List (Nat × TypeId × Array Value)}
theorem gm_plain' {o : Oper} {v : Value} (hi : M.all (fun x => x.1 != i) = true) (hw : ∀ g, Region.wanted o (yielded ops (F g).tmps) = true) (hp : ∀ g, (F g).put o.dst v = F g)
    (hr : ∀ g w, (execOp (F g).eval o).run Tryd.prog w = .ok (.value v) w) : OpGhost Tryd.prog md ops Q (GM w0 L M) F i o := gm_held hi hw hp (fun g w _ => hr g w)
end
def hfP (c : UInt8) : UInt8 := if (97 : UInt8).toNat ≤ c.toNat then c - 97 + 10 else c - 48
def hxb (s : ByteArray) (i : Nat) : UInt8 := UInt8.ofNat ((hfP ((bl s).getD (2 * i) 0)).toNat * 16) ||| hfP ((bl s).getD (2 * i + 1) 0)
def hxP (s : ByteArray) : Nat → List UInt8
  | 0 => []
  | k + 1 => hxP s k ++ [hxb s k]
theorem hxP_len (s : ByteArray) : ∀ k, (hxP s k).length = k
  | 0 => rfl
  | k + 1 => by rw [hxP, List.length_append, hxP_len s k]; rfl
theorem hxr_len (s : ByteArray) (k n : Nat) (h : k ≤ n) : (hxP s k ++ List.replicate (n - k) 0).length = n := by rw [padb_len, hxP_len]; omega
theorem tmr_len (c : UInt8) (k n : Nat) (h : k ≤ n) : (List.replicate k c ++ List.replicate (n - k) 0).length = n := by rw [padb_len, List.length_replicate]; omega
theorem padb_put (l : List UInt8) (m m' i : Nat) (x : UInt8) (h : l.length = i) (hm : m = m' + 1) : (bc (l ++ List.replicate m 0)).setIfInBounds i (.int .u8 ((x.toNat : Nat) : Int)) = bc ((l ++ [x]) ++ List.replicate m' 0) := by
  subst h hm
  rw [bc_put, List.set_append_right _ _ (Nat.le_refl _), Nat.sub_self, List.replicate_succ, List.set_cons_zero, List.append_assoc]
  rfl
theorem pad_end (l : List UInt8) (n m : Nat) (h : l.length = n) (hm : m = n) : (l ++ List.replicate (n - m) 0).take n = l := by
  subst hm
  rw [Nat.sub_self, List.replicate_zero, List.append_nil, List.take_of_length_le (by omega)]
def dfP (a b : ByteArray) : Nat → UInt8
  | 0 => 0
  | k + 1 => dfP a b k ||| ((bl a).getD k 0 ^^^ (bl b).getD k 0)
theorem or_zero (x y : UInt8) : x ||| y = 0 ↔ x = 0 ∧ y = 0 := UInt8.or_eq_zero_iff
theorem xor_zero (x y : UInt8) : x ^^^ y = 0 ↔ x = y := UInt8.xor_eq_zero_iff
theorem dfP_zero (a b : ByteArray) : ∀ k, dfP a b k = 0 ↔ ∀ i, i < k → (bl a).getD i 0 = (bl b).getD i 0
  | 0 => ⟨fun _ i h => by omega, fun _ => rfl⟩
  | k + 1 => by
    rw [dfP, or_zero, xor_zero, dfP_zero a b k]
    constructor
    · rintro ⟨h1, h2⟩ i hi
      rcases Nat.lt_or_ge i k with h | h
      · exact h1 i h
      · rw [show i = k by omega]; exact h2
    · intro h
      exact ⟨fun i hi => h i (by omega), h k (by omega)⟩
theorem dfP_eq (a b : ByteArray) (h : a.size = b.size) : dfP a b a.size = 0 ↔ a = b := by
  rw [dfP_zero]
  constructor
  · intro h2
    refine bl_inj (List.ext_getElem (by rw [bl_len, bl_len, h]) fun i h3 h4 => ?_)
    rw [bl_len] at h3 h4
    have := h2 i h3
    rw [List.getD_eq_getElem?_getD, List.getD_eq_getElem?_getD, List.getElem?_eq_getElem (by rw [bl_len]; exact h3), List.getElem?_eq_getElem (by rw [bl_len]; exact h4)] at this
    simpa using this
  · rintro rfl i _
    rfl
theorem size_ne {a b : ByteArray} (h : ¬ a.size = b.size) : decide (a = b) = false := decide_eq_false fun e => h (by rw [e])

set_option linter.unusedVariables false in
set_option maxRecDepth 100000 in
set_option maxHeartbeats 2000000 in
theorem halfc (c : UInt8) (w : World) :
    Calls Tryd.prog 26 #[by8 c] w fun e w' => e = .returned (by8 (hfP c)) ∧ Below w.heap.size w w' := by
  have H0 := HA.start w
  go_enter Tryd.func26, Tryd.ntmps26
  refine wp_seq ?_
  -- region 0
  refine wl_region ?_
  refine wl_val (by8 0) (by kernel_rfl) (by kernel_rfl) ?_
  refine wl_nil ?_
  refine then_at (F := ⟨(by8 c :: un :: by8 0 :: List.replicate 7 un).toArray, []⟩) (by kernel_rfl) ?_
  refine wp_seq ?_
  refine wp_seq ?_
  by_cases hc : (97 : UInt8).toNat ≤ c.toNat
  · -- region 1
    refine wl_region ?_
    refine wl_val (by8 c) (by kernel_rfl) (by kernel_rfl) ?_
    refine wl_val (.bool true) (by kernel_rfl) (run_geqb (a := c) (b := 97) (by kernel_rfl) (by kernel_rfl) true (decide_eq_true hc)) ?_
    refine wl_nil ?_
    refine then_at (F := ⟨(by8 c :: un :: by8 0 :: by8 c :: .bool true :: List.replicate 5 un).toArray, []⟩) (by kernel_rfl) ?_
    refine wp_cond_true (by kernel_rfl) ?_
    refine wp_seq ?_
    -- region 2
    refine wl_region ?_
    refine wl_val (by8 c) (by kernel_rfl) (by kernel_rfl) ?_
    refine wl_val (by8 (c - 97)) (by kernel_rfl) (run_subb (a := c) (b := 97) (by kernel_rfl) (by kernel_rfl)) ?_
    refine wl_val (by8 ((c - 97) + 10)) (by kernel_rfl) (run_addb (a := c - 97) (b := 10) (by kernel_rfl) (by kernel_rfl)) ?_
    refine wl_val (by8 ((c - 97) + 10)) (by kernel_rfl) (by kernel_rfl) ?_
    refine wl_nil ?_
    refine then_at (F := ⟨(by8 c :: un :: by8 ((c - 97) + 10) :: by8 c :: .bool true :: by8 c :: by8 (c - 97) :: by8 ((c - 97) + 10) :: List.replicate 2 un).toArray, []⟩) (by kernel_rfl) ?_
    refine wp_ret ?_
    repeat first | refine then_ret ?_ | refine block_ret ?_
    exact bodyPost_ret (v := by8 ((c - 97) + 10)) (by kernel_rfl) rfl ⟨by unfold hfP; rw [if_pos hc], H0.old⟩
  · -- region 1
    refine wl_region ?_
    refine wl_val (by8 c) (by kernel_rfl) (by kernel_rfl) ?_
    refine wl_val (.bool false) (by kernel_rfl) (run_geqb (a := c) (b := 97) (by kernel_rfl) (by kernel_rfl) false (decide_eq_false hc)) ?_
    refine wl_nil ?_
    refine then_at (F := ⟨(by8 c :: un :: by8 0 :: by8 c :: .bool false :: List.replicate 5 un).toArray, []⟩) (by kernel_rfl) ?_
    refine wp_cond_false (by kernel_rfl) ?_
    refine wp_skip ?_
    refine then_at (F := ⟨(by8 c :: un :: by8 0 :: by8 c :: .bool false :: List.replicate 5 un).toArray, []⟩) (by kernel_rfl) ?_
    refine wp_seq ?_
    -- region 3
    refine wl_region ?_
    refine wl_val (by8 c) (by kernel_rfl) (by kernel_rfl) ?_
    refine wl_val (by8 (c - 48)) (by kernel_rfl) (run_subb (a := c) (b := 48) (by kernel_rfl) (by kernel_rfl)) ?_
    refine wl_val (by8 (c - 48)) (by kernel_rfl) (by kernel_rfl) ?_
    refine wl_nil ?_
    refine then_at (F := ⟨(by8 c :: un :: by8 (c - 48) :: by8 c :: .bool false :: un :: un :: un :: by8 c :: by8 (c - 48) :: List.replicate 0 un).toArray, []⟩) (by kernel_rfl) ?_
    refine wp_ret ?_
    repeat first | refine then_ret ?_ | refine block_ret ?_
    exact bodyPost_ret (v := by8 (c - 48)) (by kernel_rfl) rfl ⟨by unfold hfP; rw [if_neg hc], H0.old⟩

set_option linter.unusedVariables false in
set_option maxRecDepth 100000 in
set_option maxHeartbeats 2000000 in
theorem hexc (s : ByteArray) (hs : s.size ≤ 100000) (w : World) :
    Calls Tryd.prog 18 #[.string s] w fun e w' => e = .returned (.string ⟨(hxP s (s.size / 2)).toArray⟩) ∧ Below w.heap.size w w' := by
  have H0 := HA.start w
  go_enter Tryd.func18, Tryd.ntmps18
  refine wp_seq ?_
  -- region 0
  refine wl_region ?_
  refine wl_val (.string { data := #[] }) (by kernel_rfl) (by kernel_rfl) ?_
  refine wl_nil ?_
  refine then_at (F := ⟨(.string s :: un :: .string { data := #[] } :: List.replicate 30 un).toArray, []⟩) (by kernel_rfl) ?_
  refine wp_seq ?_
  -- region 1
  refine wl_region ?_
  refine wl_val (.string s) (by kernel_rfl) (by kernel_rfl) ?_
  refine wl_val (iN .i64 s.size) (by kernel_rfl) (run_len (s := s) (by kernel_rfl)) ?_
  refine wl_val (iN .i64 (s.size / 2)) (by kernel_rfl) (run_quo (k := .i64) (a := s.size) (b := 2) (by kernel_rfl) (by kernel_rfl) (by omega) (by simp only [top]; omega)) ?_
  refine wl_mks (n := s.size / 2) (m := s.size / 2) H0 5 (by kernel_rfl) (run_mk (k := .i64) (m := s.size / 2) (c := s.size / 2) (by kernel_rfl) (by kernel_rfl) (by omega) (by omega)) ?_
  intro q1 w2 h3
  refine wl_val (.slice (some ⟨q1, 0, none⟩) (s.size / 2) (s.size / 2)) (by kernel_rfl) (by kernel_rfl) ?_
  refine wl_nil ?_
  refine then_at (F := ⟨(.string s :: un :: .string { data := #[] } :: .slice (some ⟨q1, 0, none⟩) (s.size / 2) (s.size / 2) :: un :: .string s :: iN .i64 s.size :: iN .i64 (s.size / 2) :: .slice (some ⟨q1, 0, none⟩) (s.size / 2) (s.size / 2) :: List.replicate 24 un).toArray, []⟩) (by kernel_rfl) ?_
  refine wp_seq ?_
  refine wp_seq ?_
  -- region 2
  refine wl_region ?_
  refine wl_val (iN .i64 0) (by kernel_rfl) (by kernel_rfl) ?_
  refine wl_nil ?_
  refine then_at (F := ⟨(.string s :: un :: .string { data := #[] } :: .slice (some ⟨q1, 0, none⟩) (s.size / 2) (s.size / 2) :: iN .i64 0 :: .string s :: iN .i64 s.size :: iN .i64 (s.size / 2) :: .slice (some ⟨q1, 0, none⟩) (s.size / 2) (s.size / 2) :: List.replicate 24 un).toArray, []⟩) (by kernel_rfl) ?_
  refine wp_block ?_
  refine wp_count (fun k A w' => ∃ u4 : Nat → Value, A = ⟨(.string s :: un :: .string { data := #[] } :: .slice (some ⟨q1, 0, none⟩) (s.size / 2) (s.size / 2) :: iN .i64 k :: .string s :: iN .i64 s.size :: iN .i64 (s.size / 2) :: .slice (some ⟨q1, 0, none⟩) (s.size / 2) (s.size / 2) :: u4 9 :: u4 10 :: u4 11 :: u4 12 :: u4 13 :: u4 14 :: u4 15 :: u4 16 :: u4 17 :: u4 18 :: u4 19 :: u4 20 :: u4 21 :: u4 22 :: u4 23 :: u4 24 :: u4 25 :: u4 26 :: u4 27 :: u4 28 :: u4 29 :: u4 30 :: List.replicate 2 un).toArray, []⟩ ∧ HA w [(q1, 5, bc (hxP s k ++ List.replicate (s.size / 2 - k) 0))] w') (s.size / 2) ?_ ?_ ?_
  · exact ⟨fun ii => (([(9, undef), (10, undef), (11, undef), (12, undef), (13, undef), (14, undef), (15, undef), (16, undef), (17, undef), (18, undef), (19, undef), (20, undef), (21, undef), (22, undef), (23, undef), (24, undef), (25, undef), (26, undef), (27, undef), (28, undef), (29, undef), (30, undef)] : List (Nat × Value)).find? (·.1 == ii)).elim undef (·.2), by kernel_rfl, h3⟩
  · rintro k hk _ w5 ⟨u4, rfl, h6⟩
    refine wp_seq ?_
    refine wp_seq ?_
    -- region 3
    refine wl_region ?_
    refine wl_val (iN .i64 k) (by kernel_rfl) (by kernel_rfl) ?_
    refine wl_val (.slice (some ⟨q1, 0, none⟩) (s.size / 2) (s.size / 2)) (by kernel_rfl) (by kernel_rfl) ?_
    refine wl_val (iN .i64 (s.size / 2)) (by kernel_rfl) (run_len28 (q := some ⟨q1, 0, none⟩) (m := s.size / 2) (c := s.size / 2) (by kernel_rfl)) ?_
    refine wl_val (.bool true) (by kernel_rfl) (run_lss (k := .i64) (a := k) (b := s.size / 2) (by kernel_rfl) (by kernel_rfl) true (decide_eq_true (by omega))) ?_
    refine wl_nil ?_
    refine then_at (F := ⟨(.string s :: un :: .string { data := #[] } :: .slice (some ⟨q1, 0, none⟩) (s.size / 2) (s.size / 2) :: iN .i64 k :: .string s :: iN .i64 s.size :: iN .i64 (s.size / 2) :: .slice (some ⟨q1, 0, none⟩) (s.size / 2) (s.size / 2) :: iN .i64 k :: .slice (some ⟨q1, 0, none⟩) (s.size / 2) (s.size / 2) :: iN .i64 (s.size / 2) :: .bool true :: u4 13 :: u4 14 :: u4 15 :: u4 16 :: u4 17 :: u4 18 :: u4 19 :: u4 20 :: u4 21 :: u4 22 :: u4 23 :: u4 24 :: u4 25 :: u4 26 :: u4 27 :: u4 28 :: u4 29 :: u4 30 :: List.replicate 2 un).toArray, []⟩) (by kernel_rfl) ?_
    refine wp_cond_true (by kernel_rfl) ?_
    refine wp_skip ?_
    refine then_at (F := ⟨(.string s :: un :: .string { data := #[] } :: .slice (some ⟨q1, 0, none⟩) (s.size / 2) (s.size / 2) :: iN .i64 k :: .string s :: iN .i64 s.size :: iN .i64 (s.size / 2) :: .slice (some ⟨q1, 0, none⟩) (s.size / 2) (s.size / 2) :: iN .i64 k :: .slice (some ⟨q1, 0, none⟩) (s.size / 2) (s.size / 2) :: iN .i64 (s.size / 2) :: .bool true :: u4 13 :: u4 14 :: u4 15 :: u4 16 :: u4 17 :: u4 18 :: u4 19 :: u4 20 :: u4 21 :: u4 22 :: u4 23 :: u4 24 :: u4 25 :: u4 26 :: u4 27 :: u4 28 :: u4 29 :: u4 30 :: List.replicate 2 un).toArray, []⟩) (by kernel_rfl) ?_
    refine wp_seq ?_
    refine wp_block ?_
    -- region 5
    refine wp_region_ghost (fun _ : Nat → Nat => (⟨(.string s :: un :: .string { data := #[] } :: .slice (some ⟨q1, 0, none⟩) (s.size / 2) (s.size / 2) :: iN .i64 k :: .string s :: iN .i64 s.size :: iN .i64 (s.size / 2) :: .slice (some ⟨q1, 0, none⟩) (s.size / 2) (s.size / 2) :: iN .i64 k :: .slice (some ⟨q1, 0, none⟩) (s.size / 2) (s.size / 2) :: iN .i64 (s.size / 2) :: .bool true :: u4 13 :: u4 14 :: .slice (some ⟨q1, 0, none⟩) (s.size / 2) (s.size / 2) :: iN .i64 k :: .string s :: iN .i64 k :: iN .i64 (2 * k) :: by8 ((bl s).getD (2 * k) 0) :: by8 (hfP ((bl s).getD (2 * k) 0)) :: by8 (UInt8.ofNat ((hfP ((bl s).getD (2 * k) 0)).toNat * 16)) :: .string s :: iN .i64 k :: iN .i64 (2 * k) :: iN .i64 ((2 * k) + 1) :: by8 ((bl s).getD ((2 * k) + 1) 0) :: by8 (hfP ((bl s).getD ((2 * k) + 1) 0)) :: by8 ((UInt8.ofNat ((hfP ((bl s).getD (2 * k) 0)).toNat * 16)) ||| (hfP ((bl s).getD ((2 * k) + 1) 0))) :: .pointer (some ⟨q1, k, none⟩) :: List.replicate 2 un).toArray, []⟩ : Act)) (GQ w [(q1, 5, bc (hxP s k ++ List.replicate (s.size / 2 - k) 0))] (fun i => ([[], [], [], [], [3], [2, 4], [5], [6], [], [], [9], [10], [8, 11], [12], [7, 13], [0, 1], [15, 14]] : List (List Nat)).getD i []) 16 0 q1 5 (bc (hxP s (k + 1) ++ List.replicate (s.size / 2 - (k + 1)) 0))) [.slice (some ⟨q1, 0, none⟩) (s.size / 2) (s.size / 2), iN .i64 k, .string s, iN .i64 k, iN .i64 (2 * k), by8 ((bl s).getD (2 * k) 0), by8 (hfP ((bl s).getD (2 * k) 0)), by8 (UInt8.ofNat ((hfP ((bl s).getD (2 * k) 0)).toNat * 16)), .string s, iN .i64 k, iN .i64 (2 * k), iN .i64 ((2 * k) + 1), by8 ((bl s).getD ((2 * k) + 1) 0), by8 (hfP ((bl s).getD ((2 * k) + 1) 0)), by8 ((UInt8.ofNat ((hfP ((bl s).getD (2 * k) 0)).toNat * 16)) ||| (hfP ((bl s).getD ((2 * k) + 1) 0))), .pointer (some ⟨q1, k, none⟩), undef] (by kernel_rfl) (by kernel_rfl) (by kernel_rfl) (by kernel_rfl) (fun _ _ _ _ h => h) (fun d hd => GQ.start h6.drew (hd 16 (by decide)) (Cl.start (n := 17) hd (by decide))) ?_ ?_
    · refine AllGhost.cons (gq_plain (v := .slice (some ⟨q1, 0, none⟩) (s.size / 2) (s.size / 2)) (by decide) (by kernel_rfl) (fun _ => by kernel_rfl) (fun _ => by kernel_rfl) (fun _ _ => (by kernel_rfl))) ?_
      refine AllGhost.cons (gq_plain (v := iN .i64 k) (by decide) (by kernel_rfl) (fun _ => by kernel_rfl) (fun _ => by kernel_rfl) (fun _ _ => (by kernel_rfl))) ?_
      refine AllGhost.cons (gq_plain (v := .string s) (by decide) (by kernel_rfl) (fun _ => by kernel_rfl) (fun _ => by kernel_rfl) (fun _ _ => (by kernel_rfl))) ?_
      refine AllGhost.cons (gq_plain (v := iN .i64 k) (by decide) (by kernel_rfl) (fun _ => by kernel_rfl) (fun _ => by kernel_rfl) (fun _ _ => (by kernel_rfl))) ?_
      refine AllGhost.cons (gq_plain (v := iN .i64 (2 * k)) (by decide) (by kernel_rfl) (fun _ => by kernel_rfl) (fun _ => by kernel_rfl) (fun _ _ => (run_mul (k := .i64) (a := 2) (b := k) (by kernel_rfl) (by kernel_rfl) (by simp only [top]; omega)))) ?_
      refine AllGhost.cons (gq_plain (v := by8 ((bl s).getD (2 * k) 0)) (by decide) (by kernel_rfl) (fun _ => by kernel_rfl) (fun _ => by kernel_rfl) (fun _ _ => (run_idx (s := s) (k := .i64) (a := 2 * k) (by kernel_rfl) (by kernel_rfl) (by omega)))) ?_
      refine AllGhost.cons (gq_call (v := by8 (hfP ((bl s).getD (2 * k) 0))) (by decide) (by kernel_rfl) (fun _ => by kernel_rfl) (fun _ => by kernel_rfl) enter26 #[by8 ((bl s).getD (2 * k) 0)] (fun _ => by kernel_rfl) (fun w' ho => halfc ((bl s).getD (2 * k) 0) w')) ?_
      refine AllGhost.cons (gq_plain (v := by8 (UInt8.ofNat ((hfP ((bl s).getD (2 * k) 0)).toNat * 16))) (by decide) (by kernel_rfl) (fun _ => by kernel_rfl) (fun _ => by kernel_rfl) (fun _ _ => (run_shlb (a := hfP ((bl s).getD (2 * k) 0)) (by kernel_rfl) (by kernel_rfl)))) ?_
      refine AllGhost.cons (gq_plain (v := .string s) (by decide) (by kernel_rfl) (fun _ => by kernel_rfl) (fun _ => by kernel_rfl) (fun _ _ => (by kernel_rfl))) ?_
      refine AllGhost.cons (gq_plain (v := iN .i64 k) (by decide) (by kernel_rfl) (fun _ => by kernel_rfl) (fun _ => by kernel_rfl) (fun _ _ => (by kernel_rfl))) ?_
      refine AllGhost.cons (gq_plain (v := iN .i64 (2 * k)) (by decide) (by kernel_rfl) (fun _ => by kernel_rfl) (fun _ => by kernel_rfl) (fun _ _ => (run_mul (k := .i64) (a := 2) (b := k) (by kernel_rfl) (by kernel_rfl) (by simp only [top]; omega)))) ?_
      refine AllGhost.cons (gq_plain (v := iN .i64 ((2 * k) + 1)) (by decide) (by kernel_rfl) (fun _ => by kernel_rfl) (fun _ => by kernel_rfl) (fun _ _ => (run_add (k := .i64) (a := 2 * k) (b := 1) (by kernel_rfl) (by kernel_rfl) (by simp only [top]; omega)))) ?_
      refine AllGhost.cons (gq_plain (v := by8 ((bl s).getD ((2 * k) + 1) 0)) (by decide) (by kernel_rfl) (fun _ => by kernel_rfl) (fun _ => by kernel_rfl) (fun _ _ => (run_idx (s := s) (k := .i64) (a := (2 * k) + 1) (by kernel_rfl) (by kernel_rfl) (by omega)))) ?_
      refine AllGhost.cons (gq_call (v := by8 (hfP ((bl s).getD ((2 * k) + 1) 0))) (by decide) (by kernel_rfl) (fun _ => by kernel_rfl) (fun _ => by kernel_rfl) enter26 #[by8 ((bl s).getD ((2 * k) + 1) 0)] (fun _ => by kernel_rfl) (fun w' ho => halfc ((bl s).getD ((2 * k) + 1) 0) w')) ?_
      refine AllGhost.cons (gq_plain (v := by8 ((UInt8.ofNat ((hfP ((bl s).getD (2 * k) 0)).toNat * 16)) ||| (hfP ((bl s).getD ((2 * k) + 1) 0)))) (by decide) (by kernel_rfl) (fun _ => by kernel_rfl) (fun _ => by kernel_rfl) (fun _ _ => (run_orb (a := UInt8.ofNat ((hfP ((bl s).getD (2 * k) 0)).toNat * 16)) (b := hfP ((bl s).getD ((2 * k) + 1) 0)) (by kernel_rfl) (by kernel_rfl)))) ?_
      refine AllGhost.cons (gq_plain (v := .pointer (some ⟨q1, k, none⟩)) (by decide) (by kernel_rfl) (fun _ => by kernel_rfl) (fun _ => by kernel_rfl) (fun _ _ => (run_addr_slice (q := q1) (n := s.size / 2) (m := s.size / 2) (a := k) Tryd.underlying31 (fun w => Tryd.sizeOf5 w) (by kernel_rfl) (by kernel_rfl) (by omega)))) ?_
      refine AllGhost.cons (gq_put (k := .u8) (z := ((((UInt8.ofNat ((hfP ((bl s).getD (2 * k) 0)).toNat * 16)) ||| (hfP ((bl s).getD ((2 * k) + 1) 0))).toNat : Nat) : Int)) (off := k) rfl (by rw [bc_size, (hxr_len s k (s.size / 2) (by omega))]; omega) ((padb_put (hxP s k) (s.size / 2 - k) (s.size / 2 - (k + 1)) k ((UInt8.ofNat ((hfP ((bl s).getD (2 * k) 0)).toNat * 16)) ||| (hfP ((bl s).getD ((2 * k) + 1) 0))) (hxP_len s k) (by omega))) (fun w => Tryd.sizeOf5 w) (by kernel_rfl) (fun _ => by kernel_rfl) (fun _ => by kernel_rfl) (fun _ => by kernel_rfl) (fun _ => by kernel_rfl)) ?_
      exact AllGhost.nil
    intro _ w7 g8
    have h9 : HA w [(q1, 5, bc (hxP s (k + 1) ++ List.replicate (s.size / 2 - (k + 1)) 0))] w7 := g8.held
    clear g8
    refine block_normal ?_
    refine then_at (F := ⟨(.string s :: un :: .string { data := #[] } :: .slice (some ⟨q1, 0, none⟩) (s.size / 2) (s.size / 2) :: iN .i64 k :: .string s :: iN .i64 s.size :: iN .i64 (s.size / 2) :: .slice (some ⟨q1, 0, none⟩) (s.size / 2) (s.size / 2) :: iN .i64 k :: .slice (some ⟨q1, 0, none⟩) (s.size / 2) (s.size / 2) :: iN .i64 (s.size / 2) :: .bool true :: u4 13 :: u4 14 :: .slice (some ⟨q1, 0, none⟩) (s.size / 2) (s.size / 2) :: iN .i64 k :: .string s :: iN .i64 k :: iN .i64 (2 * k) :: by8 ((bl s).getD (2 * k) 0) :: by8 (hfP ((bl s).getD (2 * k) 0)) :: by8 (UInt8.ofNat ((hfP ((bl s).getD (2 * k) 0)).toNat * 16)) :: .string s :: iN .i64 k :: iN .i64 (2 * k) :: iN .i64 ((2 * k) + 1) :: by8 ((bl s).getD ((2 * k) + 1) 0) :: by8 (hfP ((bl s).getD ((2 * k) + 1) 0)) :: by8 ((UInt8.ofNat ((hfP ((bl s).getD (2 * k) 0)).toNat * 16)) ||| (hfP ((bl s).getD ((2 * k) + 1) 0))) :: .pointer (some ⟨q1, k, none⟩) :: List.replicate 2 un).toArray, []⟩) (by kernel_rfl) ?_
    -- region 4
    refine wl_region ?_
    refine wl_val (iN .i64 k) (by kernel_rfl) (by kernel_rfl) ?_
    refine wl_val (iN .i64 (k + 1)) (by kernel_rfl) (run_add (k := .i64) (a := k) (b := 1) (by kernel_rfl) (by kernel_rfl) (by simp only [top]; omega)) ?_
    refine wl_val (iN .i64 (k + 1)) (by kernel_rfl) (by kernel_rfl) ?_
    refine wl_nil ?_
    exact then_I ⟨fun ii => (([(9, iN .i64 k), (10, .slice (some ⟨q1, 0, none⟩) (s.size / 2) (s.size / 2)), (11, iN .i64 (s.size / 2)), (12, .bool true), (13, iN .i64 k), (14, iN .i64 (k + 1)), (15, .slice (some ⟨q1, 0, none⟩) (s.size / 2) (s.size / 2)), (16, iN .i64 k), (17, .string s), (18, iN .i64 k), (19, iN .i64 (2 * k)), (20, by8 ((bl s).getD (2 * k) 0)), (21, by8 (hfP ((bl s).getD (2 * k) 0))), (22, by8 (UInt8.ofNat ((hfP ((bl s).getD (2 * k) 0)).toNat * 16))), (23, .string s), (24, iN .i64 k), (25, iN .i64 (2 * k)), (26, iN .i64 ((2 * k) + 1)), (27, by8 ((bl s).getD ((2 * k) + 1) 0)), (28, by8 (hfP ((bl s).getD ((2 * k) + 1) 0))), (29, by8 ((UInt8.ofNat ((hfP ((bl s).getD (2 * k) 0)).toNat * 16)) ||| (hfP ((bl s).getD ((2 * k) + 1) 0)))), (30, .pointer (some ⟨q1, k, none⟩))] : List (Nat × Value)).find? (·.1 == ii)).elim undef (·.2), by kernel_rfl, h9⟩
  · rintro _ w10 ⟨u4, rfl, h11⟩
    refine wp_seq ?_
    refine wp_seq ?_
    -- region 3
    refine wl_region ?_
    refine wl_val (iN .i64 (s.size / 2)) (by kernel_rfl) (by kernel_rfl) ?_
    refine wl_val (.slice (some ⟨q1, 0, none⟩) (s.size / 2) (s.size / 2)) (by kernel_rfl) (by kernel_rfl) ?_
    refine wl_val (iN .i64 (s.size / 2)) (by kernel_rfl) (run_len28 (q := some ⟨q1, 0, none⟩) (m := s.size / 2) (c := s.size / 2) (by kernel_rfl)) ?_
    refine wl_val (.bool false) (by kernel_rfl) (run_lss (k := .i64) (a := s.size / 2) (b := s.size / 2) (by kernel_rfl) (by kernel_rfl) false (decide_eq_false (by omega))) ?_
    refine wl_nil ?_
    refine then_at (F := ⟨(.string s :: un :: .string { data := #[] } :: .slice (some ⟨q1, 0, none⟩) (s.size / 2) (s.size / 2) :: iN .i64 (s.size / 2) :: .string s :: iN .i64 s.size :: iN .i64 (s.size / 2) :: .slice (some ⟨q1, 0, none⟩) (s.size / 2) (s.size / 2) :: iN .i64 (s.size / 2) :: .slice (some ⟨q1, 0, none⟩) (s.size / 2) (s.size / 2) :: iN .i64 (s.size / 2) :: .bool false :: u4 13 :: u4 14 :: u4 15 :: u4 16 :: u4 17 :: u4 18 :: u4 19 :: u4 20 :: u4 21 :: u4 22 :: u4 23 :: u4 24 :: u4 25 :: u4 26 :: u4 27 :: u4 28 :: u4 29 :: u4 30 :: List.replicate 2 un).toArray, []⟩) (by kernel_rfl) ?_
    refine wp_cond_false (by kernel_rfl) ?_
    refine wp_exit ?_
    repeat first | refine then_exit ?_ | refine block_exit ?_ | refine block_exit_ne (by decide) ?_
    refine then_at (F := ⟨(.string s :: un :: .string { data := #[] } :: .slice (some ⟨q1, 0, none⟩) (s.size / 2) (s.size / 2) :: iN .i64 (s.size / 2) :: .string s :: iN .i64 s.size :: iN .i64 (s.size / 2) :: .slice (some ⟨q1, 0, none⟩) (s.size / 2) (s.size / 2) :: iN .i64 (s.size / 2) :: .slice (some ⟨q1, 0, none⟩) (s.size / 2) (s.size / 2) :: iN .i64 (s.size / 2) :: .bool false :: u4 13 :: u4 14 :: u4 15 :: u4 16 :: u4 17 :: u4 18 :: u4 19 :: u4 20 :: u4 21 :: u4 22 :: u4 23 :: u4 24 :: u4 25 :: u4 26 :: u4 27 :: u4 28 :: u4 29 :: u4 30 :: List.replicate 2 un).toArray, []⟩) (by kernel_rfl) ?_
    refine wp_seq ?_
    -- region 6
    refine wl_region ?_
    refine wl_val (.slice (some ⟨q1, 0, none⟩) (s.size / 2) (s.size / 2)) (by kernel_rfl) (by kernel_rfl) ?_
    refine wl_val (.string (⟨((hxP s (s.size / 2) ++ List.replicate (s.size / 2 - (s.size / 2)) 0).take (s.size / 2)).toArray⟩)) (by kernel_rfl) (run_textg (q := q1) (m := s.size / 2) (c := s.size / 2) (l := hxP s (s.size / 2) ++ List.replicate (s.size / 2 - (s.size / 2)) 0) (by kernel_rfl) (h11.get 0 rfl) (by rw [(hxr_len s (s.size / 2) (s.size / 2) (by omega))]; omega)) ?_
    refine wl_val (.string (⟨((hxP s (s.size / 2) ++ List.replicate (s.size / 2 - (s.size / 2)) 0).take (s.size / 2)).toArray⟩)) (by kernel_rfl) (by kernel_rfl) ?_
    refine wl_nil ?_
    refine then_at (F := ⟨(.string s :: un :: .string (⟨((hxP s (s.size / 2) ++ List.replicate (s.size / 2 - (s.size / 2)) 0).take (s.size / 2)).toArray⟩) :: .slice (some ⟨q1, 0, none⟩) (s.size / 2) (s.size / 2) :: iN .i64 (s.size / 2) :: .string s :: iN .i64 s.size :: iN .i64 (s.size / 2) :: .slice (some ⟨q1, 0, none⟩) (s.size / 2) (s.size / 2) :: iN .i64 (s.size / 2) :: .slice (some ⟨q1, 0, none⟩) (s.size / 2) (s.size / 2) :: iN .i64 (s.size / 2) :: .bool false :: u4 13 :: u4 14 :: u4 15 :: u4 16 :: u4 17 :: u4 18 :: u4 19 :: u4 20 :: u4 21 :: u4 22 :: u4 23 :: u4 24 :: u4 25 :: u4 26 :: u4 27 :: u4 28 :: u4 29 :: u4 30 :: .slice (some ⟨q1, 0, none⟩) (s.size / 2) (s.size / 2) :: .string (⟨((hxP s (s.size / 2) ++ List.replicate (s.size / 2 - (s.size / 2)) 0).take (s.size / 2)).toArray⟩) :: List.replicate 0 un).toArray, []⟩) (by kernel_rfl) ?_
    refine wp_ret ?_
    repeat first | refine then_ret ?_ | refine block_ret ?_
    exact bodyPost_ret (v := .string (⟨((hxP s (s.size / 2) ++ List.replicate (s.size / 2 - (s.size / 2)) 0).take (s.size / 2)).toArray⟩)) (by kernel_rfl) rfl ⟨by rw [pad_end (hxP s (s.size / 2)) _ _ (hxP_len s _) rfl], h11.old⟩

set_option linter.unusedVariables false in
set_option maxRecDepth 100000 in
set_option maxHeartbeats 2000000 in
theorem timesc (c : UInt8) (n : Nat) (hn : n ≤ 100000) (w : World) :
    Calls Tryd.prog 19 #[by8 c, iN .i64 n] w fun e w' => e = .returned (.string ⟨(List.replicate n c).toArray⟩) ∧ Below w.heap.size w w' := by
  have H0 := HA.start w
  go_enter Tryd.func19, Tryd.ntmps19
  refine wp_seq ?_
  -- region 0
  refine wl_region ?_
  refine wl_val (.string { data := #[] }) (by kernel_rfl) (by kernel_rfl) ?_
  refine wl_nil ?_
  refine then_at (F := ⟨(by8 c :: iN .i64 n :: un :: un :: .string { data := #[] } :: List.replicate 15 un).toArray, []⟩) (by kernel_rfl) ?_
  refine wp_seq ?_
  -- region 1
  refine wl_region ?_
  refine wl_val (iN .i64 n) (by kernel_rfl) (by kernel_rfl) ?_
  refine wl_mks (n := n) (m := n) H0 5 (by kernel_rfl) (run_mk (k := .i64) (m := n) (c := n) (by kernel_rfl) (by kernel_rfl) (by omega) (by omega)) ?_
  intro q1 w2 h3
  refine wl_val (.slice (some ⟨q1, 0, none⟩) n n) (by kernel_rfl) (by kernel_rfl) ?_
  refine wl_nil ?_
  refine then_at (F := ⟨(by8 c :: iN .i64 n :: un :: un :: .string { data := #[] } :: .slice (some ⟨q1, 0, none⟩) n n :: un :: iN .i64 n :: .slice (some ⟨q1, 0, none⟩) n n :: List.replicate 11 un).toArray, []⟩) (by kernel_rfl) ?_
  refine wp_seq ?_
  refine wp_seq ?_
  -- region 2
  refine wl_region ?_
  refine wl_val (iN .i64 0) (by kernel_rfl) (by kernel_rfl) ?_
  refine wl_nil ?_
  refine then_at (F := ⟨(by8 c :: iN .i64 n :: un :: un :: .string { data := #[] } :: .slice (some ⟨q1, 0, none⟩) n n :: iN .i64 0 :: iN .i64 n :: .slice (some ⟨q1, 0, none⟩) n n :: List.replicate 11 un).toArray, []⟩) (by kernel_rfl) ?_
  refine wp_block ?_
  refine wp_count (fun k A w' => ∃ u4 : Nat → Value, A = ⟨(by8 c :: iN .i64 n :: un :: un :: .string { data := #[] } :: .slice (some ⟨q1, 0, none⟩) n n :: iN .i64 k :: iN .i64 n :: .slice (some ⟨q1, 0, none⟩) n n :: u4 9 :: u4 10 :: u4 11 :: u4 12 :: u4 13 :: u4 14 :: u4 15 :: u4 16 :: u4 17 :: List.replicate 2 un).toArray, []⟩ ∧ HA w [(q1, 5, bc (List.replicate k c ++ List.replicate (n - k) 0))] w') n ?_ ?_ ?_
  · exact ⟨fun ii => (([(9, undef), (10, undef), (11, undef), (12, undef), (13, undef), (14, undef), (15, undef), (16, undef), (17, undef)] : List (Nat × Value)).find? (·.1 == ii)).elim undef (·.2), by kernel_rfl, h3⟩
  · rintro k hk _ w5 ⟨u4, rfl, h6⟩
    refine wp_seq ?_
    refine wp_seq ?_
    -- region 3
    refine wl_region ?_
    refine wl_val (iN .i64 k) (by kernel_rfl) (by kernel_rfl) ?_
    refine wl_val (iN .i64 n) (by kernel_rfl) (by kernel_rfl) ?_
    refine wl_val (.bool true) (by kernel_rfl) (run_lss (k := .i64) (a := k) (b := n) (by kernel_rfl) (by kernel_rfl) true (decide_eq_true (by omega))) ?_
    refine wl_nil ?_
    refine then_at (F := ⟨(by8 c :: iN .i64 n :: un :: un :: .string { data := #[] } :: .slice (some ⟨q1, 0, none⟩) n n :: iN .i64 k :: iN .i64 n :: .slice (some ⟨q1, 0, none⟩) n n :: iN .i64 k :: iN .i64 n :: .bool true :: u4 12 :: u4 13 :: u4 14 :: u4 15 :: u4 16 :: u4 17 :: List.replicate 2 un).toArray, []⟩) (by kernel_rfl) ?_
    refine wp_cond_true (by kernel_rfl) ?_
    refine wp_skip ?_
    refine then_at (F := ⟨(by8 c :: iN .i64 n :: un :: un :: .string { data := #[] } :: .slice (some ⟨q1, 0, none⟩) n n :: iN .i64 k :: iN .i64 n :: .slice (some ⟨q1, 0, none⟩) n n :: iN .i64 k :: iN .i64 n :: .bool true :: u4 12 :: u4 13 :: u4 14 :: u4 15 :: u4 16 :: u4 17 :: List.replicate 2 un).toArray, []⟩) (by kernel_rfl) ?_
    refine wp_seq ?_
    refine wp_block ?_
    -- region 5
    refine wl_region ?_
    refine wl_val (.slice (some ⟨q1, 0, none⟩) n n) (by kernel_rfl) (by kernel_rfl) ?_
    refine wl_val (iN .i64 k) (by kernel_rfl) (by kernel_rfl) ?_
    refine wl_val (by8 c) (by kernel_rfl) (by kernel_rfl) ?_
    refine wl_val (.pointer (some ⟨q1, k, none⟩)) (by kernel_rfl) (run_addr_slice (q := q1) (n := n) (m := n) (a := k) Tryd.underlying31 (fun w => Tryd.sizeOf5 w) (by kernel_rfl) (by kernel_rfl) (by omega)) ?_
    refine wl_put (k := .u8) (z := ((c.toNat : Nat) : Int)) h6 0 rfl k (by rw [bc_size, (tmr_len c k n (by omega))]; omega) (by kernel_rfl) (fun w => Tryd.sizeOf5 w) (by kernel_rfl) (by kernel_rfl) ?_
    intro w7 h8
    have h9 : HA w [(q1, 5, bc (List.replicate (k + 1) c ++ List.replicate (n - (k + 1)) 0))] w7 := by
      have e : (bc (List.replicate k c ++ List.replicate (n - k) 0)).setIfInBounds k (.int .u8 ((c.toNat : Nat) : Int)) = bc (List.replicate (k + 1) c ++ List.replicate (n - (k + 1)) 0) := (by rw [show List.replicate (k + 1) c = List.replicate k c ++ [c] from List.replicate_succ']; exact padb_put (List.replicate k c) (n - k) (n - (k + 1)) k c List.length_replicate (by omega))
      rw [← e]; exact h8
    clear h8
    refine wl_nil ?_
    refine block_normal ?_
    refine then_at (F := ⟨(by8 c :: iN .i64 n :: un :: un :: .string { data := #[] } :: .slice (some ⟨q1, 0, none⟩) n n :: iN .i64 k :: iN .i64 n :: .slice (some ⟨q1, 0, none⟩) n n :: iN .i64 k :: iN .i64 n :: .bool true :: u4 12 :: u4 13 :: .slice (some ⟨q1, 0, none⟩) n n :: iN .i64 k :: by8 c :: .pointer (some ⟨q1, k, none⟩) :: List.replicate 2 un).toArray, []⟩) (by kernel_rfl) ?_
    -- region 4
    refine wl_region ?_
    refine wl_val (iN .i64 k) (by kernel_rfl) (by kernel_rfl) ?_
    refine wl_val (iN .i64 (k + 1)) (by kernel_rfl) (run_add (k := .i64) (a := k) (b := 1) (by kernel_rfl) (by kernel_rfl) (by simp only [top]; omega)) ?_
    refine wl_val (iN .i64 (k + 1)) (by kernel_rfl) (by kernel_rfl) ?_
    refine wl_nil ?_
    exact then_I ⟨fun ii => (([(9, iN .i64 k), (10, iN .i64 n), (11, .bool true), (12, iN .i64 k), (13, iN .i64 (k + 1)), (14, .slice (some ⟨q1, 0, none⟩) n n), (15, iN .i64 k), (16, by8 c), (17, .pointer (some ⟨q1, k, none⟩))] : List (Nat × Value)).find? (·.1 == ii)).elim undef (·.2), by kernel_rfl, h9⟩
  · rintro _ w10 ⟨u4, rfl, h11⟩
    refine wp_seq ?_
    refine wp_seq ?_
    -- region 3
    refine wl_region ?_
    refine wl_val (iN .i64 n) (by kernel_rfl) (by kernel_rfl) ?_
    refine wl_val (iN .i64 n) (by kernel_rfl) (by kernel_rfl) ?_
    refine wl_val (.bool false) (by kernel_rfl) (run_lss (k := .i64) (a := n) (b := n) (by kernel_rfl) (by kernel_rfl) false (decide_eq_false (by omega))) ?_
    refine wl_nil ?_
    refine then_at (F := ⟨(by8 c :: iN .i64 n :: un :: un :: .string { data := #[] } :: .slice (some ⟨q1, 0, none⟩) n n :: iN .i64 n :: iN .i64 n :: .slice (some ⟨q1, 0, none⟩) n n :: iN .i64 n :: iN .i64 n :: .bool false :: u4 12 :: u4 13 :: u4 14 :: u4 15 :: u4 16 :: u4 17 :: List.replicate 2 un).toArray, []⟩) (by kernel_rfl) ?_
    refine wp_cond_false (by kernel_rfl) ?_
    refine wp_exit ?_
    repeat first | refine then_exit ?_ | refine block_exit ?_ | refine block_exit_ne (by decide) ?_
    refine then_at (F := ⟨(by8 c :: iN .i64 n :: un :: un :: .string { data := #[] } :: .slice (some ⟨q1, 0, none⟩) n n :: iN .i64 n :: iN .i64 n :: .slice (some ⟨q1, 0, none⟩) n n :: iN .i64 n :: iN .i64 n :: .bool false :: u4 12 :: u4 13 :: u4 14 :: u4 15 :: u4 16 :: u4 17 :: List.replicate 2 un).toArray, []⟩) (by kernel_rfl) ?_
    refine wp_seq ?_
    -- region 6
    refine wl_region ?_
    refine wl_val (.slice (some ⟨q1, 0, none⟩) n n) (by kernel_rfl) (by kernel_rfl) ?_
    refine wl_val (.string (⟨((List.replicate n c ++ List.replicate (n - n) 0).take n).toArray⟩)) (by kernel_rfl) (run_textg (q := q1) (m := n) (c := n) (l := List.replicate n c ++ List.replicate (n - n) 0) (by kernel_rfl) (h11.get 0 rfl) (by rw [(tmr_len c n n (by omega))]; omega)) ?_
    refine wl_val (.string (⟨((List.replicate n c ++ List.replicate (n - n) 0).take n).toArray⟩)) (by kernel_rfl) (by kernel_rfl) ?_
    refine wl_nil ?_
    refine then_at (F := ⟨(by8 c :: iN .i64 n :: un :: un :: .string (⟨((List.replicate n c ++ List.replicate (n - n) 0).take n).toArray⟩) :: .slice (some ⟨q1, 0, none⟩) n n :: iN .i64 n :: iN .i64 n :: .slice (some ⟨q1, 0, none⟩) n n :: iN .i64 n :: iN .i64 n :: .bool false :: u4 12 :: u4 13 :: u4 14 :: u4 15 :: u4 16 :: u4 17 :: .slice (some ⟨q1, 0, none⟩) n n :: .string (⟨((List.replicate n c ++ List.replicate (n - n) 0).take n).toArray⟩) :: List.replicate 0 un).toArray, []⟩) (by kernel_rfl) ?_
    refine wp_ret ?_
    repeat first | refine then_ret ?_ | refine block_ret ?_
    exact bodyPost_ret (v := .string (⟨((List.replicate n c ++ List.replicate (n - n) 0).take n).toArray⟩)) (by kernel_rfl) rfl ⟨by rw [pad_end (List.replicate n c) _ _ List.length_replicate rfl], h11.old⟩

set_option linter.unusedVariables false in
set_option maxRecDepth 100000 in
set_option maxHeartbeats 2000000 in
theorem equalc (a b : ByteArray) (ha : a.size ≤ 2251799813685248) (hb : b.size ≤ 2251799813685248) (w : World) :
    Calls Tryd.prog 17 #[.string a, .string b] w fun e w' => e = .returned (.bool (decide (a = b))) ∧ Below w.heap.size w w' := by
  have H0 := HA.start w
  go_enter Tryd.func17, Tryd.ntmps17
  refine wp_seq ?_
  -- region 0
  refine wl_region ?_
  refine wl_val (.bool false) (by kernel_rfl) (by kernel_rfl) ?_
  refine wl_nil ?_
  refine then_at (F := ⟨(.string a :: .string b :: un :: un :: .bool false :: List.replicate 24 un).toArray, []⟩) (by kernel_rfl) ?_
  refine wp_seq ?_
  refine wp_seq ?_
  by_cases hc : a.size = b.size
  · -- region 1
    refine wl_region ?_
    refine wl_val (.string a) (by kernel_rfl) (by kernel_rfl) ?_
    refine wl_val (iN .i64 a.size) (by kernel_rfl) (run_len (s := a) (by kernel_rfl)) ?_
    refine wl_val (.string b) (by kernel_rfl) (by kernel_rfl) ?_
    refine wl_val (iN .i64 b.size) (by kernel_rfl) (run_len (s := b) (by kernel_rfl)) ?_
    refine wl_val (.bool false) (by kernel_rfl) (run_nei (k := .i64) (a := a.size) (b := b.size) (by kernel_rfl) (by kernel_rfl) false (decide_eq_false (not_not_intro hc))) ?_
    refine wl_nil ?_
    refine then_at (F := ⟨(.string a :: .string b :: un :: un :: .bool false :: un :: un :: .string a :: iN .i64 a.size :: .string b :: iN .i64 b.size :: .bool false :: List.replicate 17 un).toArray, []⟩) (by kernel_rfl) ?_
    refine wp_cond_false (by kernel_rfl) ?_
    refine wp_skip ?_
    refine then_at (F := ⟨(.string a :: .string b :: un :: un :: .bool false :: un :: un :: .string a :: iN .i64 a.size :: .string b :: iN .i64 b.size :: .bool false :: List.replicate 17 un).toArray, []⟩) (by kernel_rfl) ?_
    refine wp_seq ?_
    -- region 3
    refine wl_region ?_
    refine wl_val (by8 0) (by kernel_rfl) (by kernel_rfl) ?_
    refine wl_nil ?_
    refine then_at (F := ⟨(.string a :: .string b :: un :: un :: .bool false :: by8 0 :: un :: .string a :: iN .i64 a.size :: .string b :: iN .i64 b.size :: .bool false :: List.replicate 17 un).toArray, []⟩) (by kernel_rfl) ?_
    refine wp_seq ?_
    refine wp_seq ?_
    -- region 4
    refine wl_region ?_
    refine wl_val (.string a) (by kernel_rfl) (by kernel_rfl) ?_
    refine wl_val (iN .i64 a.size) (by kernel_rfl) (run_len (s := a) (by kernel_rfl)) ?_
    refine wl_val (iN .i64 0) (by kernel_rfl) (by kernel_rfl) ?_
    refine wl_nil ?_
    refine then_at (F := ⟨(.string a :: .string b :: un :: un :: .bool false :: by8 0 :: un :: .string a :: iN .i64 a.size :: .string b :: iN .i64 b.size :: .bool false :: .string a :: iN .i64 a.size :: iN .i64 0 :: List.replicate 14 un).toArray, []⟩) (by kernel_rfl) ?_
    refine wp_block ?_
    refine wp_count (fun k A w' => ∃ u1 : Nat → Value, A = ⟨(.string a :: .string b :: un :: un :: .bool false :: by8 (dfP a b k) :: u1 6 :: .string a :: iN .i64 a.size :: .string b :: iN .i64 b.size :: .bool false :: .string a :: iN .i64 a.size :: iN .i64 k :: u1 15 :: u1 16 :: u1 17 :: u1 18 :: u1 19 :: u1 20 :: u1 21 :: u1 22 :: u1 23 :: u1 24 :: u1 25 :: u1 26 :: List.replicate 2 un).toArray, []⟩ ∧ HA w [] w') a.size ?_ ?_ ?_
    · exact ⟨fun ii => (([(6, undef), (15, undef), (16, undef), (17, undef), (18, undef), (19, undef), (20, undef), (21, undef), (22, undef), (23, undef), (24, undef), (25, undef), (26, undef)] : List (Nat × Value)).find? (·.1 == ii)).elim undef (·.2), by kernel_rfl, H0⟩
    · rintro k hk _ w2 ⟨u1, rfl, h3⟩
      refine wp_seq ?_
      -- region 5
      refine wl_region ?_
      refine wl_val (.bool true) (by kernel_rfl) (run_lss (k := .i64) (a := k) (b := a.size) (by kernel_rfl) (by kernel_rfl) true (decide_eq_true (by omega))) ?_
      refine wl_nil ?_
      refine then_at (F := ⟨(.string a :: .string b :: un :: un :: .bool false :: by8 (dfP a b k) :: u1 6 :: .string a :: iN .i64 a.size :: .string b :: iN .i64 b.size :: .bool false :: .string a :: iN .i64 a.size :: iN .i64 k :: .bool true :: u1 16 :: u1 17 :: u1 18 :: u1 19 :: u1 20 :: u1 21 :: u1 22 :: u1 23 :: u1 24 :: u1 25 :: u1 26 :: List.replicate 2 un).toArray, []⟩) (by kernel_rfl) ?_
      refine wp_seq ?_
      refine wp_cond_true (by kernel_rfl) ?_
      refine wp_skip ?_
      refine then_at (F := ⟨(.string a :: .string b :: un :: un :: .bool false :: by8 (dfP a b k) :: u1 6 :: .string a :: iN .i64 a.size :: .string b :: iN .i64 b.size :: .bool false :: .string a :: iN .i64 a.size :: iN .i64 k :: .bool true :: u1 16 :: u1 17 :: u1 18 :: u1 19 :: u1 20 :: u1 21 :: u1 22 :: u1 23 :: u1 24 :: u1 25 :: u1 26 :: List.replicate 2 un).toArray, []⟩) (by kernel_rfl) ?_
      refine wp_seq ?_
      refine wp_block ?_
      refine wp_seq ?_
      -- region 6
      refine wl_region ?_
      refine wl_val (iN .i64 k) (by kernel_rfl) (by kernel_rfl) ?_
      refine wl_val (iN .i64 k) (by kernel_rfl) (by kernel_rfl) ?_
      refine wl_nil ?_
      refine then_at (F := ⟨(.string a :: .string b :: un :: un :: .bool false :: by8 (dfP a b k) :: iN .i64 k :: .string a :: iN .i64 a.size :: .string b :: iN .i64 b.size :: .bool false :: .string a :: iN .i64 a.size :: iN .i64 k :: .bool true :: iN .i64 k :: u1 17 :: u1 18 :: u1 19 :: u1 20 :: u1 21 :: u1 22 :: u1 23 :: u1 24 :: u1 25 :: u1 26 :: List.replicate 2 un).toArray, []⟩) (by kernel_rfl) ?_
      -- region 7
      refine wp_region_old [0] (fun _ : Nat → Nat => (⟨(.string a :: .string b :: un :: un :: .bool false :: by8 ((dfP a b k) ||| (((bl a).getD (k) 0) ^^^ ((bl b).getD (k) 0))) :: iN .i64 k :: .string a :: iN .i64 a.size :: .string b :: iN .i64 b.size :: .bool false :: .string a :: iN .i64 a.size :: iN .i64 k :: .bool true :: iN .i64 k :: by8 (dfP a b k) :: .string a :: iN .i64 k :: by8 ((bl a).getD (k) 0) :: .string b :: iN .i64 k :: by8 ((bl b).getD (k) 0) :: by8 (((bl a).getD (k) 0) ^^^ ((bl b).getD (k) 0)) :: by8 ((dfP a b k) ||| (((bl a).getD (k) 0) ^^^ ((bl b).getD (k) 0))) :: u1 26 :: List.replicate 2 un).toArray, []⟩ : Act)) (GM w [] []) [by8 (dfP a b k), .string a, iN .i64 k, by8 ((bl a).getD (k) 0), .string b, iN .i64 k, by8 ((bl b).getD (k) 0), by8 (((bl a).getD (k) 0) ^^^ ((bl b).getD (k) 0)), by8 ((dfP a b k) ||| (((bl a).getD (k) 0) ^^^ ((bl b).getD (k) 0))), by8 ((dfP a b k) ||| (((bl a).getD (k) 0) ^^^ ((bl b).getD (k) 0)))] (by kernel_rfl) (by kernel_rfl) (by kernel_rfl) (by kernel_rfl) (fun _ _ _ _ h => h) (fun d hd => GM.start h3.drew 10 (by kernel_rfl) hd) ?_ ?_
      · refine AllGhost2.was (by kernel_rfl) (fun _ => by kernel_rfl) (fun _ _ w h => h.call (by kernel_rfl) (Below.refl _ w)) ?_
        refine AllGhost2.cons (by kernel_rfl) (gm_plain' (v := .string a) (by kernel_rfl) (fun _ => by kernel_rfl) (fun _ => by kernel_rfl) (fun _ _ => (by kernel_rfl))) ?_
        refine AllGhost2.cons (by kernel_rfl) (gm_plain' (v := iN .i64 k) (by kernel_rfl) (fun _ => by kernel_rfl) (fun _ => by kernel_rfl) (fun _ _ => (by kernel_rfl))) ?_
        refine AllGhost2.cons (by kernel_rfl) (gm_plain' (v := by8 ((bl a).getD (k) 0)) (by kernel_rfl) (fun _ => by kernel_rfl) (fun _ => by kernel_rfl) (fun _ _ => (run_idx (s := a) (k := .i64) (a := k) (by kernel_rfl) (by kernel_rfl) (by omega)))) ?_
        refine AllGhost2.cons (by kernel_rfl) (gm_plain' (v := .string b) (by kernel_rfl) (fun _ => by kernel_rfl) (fun _ => by kernel_rfl) (fun _ _ => (by kernel_rfl))) ?_
        refine AllGhost2.cons (by kernel_rfl) (gm_plain' (v := iN .i64 k) (by kernel_rfl) (fun _ => by kernel_rfl) (fun _ => by kernel_rfl) (fun _ _ => (by kernel_rfl))) ?_
        refine AllGhost2.cons (by kernel_rfl) (gm_plain' (v := by8 ((bl b).getD (k) 0)) (by kernel_rfl) (fun _ => by kernel_rfl) (fun _ => by kernel_rfl) (fun _ _ => (run_idx (s := b) (k := .i64) (a := k) (by kernel_rfl) (by kernel_rfl) (by omega)))) ?_
        refine AllGhost2.cons (by kernel_rfl) (gm_plain' (v := by8 (((bl a).getD (k) 0) ^^^ ((bl b).getD (k) 0))) (by kernel_rfl) (fun _ => by kernel_rfl) (fun _ => by kernel_rfl) (fun _ _ => (run_xorb (a := (bl a).getD (k) 0) (b := (bl b).getD (k) 0) (by kernel_rfl) (by kernel_rfl)))) ?_
        refine AllGhost2.cons (by kernel_rfl) (gm_plain' (v := by8 ((dfP a b k) ||| (((bl a).getD (k) 0) ^^^ ((bl b).getD (k) 0)))) (by kernel_rfl) (fun _ => by kernel_rfl) (fun _ => by kernel_rfl) (fun _ _ => (run_orb (a := dfP a b k) (b := ((bl a).getD (k) 0) ^^^ ((bl b).getD (k) 0)) (by kernel_rfl) (by kernel_rfl)))) ?_
        refine AllGhost2.cons (by kernel_rfl) (gm_plain' (v := by8 ((dfP a b k) ||| (((bl a).getD (k) 0) ^^^ ((bl b).getD (k) 0)))) (by kernel_rfl) (fun _ => by kernel_rfl) (fun _ => by kernel_rfl) (fun _ _ => (by kernel_rfl))) ?_
        exact AllGhost2.nil
      intro _ w4 g5
      have h6 := g5.held
      clear g5
      refine block_normal ?_
      refine then_at (F := ⟨(.string a :: .string b :: un :: un :: .bool false :: by8 ((dfP a b k) ||| (((bl a).getD (k) 0) ^^^ ((bl b).getD (k) 0))) :: iN .i64 k :: .string a :: iN .i64 a.size :: .string b :: iN .i64 b.size :: .bool false :: .string a :: iN .i64 a.size :: iN .i64 k :: .bool true :: iN .i64 k :: by8 (dfP a b k) :: .string a :: iN .i64 k :: by8 ((bl a).getD (k) 0) :: .string b :: iN .i64 k :: by8 ((bl b).getD (k) 0) :: by8 (((bl a).getD (k) 0) ^^^ ((bl b).getD (k) 0)) :: by8 ((dfP a b k) ||| (((bl a).getD (k) 0) ^^^ ((bl b).getD (k) 0))) :: u1 26 :: List.replicate 2 un).toArray, []⟩) (by kernel_rfl) ?_
      -- region 8
      refine wl_region ?_
      refine wl_val (iN .i64 (k + 1)) (by kernel_rfl) (run_add (k := .i64) (a := k) (b := 1) (by kernel_rfl) (by kernel_rfl) (by simp only [top]; omega)) ?_
      refine wl_val (iN .i64 (k + 1)) (by kernel_rfl) (by kernel_rfl) ?_
      refine wl_nil ?_
      exact then_I ⟨fun ii => (([(6, iN .i64 k), (15, .bool true), (16, iN .i64 k), (17, by8 (dfP a b k)), (18, .string a), (19, iN .i64 k), (20, by8 ((bl a).getD (k) 0)), (21, .string b), (22, iN .i64 k), (23, by8 ((bl b).getD (k) 0)), (24, by8 (((bl a).getD (k) 0) ^^^ ((bl b).getD (k) 0))), (25, by8 ((dfP a b k) ||| (((bl a).getD (k) 0) ^^^ ((bl b).getD (k) 0)))), (26, iN .i64 (k + 1))] : List (Nat × Value)).find? (·.1 == ii)).elim undef (·.2), by kernel_rfl, h6⟩
    · rintro _ w7 ⟨u1, rfl, h8⟩
      refine wp_seq ?_
      -- region 5
      refine wl_region ?_
      refine wl_val (.bool false) (by kernel_rfl) (run_lss (k := .i64) (a := a.size) (b := a.size) (by kernel_rfl) (by kernel_rfl) false (decide_eq_false (by omega))) ?_
      refine wl_nil ?_
      refine then_at (F := ⟨(.string a :: .string b :: un :: un :: .bool false :: by8 (dfP a b a.size) :: u1 6 :: .string a :: iN .i64 a.size :: .string b :: iN .i64 b.size :: .bool false :: .string a :: iN .i64 a.size :: iN .i64 a.size :: .bool false :: u1 16 :: u1 17 :: u1 18 :: u1 19 :: u1 20 :: u1 21 :: u1 22 :: u1 23 :: u1 24 :: u1 25 :: u1 26 :: List.replicate 2 un).toArray, []⟩) (by kernel_rfl) ?_
      refine wp_seq ?_
      refine wp_cond_false (by kernel_rfl) ?_
      refine wp_exit ?_
      repeat first | refine then_exit ?_ | refine block_exit ?_ | refine block_exit_ne (by decide) ?_
      refine then_at (F := ⟨(.string a :: .string b :: un :: un :: .bool false :: by8 (dfP a b a.size) :: u1 6 :: .string a :: iN .i64 a.size :: .string b :: iN .i64 b.size :: .bool false :: .string a :: iN .i64 a.size :: iN .i64 a.size :: .bool false :: u1 16 :: u1 17 :: u1 18 :: u1 19 :: u1 20 :: u1 21 :: u1 22 :: u1 23 :: u1 24 :: u1 25 :: u1 26 :: List.replicate 2 un).toArray, []⟩) (by kernel_rfl) ?_
      refine wp_seq ?_
      by_cases he : a = b
      · -- region 9
        refine wl_region ?_
        refine wl_val (by8 (dfP a b a.size)) (by kernel_rfl) (by kernel_rfl) ?_
        refine wl_val (.bool true) (by kernel_rfl) (run_eqlb (a := dfP a b a.size) (b := 0) (by kernel_rfl) (by kernel_rfl) true (decide_eq_true ((dfP_eq a b hc).2 he))) ?_
        refine wl_val (.bool true) (by kernel_rfl) (by kernel_rfl) ?_
        refine wl_nil ?_
        refine then_at (F := ⟨(.string a :: .string b :: un :: un :: .bool true :: by8 (dfP a b a.size) :: u1 6 :: .string a :: iN .i64 a.size :: .string b :: iN .i64 b.size :: .bool false :: .string a :: iN .i64 a.size :: iN .i64 a.size :: .bool false :: u1 16 :: u1 17 :: u1 18 :: u1 19 :: u1 20 :: u1 21 :: u1 22 :: u1 23 :: u1 24 :: u1 25 :: u1 26 :: by8 (dfP a b a.size) :: .bool true :: List.replicate 0 un).toArray, []⟩) (by kernel_rfl) ?_
        refine wp_ret ?_
        repeat first | refine then_ret ?_ | refine block_ret ?_
        exact bodyPost_ret (v := .bool true) (by kernel_rfl) rfl ⟨by rw [decide_eq_true he], h8.old⟩
      · -- region 9
        refine wl_region ?_
        refine wl_val (by8 (dfP a b a.size)) (by kernel_rfl) (by kernel_rfl) ?_
        refine wl_val (.bool false) (by kernel_rfl) (run_eqlb (a := dfP a b a.size) (b := 0) (by kernel_rfl) (by kernel_rfl) false (decide_eq_false (fun h => he ((dfP_eq a b hc).1 h)))) ?_
        refine wl_val (.bool false) (by kernel_rfl) (by kernel_rfl) ?_
        refine wl_nil ?_
        refine then_at (F := ⟨(.string a :: .string b :: un :: un :: .bool false :: by8 (dfP a b a.size) :: u1 6 :: .string a :: iN .i64 a.size :: .string b :: iN .i64 b.size :: .bool false :: .string a :: iN .i64 a.size :: iN .i64 a.size :: .bool false :: u1 16 :: u1 17 :: u1 18 :: u1 19 :: u1 20 :: u1 21 :: u1 22 :: u1 23 :: u1 24 :: u1 25 :: u1 26 :: by8 (dfP a b a.size) :: .bool false :: List.replicate 0 un).toArray, []⟩) (by kernel_rfl) ?_
        refine wp_ret ?_
        repeat first | refine then_ret ?_ | refine block_ret ?_
        exact bodyPost_ret (v := .bool false) (by kernel_rfl) rfl ⟨by rw [decide_eq_false he], h8.old⟩
  · -- region 1
    refine wl_region ?_
    refine wl_val (.string a) (by kernel_rfl) (by kernel_rfl) ?_
    refine wl_val (iN .i64 a.size) (by kernel_rfl) (run_len (s := a) (by kernel_rfl)) ?_
    refine wl_val (.string b) (by kernel_rfl) (by kernel_rfl) ?_
    refine wl_val (iN .i64 b.size) (by kernel_rfl) (run_len (s := b) (by kernel_rfl)) ?_
    refine wl_val (.bool true) (by kernel_rfl) (run_nei (k := .i64) (a := a.size) (b := b.size) (by kernel_rfl) (by kernel_rfl) true (decide_eq_true hc)) ?_
    refine wl_nil ?_
    refine then_at (F := ⟨(.string a :: .string b :: un :: un :: .bool false :: un :: un :: .string a :: iN .i64 a.size :: .string b :: iN .i64 b.size :: .bool true :: List.replicate 17 un).toArray, []⟩) (by kernel_rfl) ?_
    refine wp_cond_true (by kernel_rfl) ?_
    refine wp_seq ?_
    -- region 2
    refine wl_region ?_
    refine wl_val (.bool false) (by kernel_rfl) (by kernel_rfl) ?_
    refine wl_nil ?_
    refine then_at (F := ⟨(.string a :: .string b :: un :: un :: .bool false :: un :: un :: .string a :: iN .i64 a.size :: .string b :: iN .i64 b.size :: .bool true :: List.replicate 17 un).toArray, []⟩) (by kernel_rfl) ?_
    refine wp_ret ?_
    repeat first | refine then_ret ?_ | refine block_ret ?_
    exact bodyPost_ret (v := .bool false) (by kernel_rfl) rfl ⟨by rw [size_ne hc], H0.old⟩
end Go.Proofs.YtmlldbkhphngeaaDoor
