/-
  WireApart answers true: the walk.
-/
import Derived.Test.YtdgjdfpblenogaaWorks
import Derived.Test.YtdgjdfpblenogaaMath
import Derived.Test.YtdgjdfpblenogaaKnown
import Derived.Deep.QuietTactic
import Derived.BigQuiet
namespace Go.Proofs.Ytdgjdfpblenogaa
open Go.RowKit

/-- what is known of a slice of strings that came in -/
structure Strs (w : World) (a : Option Addr) (len : Nat) (ss : List ByteArray) : Prop where
  most : len ≤ 9223372036854775807
  all : len ≤ ss.length
  each : ∀ i, i < len → (ss.getD i ByteArray.empty).size ≤ 9223372036854775807
  lies : 0 < len → ∃ b off, a = some ⟨b, off, none⟩ ∧ ∀ i, i < len → w.cell? ⟨b, off + i, none⟩ = some (.string (ss.getD i ByteArray.empty))

/-- its first hundred bytes -/
def cut100 (s : ByteArray) : List UInt8 := s.data.toList.take 100

theorem min3 (x y : Nat) (w : World) : ∃ m : Nat, m ≤ x ∧ m ≤ y ∧ m ≤ 10 ∧ (Builtin.min_ #[3, 3, 3] 3 #[.int .i64 x, .int .i64 y, .int .i64 10]).run Try.prog w = .ok (.int .i64 m) w := by
  refine ⟨min (min x y) 10, by omega, by omega, by omega, ?_⟩
  simp only [Builtin.min_]
  by_cases h : (y : Int) < (x : Int)
  · by_cases h' : (10 : Int) < (y : Int)
    · simp [Builtin.min2, h, h']; omega
    · simp [Builtin.min2, h, h']; omega
  · by_cases h' : (10 : Int) < (x : Int)
    · simp [Builtin.min2, h, h']; omega
    · simp [Builtin.min2, h, h']; omega

theorem str_size (l : List UInt8) : (⟨l.toArray⟩ : ByteArray).size = l.length := by
  show l.toArray.size = l.length
  simp

theorem dec_snoc {A B : List (List UInt8)} (x y : List UInt8) (h : A.length = B.length) (bb : Bool) (hb : bb = decide (A = B)) : (bb && (x == y)) = decide (A ++ [x] = B ++ [y]) := by
  subst hb
  rw [Bool.eq_iff_iff]
  simp only [Bool.and_eq_true, decide_eq_true_eq, beq_iff_eq]
  constructor
  · rintro ⟨rfl, rfl⟩; rfl
  · intro e
    obtain ⟨h1, h2⟩ := List.append_inj e h
    exact ⟨h1, by simpa using h2⟩

theorem take_snoc_cut (ss : List ByteArray) (k : Nat) (h : k < ss.length) : (ss.map cut100).take (k + 1) = (ss.map cut100).take k ++ [cut100 (ss.getD k ByteArray.empty)] := by
  rw [List.take_succ_eq_append_getElem (by simpa using h), List.getElem_map]
  congr 3
  simp [h]

theorem cat_length_le {xs : List (List UInt8)} {n : Nat} (h : ∀ x ∈ xs, x.length ≤ n) : (cat xs).length ≤ (4 + n) * xs.length := by
  induction xs with
  | nil => simp [cat]
  | cons x xs ih =>
    have h1 := h x (by simp)
    have h2 := ih (fun y hy => h y (by simp [hy]))
    rw [cat_cons, List.length_append, pt_length, List.length_cons, Nat.mul_succ]
    omega

theorem cut100_le (ss : List ByteArray) (k : Nat) : ∀ x ∈ (ss.map cut100).take k, x.length ≤ 100 := by
  intro x hx
  obtain ⟨s, _, rfl⟩ := List.mem_map.1 (List.mem_of_mem_take hx)
  unfold cut100
  rw [List.length_take]
  omega

theorem cut_all (s : ByteArray) (h : (s.size : Int) ≤ 100) : s.data.toList = cut100 s := by
  unfold cut100
  rw [List.take_of_length_le (by rw [str_length]; omega)]

theorem cut_some_list (s : ByteArray) : (s.extract 0 100).data.toList = cut100 s := by
  unfold cut100
  rw [ByteArray.data_extract]
  simp

theorem drewN_below (w : World) (n : Nat) : Below w.heap.size w (w.drewN n) := ⟨rfl, rfl, rfl, Nat.le_refl _, fun _ _ => rfl⟩

set_option maxRecDepth 100000 in
set_option maxHeartbeats 4000000 in
theorem apart_true (a0 a1 : Option Addr) (len0 cap0 len1 cap1 : Nat) (ss tt : List ByteArray) (w : World) (h0 : Strs w a0 len0 ss) (h1 : Strs w a1 len1 tt) :
    Calls Try.prog 6 #[.slice a0 len0 cap0, .slice a1 len1 cap1] w fun e w' => e = .returned (.bool true) ∧ Below w.heap.size w w' := by
  obtain ⟨m0, n0, e0, l0⟩ := h0
  obtain ⟨m1, n1, e1, l1⟩ := h1
  have HE0 := hide e0
  have HE1 := hide e1
  have HL0 := hide l0
  have HL1 := hide l1
  clear e0 e1 l0 l1
  obtain ⟨m, q0, q1, q2, hmin⟩ := min3 len0 len1 w
  go_enter Try.func6, Try.ntmps6
  go_wp2_with fail
  clear hmin
  go_loopw [6, 7, 8, 9] (fun s t b i wr => ∃ k : Nat, k ≤ m ∧ i = .int .i64 k ∧ s = .string ⟨(cat ((ss.map cut100).take k)).toArray⟩ ∧ t = .string ⟨(cat ((tt.map cut100).take k)).toArray⟩ ∧ (∃ bb : Bool, b = .bool bb ∧ Hid (bb = decide ((ss.map cut100).take k = (tt.map cut100).take k))) ∧ Below w.heap.size w wr) (fun _ _ _ i _ => m - (intOf i).toNat)
  case atStart => exact ⟨0, Nat.zero_le _, rfl, rfl, rfl, ⟨true, rfl, rfl⟩, Below.refl _ _⟩
  case round =>
    obtain ⟨k, hk, rfl, rfl, rfl, ⟨bb, rfl, hbb⟩, hb⟩ := hrel
    by_cases hlt : k < m
    · obtain ⟨b0, o0, rfl, hc0⟩ := HL0.out (by omega)
      obtain ⟨b1, o1, rfl, hc1⟩ := HL1.out (by omega)
      have c0 := (hb.cell (p := ⟨b0, o0 + k, none⟩) (World.block_lt_of_cell? w _ (hc0 k (by omega)))).trans (hc0 k (by omega))
      have c1 := (hb.cell (p := ⟨b1, o1 + k, none⟩) (World.block_lt_of_cell? w _ (hc1 k (by omega)))).trans (hc1 k (by omega))
      have z0 := HE0.out k (by omega)
      have z1 := HE1.out k (by omega)
      clear hc0 hc1
      generalize hs0 : ss.getD k ByteArray.empty = s0 at *
      generalize hs1 : tt.getD k ByteArray.empty = s1 at *
      have k0 : (0 : Int) ≤ (k : Int) := by omega
      have k1 : (k : Int) < (len0 : Int) := by omega
      have k2 : (k : Int) < (len1 : Int) := by omega
      have hX : (cat ((ss.map cut100).take k)).length ≤ 1000000 := by
        have := cat_length_le (cut100_le ss k)
        rw [List.length_take] at this
        omega
      have hY : (cat ((tt.map cut100).take k)).length ≤ 1000000 := by
        have := cat_length_le (cut100_le tt k)
        rw [List.length_take] at this
        omega
      have hxn := take_snoc_cut ss k (by omega)
      have hyn := take_snoc_cut tt k (by omega)
      rw [hs0] at hxn
      rw [hs1] at hyn
      have HXn : Hid (cat ((ss.map cut100).take k) ++ pt (cut100 s0) = cat ((ss.map cut100).take (k + 1))) := by rw [hxn, cat_snoc]; exact rfl
      have HYn : Hid (cat ((tt.map cut100).take k) ++ pt (cut100 s1) = cat ((tt.map cut100).take (k + 1))) := by rw [hyn, cat_snoc]; exact rfl
      have HB : Hid ((bb && (cut100 s0 == cut100 s1)) = decide ((ss.map cut100).take (k + 1) = (tt.map cut100).take (k + 1))) := by
        rw [hxn, hyn]
        exact dec_snoc _ _ (by rw [List.length_take, List.length_take, List.length_map, List.length_map]; omega) bb hbb.out
      clear hxn hyn hbb hs0 hs1
      generalize cat ((ss.map cut100).take k) = X at *
      generalize cat ((tt.map cut100).take k) = Y at *
      clear HL0 HL1
      by_cases y0 : (s0.size : Int) ≤ 100
      · by_cases y1 : (s1.size : Int) ≤ 100
        · have L0 : Hid (s0.data.toList = cut100 s0) := cut_all s0 y0
          have L1 : Hid (s1.data.toList = cut100 s1) := cut_all s1 y1
          go_wp2_with fail
          go_quiet (fail)
          have C0 := hide (PutText_any (wr.drewN nq) ⟨X.toArray⟩ s0 (by rw [str_size]; exact hX) (by omega))
          go_wp2_with fail
          refine C0.out.mono ?_
          rintro e w2 ⟨rfl, hb2⟩
          have C1 := hide (PutText_any w2 ⟨Y.toArray⟩ s1 (by rw [str_size]; exact hY) (by omega))
          go_wp2_with fail
          refine C1.out.mono ?_
          rintro e w3 ⟨rfl, hb3⟩
          clear C0 C1
          have Bf := bstep (bstep (bstep hb (drewN_below wr nq)) hb2) hb3
          clear hb hb2 hb3 c0 c1
          cases bb
          · go_wp2
            go_roundw
            case rel => exact ⟨k + 1, by omega, by go_num, by rw [L0.out, HXn.out], by rw [L1.out, HYn.out], ⟨_, rfl, HB.out⟩, Bf⟩
            case measure => simp [intOf]; omega
          · go_wp2
            go_roundw
            case rel => exact ⟨k + 1, by omega, by go_num, by rw [L0.out, HXn.out], by rw [L1.out, HYn.out], ⟨_, rfl, by rw [ByteArray.toList_eq, ByteArray.toList_eq, L0.out, L1.out]; exact HB.out⟩, Bf⟩
            case measure => simp [intOf]; omega
        · have L0 : Hid (s0.data.toList = cut100 s0) := cut_all s0 y0
          have L1 : Hid ((s1.extract 0 100).data.toList = cut100 s1) := cut_some_list s1
          go_wp2_with fail
          go_quiet (fail)
          have C0 := hide (PutText_any (wr.drewN nq) ⟨X.toArray⟩ s0 (by rw [str_size]; exact hX) (by omega))
          go_wp2_with fail
          refine C0.out.mono ?_
          rintro e w2 ⟨rfl, hb2⟩
          have C1 := hide (PutText_any w2 ⟨Y.toArray⟩ (s1.extract 0 100) (by rw [str_size]; exact hY) (by rw [ByteArray.size_extract]; omega))
          go_wp2_with fail
          refine C1.out.mono ?_
          rintro e w3 ⟨rfl, hb3⟩
          clear C0 C1
          have Bf := bstep (bstep (bstep hb (drewN_below wr nq)) hb2) hb3
          clear hb hb2 hb3 c0 c1
          cases bb
          · go_wp2
            go_roundw
            case rel => exact ⟨k + 1, by omega, by go_num, by rw [L0.out, HXn.out], by rw [show List.take 100 s1.data.toList = cut100 s1 from rfl, HYn.out], ⟨_, rfl, HB.out⟩, Bf⟩
            case measure => simp [intOf]; omega
          · go_wp2
            go_roundw
            case rel => exact ⟨k + 1, by omega, by go_num, by rw [L0.out, HXn.out], by rw [show List.take 100 s1.data.toList = cut100 s1 from rfl, HYn.out], ⟨_, rfl, by rw [ByteArray.toList_eq, ByteArray.toList_eq, L0.out, L1.out]; exact HB.out⟩, Bf⟩
            case measure => simp [intOf]; omega
      · by_cases y1 : (s1.size : Int) ≤ 100
        · have L0 : Hid ((s0.extract 0 100).data.toList = cut100 s0) := cut_some_list s0
          have L1 : Hid (s1.data.toList = cut100 s1) := cut_all s1 y1
          go_wp2_with fail
          go_quiet (fail)
          have C0 := hide (PutText_any (wr.drewN nq) ⟨X.toArray⟩ (s0.extract 0 100) (by rw [str_size]; exact hX) (by rw [ByteArray.size_extract]; omega))
          go_wp2_with fail
          refine C0.out.mono ?_
          rintro e w2 ⟨rfl, hb2⟩
          have C1 := hide (PutText_any w2 ⟨Y.toArray⟩ s1 (by rw [str_size]; exact hY) (by omega))
          go_wp2_with fail
          refine C1.out.mono ?_
          rintro e w3 ⟨rfl, hb3⟩
          clear C0 C1
          have Bf := bstep (bstep (bstep hb (drewN_below wr nq)) hb2) hb3
          clear hb hb2 hb3 c0 c1
          cases bb
          · go_wp2
            go_roundw
            case rel => exact ⟨k + 1, by omega, by go_num, by rw [show List.take 100 s0.data.toList = cut100 s0 from rfl, HXn.out], by rw [L1.out, HYn.out], ⟨_, rfl, HB.out⟩, Bf⟩
            case measure => simp [intOf]; omega
          · go_wp2
            go_roundw
            case rel => exact ⟨k + 1, by omega, by go_num, by rw [show List.take 100 s0.data.toList = cut100 s0 from rfl, HXn.out], by rw [L1.out, HYn.out], ⟨_, rfl, by rw [ByteArray.toList_eq, ByteArray.toList_eq, L0.out, L1.out]; exact HB.out⟩, Bf⟩
            case measure => simp [intOf]; omega
        · have L0 : Hid ((s0.extract 0 100).data.toList = cut100 s0) := cut_some_list s0
          have L1 : Hid ((s1.extract 0 100).data.toList = cut100 s1) := cut_some_list s1
          go_wp2_with fail
          go_quiet (fail)
          have C0 := hide (PutText_any (wr.drewN nq) ⟨X.toArray⟩ (s0.extract 0 100) (by rw [str_size]; exact hX) (by rw [ByteArray.size_extract]; omega))
          go_wp2_with fail
          refine C0.out.mono ?_
          rintro e w2 ⟨rfl, hb2⟩
          have C1 := hide (PutText_any w2 ⟨Y.toArray⟩ (s1.extract 0 100) (by rw [str_size]; exact hY) (by rw [ByteArray.size_extract]; omega))
          go_wp2_with fail
          refine C1.out.mono ?_
          rintro e w3 ⟨rfl, hb3⟩
          clear C0 C1
          have Bf := bstep (bstep (bstep hb (drewN_below wr nq)) hb2) hb3
          clear hb hb2 hb3 c0 c1
          cases bb
          · go_wp2
            go_roundw
            case rel => exact ⟨k + 1, by omega, by go_num, by rw [show List.take 100 s0.data.toList = cut100 s0 from rfl, HXn.out], by rw [show List.take 100 s1.data.toList = cut100 s1 from rfl, HYn.out], ⟨_, rfl, HB.out⟩, Bf⟩
            case measure => simp [intOf]; omega
          · go_wp2
            go_roundw
            case rel => exact ⟨k + 1, by omega, by go_num, by rw [show List.take 100 s0.data.toList = cut100 s0 from rfl, HXn.out], by rw [show List.take 100 s1.data.toList = cut100 s1 from rfl, HYn.out], ⟨_, rfl, by rw [ByteArray.toList_eq, ByteArray.toList_eq, L0.out, L1.out]; exact HB.out⟩, Bf⟩
            case measure => simp [intOf]; omega
    · obtain rfl : k = m := by omega
      have hX : (cat ((ss.map cut100).take k)).length ≤ 100000 := by
        have := cat_length_le (cut100_le ss k)
        rw [List.length_take] at this
        omega
      have hXY : Hid ((cat ((ss.map cut100).take k) = cat ((tt.map cut100).take k)) ↔ bb = true) := by
        show _ ↔ _
        rw [hbb.out, decide_eq_true_eq]
        constructor
        · intro e
          exact cat_inj (by rw [List.length_take, List.length_take, List.length_map, List.length_map]; omega) (fun x hx => by have := cut100_le ss k x hx; omega) (fun x hx => by have := cut100_le tt k x hx; omega) e
        · intro e; rw [e]
      clear hbb
      generalize cat ((ss.map cut100).take k) = X at *
      generalize cat ((tt.map cut100).take k) = Y at *
      have C0 := hide (Hex_any wr ⟨X.toArray⟩ (by rw [str_size]; omega))
      go_wp2_with fail
      refine C0.out.mono ?_
      rintro e w2 ⟨rfl, hb2⟩
      have C1 : Hid (Calls Try.prog 8 #[.string ⟨(hexl X).toArray⟩] w2 fun e w' => e = .returned (.tuple #[.string ⟨X.toArray⟩, .bool true]) ∧ Below w2.heap.size w2 w') := by
        have := Unhex_any w2 ⟨(hexl X).toArray⟩ (by rw [str_size, hexl_length]; omega)
        rw [show unhex (⟨(hexl X).toArray⟩ : ByteArray).data.toList = some X from unhex_hexl X] at this
        exact this
      go_wp2_with fail
      refine C1.out.mono ?_
      rintro e w3 ⟨rfl, hb3⟩
      have C2 := hide (Hex_any w3 ⟨X.toArray⟩ (by rw [str_size]; omega))
      have hh : (hexl X).length = 2 * X.length := hexl_length X
      have Bf := bstep (bstep hb hb2) hb3
      clear C0 C1 hb hb2 hb3
      cases bb
      · have hno : ¬ X = Y := fun e => by have := hXY.out.1 e; cases this
        have hne : (X == Y) = false := beq_eq_false_iff_ne.2 hno
        clear hXY
        go_wp2_with fail
        refine C2.out.mono ?_
        rintro e w4 ⟨rfl, hb4⟩
        have C3 := hide (works_true w4)
        have Bg := bstep Bf hb4
        clear C2 hb4 Bf
        go_wp2_with fail
        refine C3.out.mono ?_
        rintro e w5 ⟨rfl, hb5⟩
        have Bh := bstep Bg hb5
        clear C3 hb5 Bg
        go_wp2
        go_ret
        exact ⟨rfl, Bh⟩
      · have heq : Y = X := (hXY.out.2 rfl).symm
        subst heq
        clear hXY
        go_wp2_with fail
        refine C2.out.mono ?_
        rintro e w4 ⟨rfl, hb4⟩
        have C3 := hide (works_true w4)
        have Bg := bstep Bf hb4
        clear C2 hb4 Bf
        go_wp2_with fail
        refine C3.out.mono ?_
        rintro e w5 ⟨rfl, hb5⟩
        have Bh := bstep Bg hb5
        clear C3 hb5 Bg
        go_wp2
        go_ret
        exact ⟨rfl, Bh⟩
end Go.Proofs.Ytdgjdfpblenogaa
