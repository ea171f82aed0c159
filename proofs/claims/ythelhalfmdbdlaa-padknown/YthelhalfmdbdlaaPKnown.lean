/-
  PadKnown answers true: the walk.
-/
import Derived.Test.YthelhalfmdbdlaaPR
namespace Go.Proofs.Ythelhalfmdbdlaa
open Go.RowKit Go.Shelf Go.Proofs.Ythelhalfmdbdlaa.Wi

/-- how many lengths have come -/
def rank (n : Nat) : Nat := if n ≤ 32 then 1 else if n ≤ 64 then 2 else if n ≤ 128 then 3 else 3 + (n + 255) / 256
def lastK (k : Nat) : Nat := if k = 0 then 0 else szN (k - 1)
def manyK (k : Nat) : Nat := if k = 0 then 0 else rank (k - 1)
theorem lastK_succ (k : Nat) : lastK (k + 1) = szN k := rfl
theorem lastK_le (k : Nat) : lastK k ≤ szN k := by
  unfold lastK
  split
  · omega
  · exact sz_mono (by omega)
theorem manyK_same (k : Nat) (h : szN k = lastK k) : manyK (k + 1) = manyK k := by
  unfold lastK at h
  unfold manyK
  rw [if_neg (by omega), Nat.add_sub_cancel]
  split at h
  · unfold szN at h
    split at h
    · omega
    · omega
  · rename_i h0
    rw [if_neg h0]
    obtain ⟨m, rfl⟩ : ∃ m, k = m + 1 := ⟨k - 1, by omega⟩
    rw [Nat.add_sub_cancel] at h ⊢
    unfold szN at h
    unfold rank
    repeat' split at h
    all_goals repeat' split
    all_goals omega
theorem manyK_more (k : Nat) (h : szN k ≠ lastK k) : manyK (k + 1) = manyK k + 1 := by
  unfold lastK at h
  unfold manyK
  rw [if_neg (by omega), Nat.add_sub_cancel]
  split at h
  · rename_i h0
    subst h0
    rfl
  · rename_i h0
    rw [if_neg h0]
    obtain ⟨m, rfl⟩ : ∃ m, k = m + 1 := ⟨k - 1, by omega⟩
    rw [Nat.add_sub_cancel] at h ⊢
    unfold szN at h
    unfold rank
    repeat' split at h
    all_goals repeat' split
    all_goals omega
theorem manyK_le (k : Nat) (h : k ≤ 8193) : manyK k ≤ 35 := by
  unfold manyK rank
  repeat' split
  all_goals omega
theorem szN_le (k : Nat) (h : k ≤ 8192) : szN k ≤ 8192 := sz_le k h

/-- what is asked, and what is to be told -/
def askK : List Nat := [0, 32, 33, 64, 65, 129, 257, 513]
def tellK : List Nat := [32, 32, 64, 64, 128, 256, 512, 768]
theorem ask_tell : ∀ k, k < 8 → szN (askK.getD k 0) = tellK.getD k 0 ∧ askK.getD k 0 ≤ 8192 := by decide

theorem ask_at : ∀ j, j < 8 → (#[.int .i64 0, .int .i64 32, .int .i64 33, .int .i64 64, .int .i64 65, .int .i64 129, .int .i64 257, .int .i64 513] : Array Value)[j]? = some (.int .i64 (askK.getD j 0 : Nat)) := by
  intro j hj
  have : j = 0 ∨ j = 1 ∨ j = 2 ∨ j = 3 ∨ j = 4 ∨ j = 5 ∨ j = 6 ∨ j = 7 := by omega
  rcases this with rfl | rfl | rfl | rfl | rfl | rfl | rfl | rfl <;> rfl
theorem tell_at : ∀ j, j < 8 → (#[.int .i64 32, .int .i64 32, .int .i64 64, .int .i64 64, .int .i64 128, .int .i64 256, .int .i64 512, .int .i64 768] : Array Value)[j]? = some (.int .i64 (tellK.getD j 0 : Nat)) := by
  intro j hj
  have : j = 0 ∨ j = 1 ∨ j = 2 ∨ j = 3 ∨ j = 4 ∨ j = 5 ∨ j = 6 ∨ j = 7 := by omega
  rcases this with rfl | rfl | rfl | rfl | rfl | rfl | rfl | rfl <;> rfl

theorem unpad_texts : ∀ k, k < 7 → ∃ s : ByteArray, textsK[k]? = some (.string s) ∧ unpadL s.data.toList = none := by
  intro k hk
  have : k = 0 ∨ k = 1 ∨ k = 2 ∨ k = 3 ∨ k = 4 ∨ k = 5 ∨ k = 6 := by omega
  rcases this with rfl | rfl | rfl | rfl | rfl | rfl | rfl
  · exact ⟨_, rfl, by decide +kernel⟩
  · exact ⟨_, rfl, by decide +kernel⟩
  · exact ⟨_, rfl, by decide +kernel⟩
  · exact ⟨_, rfl, by decide +kernel⟩
  · exact ⟨_, rfl, by decide +kernel⟩
  · exact ⟨_, rfl, by decide +kernel⟩
  · refine ⟨_, rfl, unpad_none _ (.inr (.inl ?_))⟩
    have e : ((⟨#[255, 255]⟩ : ByteArray) ++ ⟨(zs 8190).toArray⟩).data.toList = ([255, 255] : List UInt8) ++ zs 8190 := by
      rw [show (⟨#[255, 255]⟩ : ByteArray) = ⟨([255, 255] : List UInt8).toArray⟩ from rfl, str_append]
    rw [e, List.length_append, zs_len, show (([255, 255] : List UInt8) ++ zs 8190).take 2 = ([255, 255] : List UInt8) from List.take_left' rfl]
    decide

set_option maxHeartbeats 8000000 in
set_option maxRecDepth 100000 in
theorem known_true (w : World) :
    Calls Try.prog 6 #[] w fun e w' => e = .returned (.bool true) ∧ Below w.heap.size w w' := by
  have S := hide (fun w n (h : n ≤ 8192) => (show Calls Try.prog 11 #[.int .i64 (n : Nat)] w fun e w' => e = .returned (.tuple #[.int .i64 (szN n), .int .i64 0]) ∧ Below w.heap.size w w' by
    have := Size_any (n : Int) w
    rw [sizeV_ok n h] at this
    exact this))
  have G := hide (fun w => works_true w)
  go_enter Try.func6, Try.ntmps6
  go_wp2_with fail
  go_loopw [1, 2, 3] (fun l m i wr => ∃ k : Nat, k ≤ 8193 ∧ l = .int .i64 (lastK k) ∧ m = .int .i64 (manyK k) ∧ i = .int .i64 (k : Int) ∧ Below w.heap.size w wr) (fun _ _ i _ => 8193 - (intOf i).toNat)
  case atStart => exact ⟨0, by omega, rfl, rfl, rfl, Below.refl _ _⟩
  case round =>
    obtain ⟨k, hk, rfl, rfl, rfl, hb⟩ := hrel
    by_cases hlt : k ≤ 8192
    · have hki : (k : Int) ≤ 8192 := by omega
      have C := hide (S.out wr k hlt)
      have h1 := lastK_le k
      have h2 := sz_ge k
      have h3 := manyK_le k hk
      have h4 := szN_le k hlt
      have hs := lastK_succ k
      have hsame := hide (manyK_same k)
      have hmore := hide (manyK_more k)
      have HS := hide hs
      clear hs S G
      generalize szN k = z at *
      generalize lastK k = l0 at *
      generalize manyK k = m0 at *
      have c1 : ¬ (z : Int) < (k : Int) := by omega
      have c2 : ¬ (z : Int) < (l0 : Int) := by omega
      by_cases hz : z = l0
      · have hz2 : ((z : Int) != (l0 : Int)) = false := by rw [hz]; simp
        have HM := hide (hsame.out hz)
        clear hsame hmore hz
        go_wp2_with fail
        refine C.out.mono ?_
        rintro e w1 ⟨rfl, b1⟩
        have B1 := bstep hb b1
        clear C hb b1
        go_wp2
        go_roundw
        case rel => exact ⟨k + 1, by omega, by rw [HS.out], by rw [HM.out], int_eq (by omega), B1⟩
        case measure => simp [intOf]; omega
      · have hz2 : ((z : Int) != (l0 : Int)) = true := by rw [bne_iff_ne]; omega
        have HM := hide (hmore.out hz)
        clear hsame hmore hz
        go_wp2_with fail
        refine C.out.mono ?_
        rintro e w1 ⟨rfl, b1⟩
        have B1 := bstep hb b1
        clear C hb b1
        go_wp2
        go_roundw
        case rel => exact ⟨k + 1, by omega, by rw [HS.out], by rw [HM.out]; exact int_eq (by omega), int_eq (by omega), B1⟩
        case measure => simp [intOf]; omega
    · obtain rfl : k = 8193 := by omega
      rw [show lastK 8193 = 8192 from rfl, show manyK 8193 = 35 from rfl]
      go_wp2_with fail
      have hA : ∀ j, j < 8 → (wr.alloc (.cells #[.int .i64 0, .int .i64 32, .int .i64 33, .int .i64 64, .int .i64 65, .int .i64 129, .int .i64 257, .int .i64 513] 3)).cell? ⟨wr.heap.size, j, none⟩ = some (.int .i64 (askK.getD j 0 : Nat)) := by
        intro j hj
        rw [World.cell?_alloc_at _ _ _ _ rfl]
        exact ask_at j hj
      have bA : Below w.heap.size w (wr.alloc (.cells #[.int .i64 0, .int .i64 32, .int .i64 33, .int .i64 64, .int .i64 65, .int .i64 129, .int .i64 257, .int .i64 513] 3)) := hb.alloc hb.size _
      have qA : wr.heap.size < (wr.alloc (.cells #[.int .i64 0, .int .i64 32, .int .i64 33, .int .i64 64, .int .i64 65, .int .i64 129, .int .i64 257, .int .i64 513] 3)).heap.size := by simp
      clear hb hk hlt
      generalize wr.alloc (.cells #[.int .i64 0, .int .i64 32, .int .i64 33, .int .i64 64, .int .i64 65, .int .i64 129, .int .i64 257, .int .i64 513] 3) = w1 at *
      generalize wr.heap.size = q at *
      have HA := hide hA
      clear hA
      go_loopw [51] (fun i W => ∃ k : Nat, k ≤ 8 ∧ i = .int .i64 (k : Int) ∧ Hid (∀ j, j < 8 → W.cell? ⟨q, j, none⟩ = some (.int .i64 (askK.getD j 0 : Nat))) ∧ q < W.heap.size ∧ Below w.heap.size w W) (fun i _ => 8 - (intOf i).toNat)
      case atStart => exact ⟨0, by omega, rfl, HA, qA, bA⟩
      case round =>
        obtain ⟨k, hk, rfl, hA, hq, hb⟩ := hrel
        by_cases hlt : k < 8
        · obtain ⟨e1, e2⟩ := ask_tell k hlt
          have hc := hA.out k hlt
          have C := hide (S.out wr _ e2)
          rw [e1] at C
          have hT : ∀ W : World, (W.alloc (.cells #[.int .i64 32, .int .i64 32, .int .i64 64, .int .i64 64, .int .i64 128, .int .i64 256, .int .i64 512, .int .i64 768] 3)).cell? ⟨W.heap.size, k, none⟩ = some (.int .i64 (tellK.getD k 0 : Nat)) := by
            intro W
            rw [World.cell?_alloc_at _ _ _ _ rfl]
            exact tell_at k hlt
          generalize askK.getD k 0 = n at *
          generalize tellK.getD k 0 = z at *
          have HT := hide hT
          clear hT S G e1 HA
          have k0 : (0 : Int) ≤ (k : Int) := by omega
          have k1 : (k : Int) < 8 := by omega
          go_wp2_with fail
          refine C.out.mono ?_
          rintro e w2 ⟨rfl, b2⟩
          have hc2 := HT.out w2
          have B2 := (bstep hb b2).alloc (bstep hb b2).size (.cells #[.int .i64 32, .int .i64 32, .int .i64 64, .int .i64 64, .int .i64 128, .int .i64 256, .int .i64 512, .int .i64 768] 3)
          have s2 : q < (w2.alloc (.cells #[.int .i64 32, .int .i64 32, .int .i64 64, .int .i64 64, .int .i64 128, .int .i64 256, .int .i64 512, .int .i64 768] 3)).heap.size := by have := b2.size; simp; omega
          have A2 : Hid (∀ j, j < 8 → (w2.alloc (.cells #[.int .i64 32, .int .i64 32, .int .i64 64, .int .i64 64, .int .i64 128, .int .i64 256, .int .i64 512, .int .i64 768] 3)).cell? ⟨q, j, none⟩ = some (.int .i64 (askK.getD j 0 : Nat))) := fun j hj => cell_alloc_l _ ((b2.cell (p := ⟨q, j, none⟩) hq).trans (hA.out j hj))
          clear C HT hc hA b2 hb hq
          go_wp2
          go_roundw
          case rel =>
            repeat apply Exists.intro
            exact ⟨⟨k + 1, by omega, int_eq (by omega), A2, s2, B2⟩, rfl⟩
          case measure => simp [intOf]; omega
        · obtain rfl : k = 8 := by omega
          clear hA HA bA qA
          have N1 : Hid (Calls Try.prog 11 #[.int .i64 (-1)] wr fun e w' => e = .returned (.tuple #[.int .i64 0, .int .i64 2]) ∧ Below wr.heap.size wr w') := Size_any (-1) wr
          go_wp2_with fail
          refine N1.out.mono ?_
          rintro e w2 ⟨rfl, b2⟩
          have B2 := bstep hb b2
          clear N1 hb b2 S
          have N2 : Hid (Calls Try.prog 11 #[.int .i64 8193] w2 fun e w' => e = .returned (.tuple #[.int .i64 0, .int .i64 3]) ∧ Below w2.heap.size w2 w') := Size_any 8193 w2
          go_wp2_with fail
          refine N2.out.mono ?_
          rintro e w3 ⟨rfl, b3⟩
          have B3 := bstep B2 b3
          clear N2 B2 b3
          have mk : (Instr.makeSlice 29 (.int .i64 8191) (.int .i64 8191)).run Try.prog w3 = .ok (.slice (some ⟨w3.heap.size, 0, none⟩) 8191 8191) (zw w3 8191) := make_z w3 8191 (by decide)
          have cv := conv_z w3 8191
          have N3 := hide (Pad_no (zw w3 8191) ⟨(zs 8191).toArray⟩ (by rw [str_size, zs_len]; omega) (by rw [str_size, zs_len]; omega))
          have B4 := bstep B3 (zw_below w3 8191)
          clear B3
          generalize zs 8191 = z9 at *
          go_wp2_with fail
          refine N3.out.mono ?_
          rintro e w4 ⟨rfl, b4⟩
          have B5 := bstep B4 b4
          clear N3 B4 b4 mk cv
          have mk : (Instr.makeSlice 29 (.int .i64 32) (.int .i64 32)).run Try.prog w4 = .ok (.slice (some ⟨w4.heap.size, 0, none⟩) 32 32) (zw w4 32) := make_z w4 32 (by decide)
          have cv := conv_z w4 32
          have N4 := hide (Unpad_any (zw w4 32) ⟨(zs 32).toArray⟩)
          rw [show (⟨(zs 32).toArray⟩ : ByteArray).data.toList = zs 32 from rfl, show unpadL (zs 32) = some [] by decide +kernel, show unV (some []) = .tuple #[.string ⟨#[]⟩, .int .i64 0] from rfl] at N4
          have B6 := bstep B5 (zw_below w4 32)
          clear B5
          generalize zs 32 = z8 at *
          go_wp2_with fail
          refine N4.out.mono ?_
          rintro e w5 ⟨rfl, b5⟩
          have B7 := bstep B6 b5
          clear N4 B6 b5 mk cv
          go_wp2_with fail
          refine reg23 rfl (fun _ _ _ _ _ h => h) w w5 B7 ?_
          intro g w6 B8 hsb
          clear B7
          generalize hq13 : g 13 = q at *
          clear hq13
          go_wp2_with fail
          go_loopw [103] (fun i W => ∃ k : Nat, k ≤ 7 ∧ i = .int .i64 (k : Int) ∧ SB W q ∧ Below w.heap.size w W) (fun i _ => 7 - (intOf i).toNat)
          case atStart => exact ⟨0, by omega, rfl, hsb, B8⟩
          case round =>
            obtain ⟨k, hk, rfl, hS, hb⟩ := hrel
            by_cases hlt : k < 7
            · obtain ⟨s, hs1, hs2⟩ := unpad_texts k hlt
              have hc : wr.cell? ⟨q, k, none⟩ = some (.string s) := by
                have hS' := hS
                unfold SB at hS'
                unfold World.cell?
                rw [hS']
                exact hs1
              have C := hide (Unpad_any wr s)
              rw [hs2, show unV none = .tuple #[.string ⟨#[]⟩, .int .i64 4] from rfl] at C
              clear hs1 hs2 hsb B8 G
              have HS := hide hS
              clear hS
              have k0 : (0 : Int) ≤ (k : Int) := by omega
              have k1 : (k : Int) < 7 := by omega
              go_wp2_with fail
              refine C.out.mono ?_
              rintro e w7 ⟨rfl, b7⟩
              have B9 := bstep hb b7
              have S7 : SB w7 q := (b7.block q (Array.getElem?_eq_some_iff.1 HS.out).1).trans HS.out
              clear C hc hb b7 HS
              go_wp2
              go_roundw
              case rel => exact ⟨k + 1, by omega, int_eq (by omega), S7, B9⟩
              case measure => simp [intOf]; omega
            · obtain rfl : k = 7 := by omega
              clear hS hsb B8
              go_wp2_with fail
              refine (G.out wr).mono ?_
              rintro e w7 ⟨rfl, b7⟩
              have B9 := bstep hb b7
              clear hb b7 G
              go_wp2
              go_ret
              exact ⟨rfl, B9⟩

theorem known_row (w : World) : Calls Try.prog 6 #[] w fun e w' => e = .returned (.bool true) ∧ Below w.heap.size w w' := known_true w
end Go.Proofs.Ythelhalfmdbdlaa
