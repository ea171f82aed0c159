/-
  pad: its lengths, told by a range over a function, and Size.
-/
import Derived.Test.YthelhalfmdbdlaaPA
import Derived.RangeFuncNested
import Derived.RangeFuncBound
import Derived.RangeFuncCalls
import Derived.RangeFuncLeaves
import Derived.RangeFuncFrom
import Derived.Shelf.Abstract
import Derived.Shelf.RegionOpen
import Derived.WalkKit
import Derived.OwnWalkIn
import Derived.TacticsInMore
import Derived.LoopNIn
import Derived.LoopIn
namespace Go.Proofs.Ythelhalfmdbdlaa
open Go.RowKit Go.Shelf Go.Proofs.Ythelhalfmdbdlaa.Wi
attribute [local go_sem] Oper.semAt_some

/-- the lengths, rising -/
def lenAt (k : Nat) : Nat := if k = 0 then 32 else if k = 1 then 64 else if k = 2 then 128 else 256 * (k - 2)
def lensTo (k : Nat) : List Nat := (List.range k).map lenAt
theorem lensTo_succ (k : Nat) : lensTo (k + 1) = lensTo k ++ [lenAt k] := by
  unfold lensTo
  rw [List.range_succ, List.map_append]
  rfl
theorem lensTo_len (k : Nat) : (lensTo k).length = k := by simp [lensTo]
theorem lensTo_mem {k j : Nat} (h : j < k) : lenAt j ∈ lensTo k := List.mem_map.2 ⟨j, List.mem_range.2 h, rfl⟩
def encL (x : Nat) : Array Value := #[.int .i64 (x : Int)]

theorem lenAt_first (n k : Nat) (hk : k < 35) (hlt : ∀ j, j < k → lenAt j < n) (hle : n ≤ lenAt k) : szN n = lenAt k := by
  by_cases h0 : k = 0
  · subst h0
    unfold lenAt at hle ⊢
    unfold szN
    simp at hle ⊢
    omega
  by_cases h1 : k = 1
  · subst h1
    have := hlt 0 (by omega)
    unfold lenAt at hle this ⊢
    unfold szN
    simp at hle this ⊢
    split
    · omega
    · omega
  by_cases h2 : k = 2
  · subst h2
    have := hlt 1 (by omega)
    unfold lenAt at hle this ⊢
    unfold szN
    simp at hle this ⊢
    split
    · omega
    · split <;> omega
  have h := hlt (k - 1) (by omega)
  have h' := hlt 2 (by omega)
  unfold lenAt at hle h h' ⊢
  unfold szN
  simp only [h0, h1, h2, if_false] at hle ⊢
  simp at h'
  rw [if_neg (by omega), if_neg (by omega), if_neg (by omega)]
  by_cases h3 : k = 3
  · subst h3; omega
  rw [if_neg (by omega), if_neg (by omega), if_neg (by omega)] at h
  omega

set_option maxHeartbeats 2000000 in
set_option maxRecDepth 100000 in
theorem lengths_stops (m : Nat) (w : World) :
    SeqStopsK Fence.wide m Try.prog 22 #[] encL (fun _ _ => True) (fun xs => xs = lensTo 35) (fun pre => ∃ k, k < 35 ∧ pre = lensTo (k + 1)) 35 w := by
  intro l J Jx W hW hJ hJx hY h0
  refine callsIn_of_wp Try.func22 rfl trivial ?_
  simp only [Try.ntmps22, List.size_toArray, List.length_cons, List.length_nil, Nat.reduceAdd, Nat.reduceSub, Array.replicate_succ, Array.replicate_zero, List.push_toArray, List.append_toArray, List.nil_append, List.cons_append]
  gi_wp2
  gi_loopw [2] (fun i wr => ∃ k : Nat, k ≤ 35 ∧ i = .int .i64 ((lenAt k : Nat) : Int) ∧ J (lensTo k) wr) (fun i _ => 9000 - (intOf i).toNat)
  case atStart => exact ⟨0, by omega, rfl, h0⟩
  case round =>
    obtain ⟨k, hk, rfl, hJk⟩ := hrel
    by_cases hlt : k < 35
    · obtain ⟨fn, tmps, assign, body, hy, hR⟩ := hY (lensTo k) (lenAt k) wr hJk (by rw [lensTo_len]; exact hlt)
      rw [← lensTo_succ] at hR
      have hx : encL (lenAt k) = #[.int .i64 ((lenAt k : Nat) : Int)] := rfl
      rw [hx] at hy
      have hn : ∃ z : Nat, lenAt k = z ∧ z ≤ 8192 ∧ lenAt (k + 1) = z + (if 256 < z then 256 else z) ∧ 32 ≤ z := by
        refine ⟨_, rfl, ?_, ?_, ?_⟩
        · unfold lenAt; split <;> (try split) <;> (try split) <;> omega
        · unfold lenAt
          rw [if_neg (by omega : ¬ k + 1 = 0)]
          by_cases h0 : k = 0
          · subst h0; rfl
          by_cases h1 : k = 1
          · subst h1; rfl
          by_cases h2 : k = 2
          · subst h2; rfl
          rw [if_neg (by omega), if_neg (by omega), if_neg h0, if_neg h1, if_neg h2]
          split <;> omega
        · unfold lenAt; split <;> (try split) <;> (try split) <;> omega
      obtain ⟨z, hz, hz1, hz2, hz3⟩ := hn
      have HZ : Hid (lenAt (k + 1) = z + (if 256 < z then 256 else z)) := hz2
      clear hz2
      rw [hz] at hy ⊢
      have hle : (z : Int) ≤ 8192 := by omega
      gi_wp2
      refine ⟨fun h => absurd h (by simp [Fence.wide]), hR.mono ?_⟩
      rintro e W3 (⟨rfl, hJ3, hk3⟩ | ⟨rfl, hJx3⟩)
      · by_cases h2 : 256 < z
        · have hm : (256 : Int) < (z : Int) := by omega
          gi_wp2
          go_roundw
          case rel => exact ⟨k + 1, by omega, int_eq (by rw [HZ.out, if_pos h2]; omega), hJ3⟩
          case measure => simp [intOf]; omega
        · have hm : ¬ (256 : Int) < (z : Int) := by omega
          gi_wp2
          go_roundw
          case rel => exact ⟨k + 1, by omega, int_eq (by rw [HZ.out, if_neg h2]; omega), hJ3⟩
          case measure => simp [intOf]; omega
      · gi_wp2
        refine bodyPost_ret (results_none rfl _ _ _) rfl ?_
        exact ⟨⟨_, rfl⟩, .inr ⟨_, ⟨k, hlt, rfl⟩, hJx3⟩⟩
    · obtain rfl : k = 35 := by omega
      have hle : lenAt 35 = 8448 := rfl
      rw [hle]
      gi_wp2
      go_end0
      exact ⟨⟨_, rfl⟩, .inl ⟨_, rfl, hJk⟩⟩
end Go.Proofs.Ythelhalfmdbdlaa
