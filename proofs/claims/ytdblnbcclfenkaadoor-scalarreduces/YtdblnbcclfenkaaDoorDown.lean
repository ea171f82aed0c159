/-
  downward's closure: it hands the four words over, the highest first.
-/
import Derived.Test.YtdblnbcclfenkaaDoorClos
namespace Go.Proofs.YtdblnbcclfenkaaDoor
open Go.RowKit Num Go.Shelf
attribute [local go_sem] Oper.semAt_some

abbrev Wd := { x : Nat // x < K }
def wd (n j : Nat) : Wd := ⟨n / K ^ j % K, Nat.mod_lt _ (by decide)⟩
/-- what has come when k rounds are over -/
def upto (n k : Nat) : List Wd := (List.range k).map fun j => wd n (3 - j)
theorem upto_succ (n k : Nat) : upto n (k + 1) = upto n k ++ [wd n (3 - k)] := by
  unfold upto
  rw [List.range_succ, List.map_append]
  rfl
theorem upto_len (n k : Nat) : (upto n k).length = k := by simp [upto]
def encW (x : Wd) : Array Value := #[.int .u64 (x.1 : Int)]

set_option maxHeartbeats 2000000 in
theorem down_stops (m bv n : Nat) (w : World) (hB : Blk w bv 34 (el n)) :
    SeqStopsK Fence.wide m Tryd.prog 43 #[.pointer (some ⟨bv, 0, none⟩)] encW (fun W W' => W'.heap[bv]? = W.heap[bv]?) (fun xs => xs = upto n 4) (fun _ => True) 4 w := by
  intro l J Jx W hW hJ hJx hY h0
  have hBW : Blk W bv 34 (el n) := by
    unfold Blk
    rw [hW.block bv hB.lt]
    exact hB
  refine callsIn_of_wp Tryd.func43 rfl trivial ?_
  simp only [Tryd.ntmps43, List.size_toArray, List.length_cons, List.length_nil, Nat.reduceAdd, Nat.reduceSub, Array.replicate_succ, Array.replicate_zero, List.push_toArray, List.append_toArray, List.nil_append, List.cons_append]
  gi_wp2
  gi_loopw [4] (fun i wr => ∃ k : Nat, k ≤ 4 ∧ i = .int .i64 (k : Int) ∧ J (upto n k) wr ∧ Blk wr bv 34 (el n)) (fun i _ => 4 - (intOf i).toNat)
  case atStart => exact ⟨0, by omega, rfl, h0, hBW⟩
  case round =>
    obtain ⟨k, hk, rfl, hJk, hBk⟩ := hrel
    by_cases hlt : k < 4
    · obtain ⟨fn, tmps, assign, body, hy, hR⟩ := hY (upto n k) (wd n (3 - k)) wr hJk (by rw [upto_len]; exact hlt)
      have hcell := (hBk.cell (3 - k)).trans (el_get n (3 - k) (by omega))
      rw [← upto_succ] at hR
      have hx : encW (wd n (3 - k)) = #[.int .u64 ((n / K ^ (3 - k) % K : Nat) : Int)] := rfl
      rw [hx] at hy
      generalize n / K ^ (3 - k) % K = x at hcell hy
      have hk0 : (0 : Int) ≤ (k : Int) := by omega
      have hk1 : (k : Int) < 4 := by omega
      simp only [iN] at hcell
      gi_wp2
      refine ⟨fun h => absurd h (by simp [Fence.wide]), hR.mono ?_⟩
      rintro e W3 (⟨rfl, hJ3, hk3⟩ | ⟨rfl, hJx3⟩)
      · have hB3 : Blk W3 bv 34 (el n) := by unfold Blk; rw [hk3]; exact hBk
        gi_wp2
        go_roundw
        case rel => exact ⟨k + 1, by omega, int_eq (by omega), hJ3, hB3⟩
        case measure => simp [intOf]; omega
      · gi_wp2
        refine bodyPost_ret (results_none rfl _ _ _) rfl ?_
        exact ⟨⟨_, rfl⟩, .inr ⟨_, trivial, hJx3⟩⟩
    · obtain rfl : k = 4 := by omega
      gi_wp2
      go_end0
      exact ⟨⟨_, rfl⟩, .inl ⟨_, rfl, hJk⟩⟩
end Go.Proofs.YtdblnbcclfenkaaDoor
