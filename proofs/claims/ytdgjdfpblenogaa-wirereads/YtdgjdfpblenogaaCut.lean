/-
  The reader's inner calls: what cut, look and drop answer.
-/
import Derived.Test.YtdgjdfpblenogaaRows
import Derived.WalkKit
import Derived.WalkSpells
namespace Go.Proofs.Ytdgjdfpblenogaa
open Go.RowKit

set_option maxHeartbeats 400000 in
theorem cut_ok (w : World) (b d o len cap skip n : Nat) (h0 : w.cell? ⟨b, 0, none⟩ = some (.bool true)) (h1 : w.cell? ⟨b, 1, none⟩ = some (.slice (some ⟨d, o, none⟩) len cap))
    (hlc : len ≤ cap) (hcap : len ≤ 1000000) (hs : skip + n ≤ len) :
    Calls Try.prog 34 #[.pointer (some ⟨b, 0, none⟩), .int .i64 skip, .int .i64 n] w fun e w' =>
      e = .returned (.tuple #[.slice (some (if n = 0 then ⟨d, o, none⟩ else ⟨d, o + skip, none⟩)) n n, .bool true]) ∧ w' = w := by
  go_enter Try.func34, Try.ntmps34
  go_wp2
  all_goals go_ret2
  all_goals exact ⟨rfl, rfl⟩

set_option maxHeartbeats 400000 in
theorem cut_no (w : World) (b d o len cap : Nat) (skip n : Int) (h0 : w.cell? ⟨b, 0, none⟩ = some (.bool true)) (h1 : w.cell? ⟨b, 1, none⟩ = some (.slice (some ⟨d, o, none⟩) len cap))
    (hcap : len ≤ 1000000) (hs : skip < 0 ∨ (len : Int) < skip ∨ n < 0 ∨ (len : Int) - skip < n) :
    Calls Try.prog 34 #[.pointer (some ⟨b, 0, none⟩), .int .i64 skip, .int .i64 n] w fun e w' =>
      e = .returned (.tuple #[.slice none 0 0, .bool false]) ∧ w' = w := by
  by_cases a1 : skip < 0
  · clear hs
    go_enter Try.func34, Try.ntmps34
    go_wp2
    all_goals go_ret2
    all_goals exact ⟨rfl, rfl⟩
  by_cases a2 : (len : Int) < skip
  · clear hs
    go_enter Try.func34, Try.ntmps34
    go_wp2
    all_goals go_ret2
    all_goals exact ⟨rfl, rfl⟩
  by_cases a3 : n < 0
  · clear hs
    go_enter Try.func34, Try.ntmps34
    go_wp2
    all_goals go_ret2
    all_goals exact ⟨rfl, rfl⟩
  have a4 : (len : Int) - skip < n := by omega
  clear hs
  go_enter Try.func34, Try.ntmps34
  go_wp2
  all_goals go_ret2
  all_goals exact ⟨rfl, rfl⟩

theorem cut_nil (w : World) (skip n : Int) :
    Calls Try.prog 34 #[.pointer none, .int .i64 skip, .int .i64 n] w fun e w' =>
      e = .returned (.tuple #[.slice none 0 0, .bool false]) ∧ w' = w := by
  go_enter Try.func34, Try.ntmps34
  go_wp2
  all_goals go_ret2
  all_goals exact ⟨rfl, rfl⟩

theorem look_any (w : World) (p : Value) :
    Calls Try.prog 30 #[p] w fun e w' => e = .returned (.func (Fn.func 34) #[p] #[]) ∧ w' = w := by
  go_enter Try.func30, Try.ntmps30
  go_wp2
  all_goals go_ret
  exact ⟨rfl, rfl⟩

theorem drop_ok (w : World) (b d o len cap n : Nat) (h1 : w.cell? ⟨b, 1, none⟩ = some (.slice (some ⟨d, o, none⟩) len cap)) (hf : w.frozen? ⟨b, 1, none⟩ = false)
    (hs : n ≤ len) :
    Calls Try.prog 31 #[.pointer (some ⟨b, 0, none⟩), .int .i64 n] w fun e w' =>
      e = .returned (.tuple #[]) ∧ w' = w.setCell ⟨b, 1, none⟩ (.slice (some (if cap = n then ⟨d, o, none⟩ else ⟨d, o + n, none⟩)) (len - n) (cap - n)) := by
  go_enter Try.func31, Try.ntmps31
  go_wp2
  all_goals go_end0
  all_goals exact ⟨rfl, rfl⟩

theorem left_ok (w : World) (b len cap : Nat) (ad : Option Addr) (h1 : w.cell? ⟨b, 1, none⟩ = some (.slice ad len cap))  :
    Calls Try.prog 25 #[.pointer (some ⟨b, 0, none⟩)] w fun e w' =>
      e = .returned (.int .i64 len) ∧ w' = w := by
  go_enter Try.func25, Try.ntmps25
  go_wp2
  all_goals go_ret
  all_goals exact ⟨rfl, rfl⟩

theorem left_nil (w : World) :
    Calls Try.prog 25 #[.pointer none] w fun e w' =>
      e = .returned (.int .i64 0) ∧ w' = w := by
  go_enter Try.func25, Try.ntmps25
  go_wp2
  all_goals go_ret
  all_goals exact ⟨rfl, rfl⟩
end Go.Proofs.Ytdgjdfpblenogaa
