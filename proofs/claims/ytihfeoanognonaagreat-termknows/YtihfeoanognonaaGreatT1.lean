/-
 none, Len, textOf.
-/
import Derived.Test.YtihfeoanognonaaGreatTM
namespace Go.Proofs.YtihfeoanognonaaGreat
set_option linter.unusedVariables false
set_option maxRecDepth 100000
set_option maxHeartbeats 2000000
open Go.RowKit
theorem none_no {w : World} {q : Nat} {t : Tb} {n : Nat} {v : Value} (hq : Blk w q 61 (tcell t n v)) :
  Calls Tryz.prog 18 #[pt q] w fun e w' => e = .returned (.bool false) ∧ Below w.heap.size w w' := by
 have H0 := HA.start w
 go_enter Tryz.func18, Tryz.ntmps18
 refine zsr ?_
 refine zwv (.bool false) ?_
 refine znt ?_
 refine zsr ?_
 refine zwv (.pointer (some ⟨q, 0, none⟩)) ?_
 refine zwv (.bool false) ?_
 refine zwv (.bool false) ?_
 refine zwv (.pointer (some ⟨q, 0, none⟩)) ?_
 refine zwv (.pointer (some ⟨q, 0, none⟩)) ?_
 refine zwv (.pointer (some ⟨q, 2, none⟩)) ?_
 refine zwu (v := .map (some t.mb)) (run_load1 Tryz.isAgg58 (((hq.keep H0.old.old).cell 2).trans rfl)) ?_
 refine zwv (.bool false) ?_
 refine zwv (.bool false) ?_
 refine zwv (.bool false) ?_
 refine znt ?_
 refine wp_ret ?_
 repeat first | refine then_ret ?_ | refine block_ret ?_
 exact bodyPost_ret (by kernel_rfl) rfl ⟨rfl, H0.old.old⟩
theorem Len_any {w : World} {q : Nat} {t : Tb} {n m c : Nat} {p : Option Addr} (hq : Blk w q 61 (tcell t n (.slice p m c))) :
  Calls Tryz.prog 16 #[pt q] w fun e w' => e = .returned (iN .i64 m) ∧ Below w.heap.size w w' := by
 have H0 := HA.start w
 go_enter Tryz.func16, Tryz.ntmps16
 refine zsr ?_
 refine zwv (iN .i64 0) ?_
 refine znt ?_
 refine wp_seq ?_
 refine zsr ?_
 refine zwv (.pointer (some ⟨q, 0, none⟩)) ?_
 refine zwc H0 enter18 (none_no (hq.keep H0.old.old)) ?_
 intro w1 h2
 refine znt ?_
 refine zcf ?_
 refine wp_skip ?_
 refine then_at rfl ?_
 refine zsr ?_
 refine zwv (.pointer (some ⟨q, 0, none⟩)) ?_
 refine zwv (.pointer (some ⟨q, 0, none⟩)) ?_
 refine zwv (.pointer (some ⟨q, 0, none⟩)) ?_
 refine zwu (v := .slice p m c) (run_load1 Tryz.isAgg57 (((hq.keep h2.old.old).cell 0).trans rfl)) ?_
 refine zwv (iN .i64 m) ?_
 refine zwv (iN .i64 m) ?_
 refine znt ?_
 refine wp_ret ?_
 repeat first | refine then_ret ?_ | refine block_ret ?_
 exact bodyPost_ret (by kernel_rfl) rfl ⟨rfl, h2.old.old⟩
def hdS : ByteArray := { data := #[240, 84, 82, 77] }
def txt (n : Nat) : ByteArray := putS hdS n
theorem textOf_any (n : Nat) (hn : n < 9223372036854775808) (w : World) :
  Calls Tryz.prog 28 #[iN .i64 n] w fun e w' => e = .returned (.string (txt n)) ∧ Below w.heap.size w w' := by
 have H0 := HA.start w
 go_enter Tryz.func28, Tryz.ntmps28
 refine zsr ?_
 refine zwv (.string ({ data := #[] })) ?_
 refine znt ?_
 refine zsr ?_
 refine zwv (iN .i64 n) ?_
 refine zwu (v := iN .u64 n) (run_conv .u64 Tryz.underlying3 Tryz.underlying105 (by simp only [top]; omega)) ?_
 refine zwc H0 enter48 (PutNumber_4 ({ data := #[240, 84, 82, 77] }) n (by decide) (by omega) w) ?_
 intro w1 h2
 refine zwv (.string (putS ({ data := #[240, 84, 82, 77] }) n)) ?_
 refine znt ?_
 refine wp_ret ?_
 repeat first | refine then_ret ?_ | refine block_ret ?_
 exact bodyPost_ret (by kernel_rfl) rfl ⟨rfl, h2.old.old⟩
theorem name_any (n : Nat) (hn : n < 9223372036854775808) (w : World) :
  Calls Tryz.prog 26 #[iN .i64 n] w fun e w' => e = .returned (.string (txt n)) ∧ Below w.heap.size w w' := by
 have H0 := HA.start w
 go_enter Tryz.func26, Tryz.ntmps26
 refine zsr ?_
 refine zwv (.string ({ data := #[] })) ?_
 refine znt ?_
 refine zsr ?_
 refine zwv (iN .i64 n) ?_
 refine zwu (v := iN .u64 n) (run_conv .u64 Tryz.underlying3 Tryz.underlying105 (by simp only [top]; omega)) ?_
 refine zwc H0 enter48 (PutNumber_4 ({ data := #[240, 84, 82, 77] }) n (by decide) (by omega) w) ?_
 intro w1 h2
 refine zwv (.string (putS ({ data := #[240, 84, 82, 77] }) n)) ?_
 refine znt ?_
 refine wp_ret ?_
 repeat first | refine then_ret ?_ | refine block_ret ?_
 exact bodyPost_ret (by kernel_rfl) rfl ⟨rfl, h2.old.old⟩
end Go.Proofs.YtihfeoanognonaaGreat
