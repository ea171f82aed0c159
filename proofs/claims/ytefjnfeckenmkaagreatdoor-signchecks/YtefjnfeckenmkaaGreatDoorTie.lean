/-
  DERIVED. GIVEN WITH THE SEED: THE PROGRAM's TIES (one call each: nine closed facts by the kernel) AND EACH ROW's TIE, after the 31st guide's Derived/Test/Toyas{Tie, Card}.lean. No idea stands in it: it is a product of the set-up. Laid BY PROGRAM, IN A SANDBOX (cutbox-door.mjs). By AI agents, Wed Nov 11 2026. No macro, syntax, notation, axiom, sorry.
-/
import Derived.Test.YtefjnfeckenmkaaGreatDoorRows
import Derived.LaidByTextLater
import Derived.SevenTiedAt
import Derived.LaidSub
import Derived.LaidOnce
namespace Go.Proofs.YtefjnfeckenmkaaGreatDoor
open Go
set_option maxRecDepth 100000
theorem seatTie1 : Tryz.prog.laidByTextLater [("missive/field.prime", Rows.laid_missive_field_prime), ("missive/field.toInverse", Rows.laid_missive_field_toInverse), ("missive/field.toRoot", Rows.laid_missive_field_toRoot), ("missive/field.rootMinus", Rows.laid_missive_field_rootMinus), ("missive/hash.long", Rows.laid_missive_hash_long), ("missive/hash.firstWords", Rows.laid_missive_hash_firstWords), ("missive/hash.roundWords", Rows.laid_missive_hash_roundWords), ("missive/scalar.order", Rows.laid_missive_scalar_order), ("missive/scalar.extra", Rows.laid_missive_scalar_extra)] [.data, .data, .data, .data, .data, .data, .data, .data, .data] true :=
  Program.laidByTextLater_by_one 58 8 81 (by kernel_rfl) (by kernel_rfl) (by kernel_rfl) (by kernel_rfl) (by kernel_rfl) (by kernel_rfl) (fun _ _ => by kernel_rfl)
theorem noOwnUnsafe : Tryz.pinned.checked.prog.headLifts.contains "ownunsafe" = false := by kernel_rfl
theorem tie : Tryz.prog.laidByTextLater [("missive/field.prime", Rows.laid_missive_field_prime), ("missive/field.toInverse", Rows.laid_missive_field_toInverse), ("missive/field.toRoot", Rows.laid_missive_field_toRoot), ("missive/field.rootMinus", Rows.laid_missive_field_rootMinus), ("missive/hash.long", Rows.laid_missive_hash_long), ("missive/hash.firstWords", Rows.laid_missive_hash_firstWords), ("missive/hash.roundWords", Rows.laid_missive_hash_roundWords), ("missive/scalar.order", Rows.laid_missive_scalar_order), ("missive/scalar.extra", Rows.laid_missive_scalar_extra)] [.data, .data, .data, .data, .data, .data, .data, .data, .data] true :=
  Program.laidByTextLater.sub seatTie1 ["missive/field.prime", "missive/field.toInverse", "missive/field.toRoot", "missive/field.rootMinus", "missive/hash.long", "missive/hash.firstWords", "missive/hash.roundWords", "missive/scalar.order", "missive/scalar.extra"] (by kernel_rfl) (by kernel_rfl)
theorem signMakes_row_tie : Rows.signMakesRow.laidByTextAt .later Tryz.pinned [.data, .data, .data, .data, .data, .data, .data, .data, .data] true :=
  OpenClaim.laidByTextAt_later rfl rfl tie noOwnUnsafe
theorem signChecks_row_tie : Rows.signChecksRow.laidByTextAt .later Tryz.pinned [.data, .data, .data, .data, .data, .data, .data, .data, .data] true :=
  OpenClaim.laidByTextAt_later rfl rfl tie noOwnUnsafe
theorem signMakesUpto_row_tie : Rows.signMakesUptoRow.laidByTextAt .later Tryz.pinned [.data, .data, .data, .data, .data, .data, .data, .data, .data] true :=
  OpenClaim.laidByTextAt_later rfl rfl tie noOwnUnsafe
theorem signChecksUpto_row_tie : Rows.signChecksUptoRow.laidByTextAt .later Tryz.pinned [.data, .data, .data, .data, .data, .data, .data, .data, .data] true :=
  OpenClaim.laidByTextAt_later rfl rfl tie noOwnUnsafe
end Go.Proofs.YtefjnfeckenmkaaGreatDoor
