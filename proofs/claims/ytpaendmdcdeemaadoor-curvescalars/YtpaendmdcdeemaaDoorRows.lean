/-
  NARROWER THAN 'FOR EVERY INPUT', by the rows' own cells (each row's printed sentence says how): CurveReads: laid · CurveSums: laid · CurveShares: laid · CurveGroup: laid · CurveTimes: laid · CurveScalars: laid · CurveAgrees: laid · CurveBack: laid · CurveKnown: laid.
  DERIVED. THE GIVEN ROWS OF THIS SEAT. 9 by the template 'for every input the law returns true; each argument reads behind the call as it read before'; 0 by the template 'total and deterministic' (their statements: YtpaendmdcdeemaaDoorTotals.lean).
  GIVEN WITH THE SEED: the statements are not yours to turn. If you find one false, say at which input.
  Laid BY PROGRAM, IN A SANDBOX (cutbox-rows.mjs): the forced cells as the released guide's own fill.sh prints them over the translation 14b3f1d2a089eef4… (all of the seat's roots in one cut). By AI agents, Wed Nov 11 2026. No macro, syntax, notation, axiom, sorry.
-/
import Derived.Test.YtpaendmdcdeemaaDoorChecked
import GoSem.Claim
import GoSem.ClaimJoined
import GoSem.ClaimMapViews
import Derived.JoinedTies
import Derived.KernelRfl
namespace Go.Proofs.YtpaendmdcdeemaaDoor
/- THE CELL 'sum', in the pinned program and in every row, IS THE sha256 OF THE DUMP (.gsa) THAT YtpaendmdcdeemaaDoorProg.lean LOADS. Nothing in Lean hashes anything: it is a label: what it is worth is what the hold of that sum in a sandbox is worth. -/
noncomputable def Tryd.pinned : Pinned := { name := "ytpaendmdcdeemaadoor", sum := "14b3f1d2a089eef4de1ccbf23a3e2b78cc87e6eb11b698baedc29d0bcefd5b20", checked := Tryd.checked }
namespace Rows
def none {H : Type} : Left H := { results := [], args := [] }

/- WHAT THE LISTED PACKAGE-LEVEL VARIABLES READ AS WHEN THE CALL BEGINS. Each datum BY PROGRAM (the guide's laid-datum.mjs) off the statement by which the dump's own 'gosem.cut.vars' lays the variable. In a bare row this is a premise. The card (YtpaendmdcdeemaaDoorCards.lean) ties it to the program's text. -/
def laid_missive_field_prime {H : Type} : DataW H := .agg [.lit (.int .u64 18446744073709551597), .lit (.int .u64 18446744073709551615), .lit (.int .u64 18446744073709551615), .lit (.int .u64 9223372036854775807)]
def laid_missive_field_toInverse {H : Type} : DataW H := .agg [.lit (.int .u64 18446744073709551595), .lit (.int .u64 18446744073709551615), .lit (.int .u64 18446744073709551615), .lit (.int .u64 9223372036854775807)]
def laid_missive_field_toRoot {H : Type} : DataW H := .agg [.lit (.int .u64 18446744073709551614), .lit (.int .u64 18446744073709551615), .lit (.int .u64 18446744073709551615), .lit (.int .u64 1152921504606846975)]
def laid_missive_field_rootMinus {H : Type} : DataW H := .agg [.lit (.int .u64 14190309331451158704), .lit (.int .u64 3405592160176694392), .lit (.int .u64 3120150775007532967), .lit (.int .u64 3135389899092516619)]
def laid_missive_scalar_order {H : Type} : DataW H := .agg [.lit (.int .u64 6346243789798364141), .lit (.int .u64 1503914060200516822), .lit (.int .u64 0), .lit (.int .u64 1152921504606846976)]
def laid_missive_scalar_extra {H : Type} : DataW H := .agg [.lit (.int .u64 6346243789798364141), .lit (.int .u64 1503914060200516822), .lit (.int .u64 0), .lit (.int .u64 0)]

/-- 'missivelaw04.CurveReads': WHATEVER THE INPUT: true; the input reads as it did. -/
def curveReadsSpec : ChangeSpec := { name := "curveReads", fn := fun _ => fun
  | [d] => { results := [.lit (.bool true)], args := [d] }
  | _ => none }
def curveReadsRow : OpenClaim := { program := "ytpaendmdcdeemaadoor", sum := "14b3f1d2a089eef4de1ccbf23a3e2b78cc87e6eb11b698baedc29d0bcefd5b20", func := "missive/missivelaw04.CurveReads", spec := "curveReads", inPlace := ["math/bits.Sub64", "math/bits.Add64"], unfollowed := true, recurses := true, named := ["missive/field.prime", "missive/field.toInverse", "missive/field.toRoot", "missive/field.rootMinus"], apart := false, laid := [("missive/field.prime", laid_missive_field_prime), ("missive/field.toInverse", laid_missive_field_toInverse), ("missive/field.toRoot", laid_missive_field_toRoot), ("missive/field.rootMinus", laid_missive_field_rootMinus)] }
def CurveReadsSaid : Prop := curveReadsRow.holds Tryd.pinned (OpenSpec.ofChange curveReadsSpec)

/-- ITS FALSE NEIGHBOUR: 'it returns false'. Refute it at one input. -/
def curveReadsWrong : ChangeSpec := { name := "curveReads", fn := fun _ => fun
  | [d] => { results := [.lit (.bool false)], args := [d] }
  | _ => none }
def CurveReadsWrongFalsely : Prop := curveReadsRow.holds Tryd.pinned (OpenSpec.ofChange curveReadsWrong)

/-- 'missivelaw04.CurveSums': WHATEVER THE INPUT: true; the input reads as it did. -/
def curveSumsSpec : ChangeSpec := { name := "curveSums", fn := fun _ => fun
  | [d1, d2, d3] => { results := [.lit (.bool true)], args := [d1, d2, d3] }
  | _ => none }
def curveSumsRow : OpenClaim := { program := "ytpaendmdcdeemaadoor", sum := "14b3f1d2a089eef4de1ccbf23a3e2b78cc87e6eb11b698baedc29d0bcefd5b20", func := "missive/missivelaw04.CurveSums", spec := "curveSums", inPlace := ["math/bits.Sub64", "math/bits.Add64"], unfollowed := true, recurses := true, named := ["missive/field.prime", "missive/field.toInverse", "missive/field.toRoot", "missive/field.rootMinus"], apart := false, laid := [("missive/field.prime", laid_missive_field_prime), ("missive/field.toInverse", laid_missive_field_toInverse), ("missive/field.toRoot", laid_missive_field_toRoot), ("missive/field.rootMinus", laid_missive_field_rootMinus)] }
def CurveSumsSaid : Prop := curveSumsRow.holds Tryd.pinned (OpenSpec.ofChange curveSumsSpec)

/-- ITS FALSE NEIGHBOUR: 'it returns false'. Refute it at one input. -/
def curveSumsWrong : ChangeSpec := { name := "curveSums", fn := fun _ => fun
  | [d1, d2, d3] => { results := [.lit (.bool false)], args := [d1, d2, d3] }
  | _ => none }
def CurveSumsWrongFalsely : Prop := curveSumsRow.holds Tryd.pinned (OpenSpec.ofChange curveSumsWrong)

/-- 'missivelaw04.CurveShares': WHATEVER THE INPUT: true; the input reads as it did. -/
def curveSharesSpec : ChangeSpec := { name := "curveShares", fn := fun _ => fun
  | [d1, d2] => { results := [.lit (.bool true)], args := [d1, d2] }
  | _ => none }
def curveSharesRow : OpenClaim := { program := "ytpaendmdcdeemaadoor", sum := "14b3f1d2a089eef4de1ccbf23a3e2b78cc87e6eb11b698baedc29d0bcefd5b20", func := "missive/missivelaw04.CurveShares", spec := "curveShares", inPlace := ["math/bits.Add64", "math/bits.Sub64"], unfollowed := true, recurses := true, named := ["missive/field.prime", "missive/field.toInverse", "missive/field.toRoot", "missive/field.rootMinus"], apart := false, laid := [("missive/field.prime", laid_missive_field_prime), ("missive/field.toInverse", laid_missive_field_toInverse), ("missive/field.toRoot", laid_missive_field_toRoot), ("missive/field.rootMinus", laid_missive_field_rootMinus)] }
def CurveSharesSaid : Prop := curveSharesRow.holds Tryd.pinned (OpenSpec.ofChange curveSharesSpec)

/-- ITS FALSE NEIGHBOUR: 'it returns false'. Refute it at one input. -/
def curveSharesWrong : ChangeSpec := { name := "curveShares", fn := fun _ => fun
  | [d1, d2] => { results := [.lit (.bool false)], args := [d1, d2] }
  | _ => none }
def CurveSharesWrongFalsely : Prop := curveSharesRow.holds Tryd.pinned (OpenSpec.ofChange curveSharesWrong)

/-- 'missivelaw04.CurveGroup': WHATEVER THE INPUT: true; the input reads as it did. -/
def curveGroupSpec : ChangeSpec := { name := "curveGroup", fn := fun _ => fun
  | [d1, d2, d3] => { results := [.lit (.bool true)], args := [d1, d2, d3] }
  | _ => none }
def curveGroupRow : OpenClaim := { program := "ytpaendmdcdeemaadoor", sum := "14b3f1d2a089eef4de1ccbf23a3e2b78cc87e6eb11b698baedc29d0bcefd5b20", func := "missive/missivelaw04.CurveGroup", spec := "curveGroup", inPlace := ["math/bits.Sub64", "math/bits.Add64"], unfollowed := true, recurses := true, named := ["missive/field.prime", "missive/field.toInverse", "missive/field.toRoot", "missive/field.rootMinus"], apart := false, laid := [("missive/field.prime", laid_missive_field_prime), ("missive/field.toInverse", laid_missive_field_toInverse), ("missive/field.toRoot", laid_missive_field_toRoot), ("missive/field.rootMinus", laid_missive_field_rootMinus)] }
def CurveGroupSaid : Prop := curveGroupRow.holds Tryd.pinned (OpenSpec.ofChange curveGroupSpec)

/-- ITS FALSE NEIGHBOUR: 'it returns false'. Refute it at one input. -/
def curveGroupWrong : ChangeSpec := { name := "curveGroup", fn := fun _ => fun
  | [d1, d2, d3] => { results := [.lit (.bool false)], args := [d1, d2, d3] }
  | _ => none }
def CurveGroupWrongFalsely : Prop := curveGroupRow.holds Tryd.pinned (OpenSpec.ofChange curveGroupWrong)

/-- 'missivelaw04.CurveTimes': WHATEVER THE INPUT: true; the input reads as it did. -/
def curveTimesSpec : ChangeSpec := { name := "curveTimes", fn := fun _ => fun
  | [d1, d2, d3] => { results := [.lit (.bool true)], args := [d1, d2, d3] }
  | _ => none }
def curveTimesRow : OpenClaim := { program := "ytpaendmdcdeemaadoor", sum := "14b3f1d2a089eef4de1ccbf23a3e2b78cc87e6eb11b698baedc29d0bcefd5b20", func := "missive/missivelaw04.CurveTimes", spec := "curveTimes", inPlace := ["math/bits.Sub64", "math/bits.Add64"], unfollowed := true, recurses := true, named := ["missive/field.prime", "missive/field.toInverse", "missive/field.toRoot", "missive/field.rootMinus"], apart := false, laid := [("missive/field.prime", laid_missive_field_prime), ("missive/field.toInverse", laid_missive_field_toInverse), ("missive/field.toRoot", laid_missive_field_toRoot), ("missive/field.rootMinus", laid_missive_field_rootMinus)] }
def CurveTimesSaid : Prop := curveTimesRow.holds Tryd.pinned (OpenSpec.ofChange curveTimesSpec)

/-- ITS FALSE NEIGHBOUR: 'it returns false'. Refute it at one input. -/
def curveTimesWrong : ChangeSpec := { name := "curveTimes", fn := fun _ => fun
  | [d1, d2, d3] => { results := [.lit (.bool false)], args := [d1, d2, d3] }
  | _ => none }
def CurveTimesWrongFalsely : Prop := curveTimesRow.holds Tryd.pinned (OpenSpec.ofChange curveTimesWrong)

/-- 'missivelaw04.CurveScalars': WHATEVER THE INPUT: true; the input reads as it did. -/
def curveScalarsSpec : ChangeSpec := { name := "curveScalars", fn := fun _ => fun
  | [d1, d2] => { results := [.lit (.bool true)], args := [d1, d2] }
  | _ => none }
def curveScalarsRow : OpenClaim := { program := "ytpaendmdcdeemaadoor", sum := "14b3f1d2a089eef4de1ccbf23a3e2b78cc87e6eb11b698baedc29d0bcefd5b20", func := "missive/missivelaw04.CurveScalars", spec := "curveScalars", inPlace := ["math/bits.Sub64", "math/bits.Add64"], unfollowed := true, recurses := true, named := ["missive/field.prime", "missive/field.toInverse", "missive/field.toRoot", "missive/field.rootMinus", "missive/scalar.extra", "missive/scalar.order"], apart := false, laid := [("missive/field.prime", laid_missive_field_prime), ("missive/field.toInverse", laid_missive_field_toInverse), ("missive/field.toRoot", laid_missive_field_toRoot), ("missive/field.rootMinus", laid_missive_field_rootMinus), ("missive/scalar.order", laid_missive_scalar_order), ("missive/scalar.extra", laid_missive_scalar_extra)] }
def CurveScalarsSaid : Prop := curveScalarsRow.holds Tryd.pinned (OpenSpec.ofChange curveScalarsSpec)

/-- ITS FALSE NEIGHBOUR: 'it returns false'. Refute it at one input. -/
def curveScalarsWrong : ChangeSpec := { name := "curveScalars", fn := fun _ => fun
  | [d1, d2] => { results := [.lit (.bool false)], args := [d1, d2] }
  | _ => none }
def CurveScalarsWrongFalsely : Prop := curveScalarsRow.holds Tryd.pinned (OpenSpec.ofChange curveScalarsWrong)

/-- 'missivelaw04.CurveAgrees': WHATEVER THE INPUT: true; the input reads as it did. -/
def curveAgreesSpec : ChangeSpec := { name := "curveAgrees", fn := fun _ => fun
  | [d1, d2] => { results := [.lit (.bool true)], args := [d1, d2] }
  | _ => none }
def curveAgreesRow : OpenClaim := { program := "ytpaendmdcdeemaadoor", sum := "14b3f1d2a089eef4de1ccbf23a3e2b78cc87e6eb11b698baedc29d0bcefd5b20", func := "missive/missivelaw04.CurveAgrees", spec := "curveAgrees", inPlace := ["math/bits.Sub64", "math/bits.Add64"], unfollowed := true, recurses := true, named := ["missive/field.prime", "missive/field.toInverse", "missive/field.toRoot", "missive/field.rootMinus"], apart := false, laid := [("missive/field.prime", laid_missive_field_prime), ("missive/field.toInverse", laid_missive_field_toInverse), ("missive/field.toRoot", laid_missive_field_toRoot), ("missive/field.rootMinus", laid_missive_field_rootMinus)] }
def CurveAgreesSaid : Prop := curveAgreesRow.holds Tryd.pinned (OpenSpec.ofChange curveAgreesSpec)

/-- ITS FALSE NEIGHBOUR: 'it returns false'. Refute it at one input. -/
def curveAgreesWrong : ChangeSpec := { name := "curveAgrees", fn := fun _ => fun
  | [d1, d2] => { results := [.lit (.bool false)], args := [d1, d2] }
  | _ => none }
def CurveAgreesWrongFalsely : Prop := curveAgreesRow.holds Tryd.pinned (OpenSpec.ofChange curveAgreesWrong)

/-- 'missivelaw04.CurveBack': WHATEVER THE INPUT: true; the input reads as it did. -/
def curveBackSpec : ChangeSpec := { name := "curveBack", fn := fun _ => fun
  | [d1, d2] => { results := [.lit (.bool true)], args := [d1, d2] }
  | _ => none }
def curveBackRow : OpenClaim := { program := "ytpaendmdcdeemaadoor", sum := "14b3f1d2a089eef4de1ccbf23a3e2b78cc87e6eb11b698baedc29d0bcefd5b20", func := "missive/missivelaw04.CurveBack", spec := "curveBack", inPlace := ["math/bits.Sub64", "math/bits.Add64"], unfollowed := true, recurses := true, named := ["missive/field.prime", "missive/field.toInverse", "missive/field.toRoot", "missive/field.rootMinus"], apart := false, laid := [("missive/field.prime", laid_missive_field_prime), ("missive/field.toInverse", laid_missive_field_toInverse), ("missive/field.toRoot", laid_missive_field_toRoot), ("missive/field.rootMinus", laid_missive_field_rootMinus)] }
def CurveBackSaid : Prop := curveBackRow.holds Tryd.pinned (OpenSpec.ofChange curveBackSpec)

/-- ITS FALSE NEIGHBOUR: 'it returns false'. Refute it at one input. -/
def curveBackWrong : ChangeSpec := { name := "curveBack", fn := fun _ => fun
  | [d1, d2] => { results := [.lit (.bool false)], args := [d1, d2] }
  | _ => none }
def CurveBackWrongFalsely : Prop := curveBackRow.holds Tryd.pinned (OpenSpec.ofChange curveBackWrong)

/-- 'missivelaw04.CurveKnown': WHATEVER THE INPUT: true; the input reads as it did. -/
def curveKnownSpec : ChangeSpec := { name := "curveKnown", fn := fun _ => fun
  | [] => { results := [.lit (.bool true)], args := [] }
  | _ => none }
def curveKnownRow : OpenClaim := { program := "ytpaendmdcdeemaadoor", sum := "14b3f1d2a089eef4de1ccbf23a3e2b78cc87e6eb11b698baedc29d0bcefd5b20", func := "missive/missivelaw04.CurveKnown", spec := "curveKnown", inPlace := ["math/bits.Sub64", "math/bits.Add64"], unfollowed := true, recurses := true, named := ["missive/field.prime", "missive/field.toInverse", "missive/field.toRoot", "missive/field.rootMinus"], apart := false, laid := [("missive/field.prime", laid_missive_field_prime), ("missive/field.toInverse", laid_missive_field_toInverse), ("missive/field.toRoot", laid_missive_field_toRoot), ("missive/field.rootMinus", laid_missive_field_rootMinus)] }
def CurveKnownSaid : Prop := curveKnownRow.holds Tryd.pinned (OpenSpec.ofChange curveKnownSpec)

/-- ITS FALSE NEIGHBOUR: 'it returns false'. Refute it at one input. -/
def curveKnownWrong : ChangeSpec := { name := "curveKnown", fn := fun _ => fun
  | [] => { results := [.lit (.bool false)], args := [] }
  | _ => none }
def CurveKnownWrongFalsely : Prop := curveKnownRow.holds Tryd.pinned (OpenSpec.ofChange curveKnownWrong)

/- THE SECOND FORM. 'bulk': how many values and letters a reading holds, each counted each time it is reached (what is shared counts as often as it is met; a slice's spare places count too). A statement '..UptoSaid' is the law's where the arguments, and the package variables that the reading takes, are together of bulk at most 1048576: NARROWER than '..Said'. Prove '..Said' where nothing that the law and all that it calls make is longer than what came in: it says more and counts as full. Else prove '..UptoSaid'. A law counts once. -/
mutual
def uptoBulk {H : Type} : DataW H → Nat
  | .lit (.string bytes) => bytes.length + 1
  | .lit _ => 1
  | .nil => 1
  | .ptr d => uptoBulk d + 1
  | .slice elems spare => uptoBulkAll elems + uptoBulkAll spare + 1
  | .agg parts => uptoBulkAll parts + 1
  | .iface _ d => uptoBulk d + 1
  | .map entries => uptoBulkEntries entries + 1
  | .held _ => 1
def uptoBulkAll {H : Type} : List (DataW H) → Nat
  | [] => 0
  | d :: r => uptoBulk d + uptoBulkAll r
def uptoBulkEntries {H : Type} : List (Lit × DataW H) → Nat
  | [] => 0
  | x :: r => uptoBulkEntry x + uptoBulkEntries r
def uptoBulkEntry {H : Type} : Lit × DataW H → Nat
  | (.string bytes, d) => bytes.length + uptoBulk d + 1
  | (_, d) => uptoBulk d + 1
 end
def uptoSmall : (H : Type) → List (DataW H) → Bool := fun _ ds => decide (uptoBulkAll ds ≤ 1048576)
def OpenSpec.upto (s : _root_.Go.ChangeSpec) : _root_.Go.OpenSpec := { _root_.Go.OpenSpec.ofChange s with cond := some uptoSmall }

/-- 'missivelaw04.CurveReads', WHERE WHAT IT READS IS OF BULK AT MOST 1048576: true; the input reads as it did. -/
def curveReadsUptoRow : OpenClaim := { program := "ytpaendmdcdeemaadoor", sum := "14b3f1d2a089eef4de1ccbf23a3e2b78cc87e6eb11b698baedc29d0bcefd5b20", func := "missive/missivelaw04.CurveReads", spec := "curveReads", inPlace := ["math/bits.Sub64", "math/bits.Add64"], unfollowed := true, recurses := true, named := ["missive/field.prime", "missive/field.toInverse", "missive/field.toRoot", "missive/field.rootMinus"], apart := false, laid := [("missive/field.prime", laid_missive_field_prime), ("missive/field.toInverse", laid_missive_field_toInverse), ("missive/field.toRoot", laid_missive_field_toRoot), ("missive/field.rootMinus", laid_missive_field_rootMinus)], narrowed := true }
def CurveReadsUptoSaid : Prop := curveReadsUptoRow.holds Tryd.pinned (OpenSpec.upto curveReadsSpec)

/-- 'missivelaw04.CurveSums', WHERE WHAT IT READS IS OF BULK AT MOST 1048576: true; the input reads as it did. -/
def curveSumsUptoRow : OpenClaim := { program := "ytpaendmdcdeemaadoor", sum := "14b3f1d2a089eef4de1ccbf23a3e2b78cc87e6eb11b698baedc29d0bcefd5b20", func := "missive/missivelaw04.CurveSums", spec := "curveSums", inPlace := ["math/bits.Sub64", "math/bits.Add64"], unfollowed := true, recurses := true, named := ["missive/field.prime", "missive/field.toInverse", "missive/field.toRoot", "missive/field.rootMinus"], apart := false, laid := [("missive/field.prime", laid_missive_field_prime), ("missive/field.toInverse", laid_missive_field_toInverse), ("missive/field.toRoot", laid_missive_field_toRoot), ("missive/field.rootMinus", laid_missive_field_rootMinus)], narrowed := true }
def CurveSumsUptoSaid : Prop := curveSumsUptoRow.holds Tryd.pinned (OpenSpec.upto curveSumsSpec)

/-- 'missivelaw04.CurveShares', WHERE WHAT IT READS IS OF BULK AT MOST 1048576: true; the input reads as it did. -/
def curveSharesUptoRow : OpenClaim := { program := "ytpaendmdcdeemaadoor", sum := "14b3f1d2a089eef4de1ccbf23a3e2b78cc87e6eb11b698baedc29d0bcefd5b20", func := "missive/missivelaw04.CurveShares", spec := "curveShares", inPlace := ["math/bits.Add64", "math/bits.Sub64"], unfollowed := true, recurses := true, named := ["missive/field.prime", "missive/field.toInverse", "missive/field.toRoot", "missive/field.rootMinus"], apart := false, laid := [("missive/field.prime", laid_missive_field_prime), ("missive/field.toInverse", laid_missive_field_toInverse), ("missive/field.toRoot", laid_missive_field_toRoot), ("missive/field.rootMinus", laid_missive_field_rootMinus)], narrowed := true }
def CurveSharesUptoSaid : Prop := curveSharesUptoRow.holds Tryd.pinned (OpenSpec.upto curveSharesSpec)

/-- 'missivelaw04.CurveGroup', WHERE WHAT IT READS IS OF BULK AT MOST 1048576: true; the input reads as it did. -/
def curveGroupUptoRow : OpenClaim := { program := "ytpaendmdcdeemaadoor", sum := "14b3f1d2a089eef4de1ccbf23a3e2b78cc87e6eb11b698baedc29d0bcefd5b20", func := "missive/missivelaw04.CurveGroup", spec := "curveGroup", inPlace := ["math/bits.Sub64", "math/bits.Add64"], unfollowed := true, recurses := true, named := ["missive/field.prime", "missive/field.toInverse", "missive/field.toRoot", "missive/field.rootMinus"], apart := false, laid := [("missive/field.prime", laid_missive_field_prime), ("missive/field.toInverse", laid_missive_field_toInverse), ("missive/field.toRoot", laid_missive_field_toRoot), ("missive/field.rootMinus", laid_missive_field_rootMinus)], narrowed := true }
def CurveGroupUptoSaid : Prop := curveGroupUptoRow.holds Tryd.pinned (OpenSpec.upto curveGroupSpec)

/-- 'missivelaw04.CurveTimes', WHERE WHAT IT READS IS OF BULK AT MOST 1048576: true; the input reads as it did. -/
def curveTimesUptoRow : OpenClaim := { program := "ytpaendmdcdeemaadoor", sum := "14b3f1d2a089eef4de1ccbf23a3e2b78cc87e6eb11b698baedc29d0bcefd5b20", func := "missive/missivelaw04.CurveTimes", spec := "curveTimes", inPlace := ["math/bits.Sub64", "math/bits.Add64"], unfollowed := true, recurses := true, named := ["missive/field.prime", "missive/field.toInverse", "missive/field.toRoot", "missive/field.rootMinus"], apart := false, laid := [("missive/field.prime", laid_missive_field_prime), ("missive/field.toInverse", laid_missive_field_toInverse), ("missive/field.toRoot", laid_missive_field_toRoot), ("missive/field.rootMinus", laid_missive_field_rootMinus)], narrowed := true }
def CurveTimesUptoSaid : Prop := curveTimesUptoRow.holds Tryd.pinned (OpenSpec.upto curveTimesSpec)

/-- 'missivelaw04.CurveScalars', WHERE WHAT IT READS IS OF BULK AT MOST 1048576: true; the input reads as it did. -/
def curveScalarsUptoRow : OpenClaim := { program := "ytpaendmdcdeemaadoor", sum := "14b3f1d2a089eef4de1ccbf23a3e2b78cc87e6eb11b698baedc29d0bcefd5b20", func := "missive/missivelaw04.CurveScalars", spec := "curveScalars", inPlace := ["math/bits.Sub64", "math/bits.Add64"], unfollowed := true, recurses := true, named := ["missive/field.prime", "missive/field.toInverse", "missive/field.toRoot", "missive/field.rootMinus", "missive/scalar.extra", "missive/scalar.order"], apart := false, laid := [("missive/field.prime", laid_missive_field_prime), ("missive/field.toInverse", laid_missive_field_toInverse), ("missive/field.toRoot", laid_missive_field_toRoot), ("missive/field.rootMinus", laid_missive_field_rootMinus), ("missive/scalar.order", laid_missive_scalar_order), ("missive/scalar.extra", laid_missive_scalar_extra)], narrowed := true }
def CurveScalarsUptoSaid : Prop := curveScalarsUptoRow.holds Tryd.pinned (OpenSpec.upto curveScalarsSpec)

/-- 'missivelaw04.CurveAgrees', WHERE WHAT IT READS IS OF BULK AT MOST 1048576: true; the input reads as it did. -/
def curveAgreesUptoRow : OpenClaim := { program := "ytpaendmdcdeemaadoor", sum := "14b3f1d2a089eef4de1ccbf23a3e2b78cc87e6eb11b698baedc29d0bcefd5b20", func := "missive/missivelaw04.CurveAgrees", spec := "curveAgrees", inPlace := ["math/bits.Sub64", "math/bits.Add64"], unfollowed := true, recurses := true, named := ["missive/field.prime", "missive/field.toInverse", "missive/field.toRoot", "missive/field.rootMinus"], apart := false, laid := [("missive/field.prime", laid_missive_field_prime), ("missive/field.toInverse", laid_missive_field_toInverse), ("missive/field.toRoot", laid_missive_field_toRoot), ("missive/field.rootMinus", laid_missive_field_rootMinus)], narrowed := true }
def CurveAgreesUptoSaid : Prop := curveAgreesUptoRow.holds Tryd.pinned (OpenSpec.upto curveAgreesSpec)

/-- 'missivelaw04.CurveBack', WHERE WHAT IT READS IS OF BULK AT MOST 1048576: true; the input reads as it did. -/
def curveBackUptoRow : OpenClaim := { program := "ytpaendmdcdeemaadoor", sum := "14b3f1d2a089eef4de1ccbf23a3e2b78cc87e6eb11b698baedc29d0bcefd5b20", func := "missive/missivelaw04.CurveBack", spec := "curveBack", inPlace := ["math/bits.Sub64", "math/bits.Add64"], unfollowed := true, recurses := true, named := ["missive/field.prime", "missive/field.toInverse", "missive/field.toRoot", "missive/field.rootMinus"], apart := false, laid := [("missive/field.prime", laid_missive_field_prime), ("missive/field.toInverse", laid_missive_field_toInverse), ("missive/field.toRoot", laid_missive_field_toRoot), ("missive/field.rootMinus", laid_missive_field_rootMinus)], narrowed := true }
def CurveBackUptoSaid : Prop := curveBackUptoRow.holds Tryd.pinned (OpenSpec.upto curveBackSpec)

/-- 'missivelaw04.CurveKnown', WHERE WHAT IT READS IS OF BULK AT MOST 1048576: true; the input reads as it did. -/
def curveKnownUptoRow : OpenClaim := { program := "ytpaendmdcdeemaadoor", sum := "14b3f1d2a089eef4de1ccbf23a3e2b78cc87e6eb11b698baedc29d0bcefd5b20", func := "missive/missivelaw04.CurveKnown", spec := "curveKnown", inPlace := ["math/bits.Sub64", "math/bits.Add64"], unfollowed := true, recurses := true, named := ["missive/field.prime", "missive/field.toInverse", "missive/field.toRoot", "missive/field.rootMinus"], apart := false, laid := [("missive/field.prime", laid_missive_field_prime), ("missive/field.toInverse", laid_missive_field_toInverse), ("missive/field.toRoot", laid_missive_field_toRoot), ("missive/field.rootMinus", laid_missive_field_rootMinus)], narrowed := true }
def CurveKnownUptoSaid : Prop := curveKnownUptoRow.holds Tryd.pinned (OpenSpec.upto curveKnownSpec)

end Rows
end Go.Proofs.YtpaendmdcdeemaaDoor
