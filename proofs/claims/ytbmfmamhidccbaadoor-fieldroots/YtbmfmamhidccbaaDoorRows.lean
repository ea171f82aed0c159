/-
  NARROWER THAN 'FOR EVERY INPUT', by the rows' own cells (each row's printed sentence says how): FieldReads: laid · FieldSums: laid · FieldRoots: laid · FieldRing: laid · FieldDivides: laid · FieldSquares: laid · FieldBack: laid · FieldKnown: laid.
  DERIVED. THE GIVEN ROWS OF THIS SEAT. 8 by the template 'for every input the law returns true; each argument reads behind the call as it read before'; 0 by the template 'total and deterministic' (their statements: YtbmfmamhidccbaaDoorTotals.lean).
  GIVEN WITH THE SEED: the statements are not yours to turn. If you find one false, say at which input.
  Laid BY PROGRAM, IN A SANDBOX (cutbox-rows.mjs): the forced cells as the released guide's own fill.sh prints them over the translation 1f7f65e4f932ee19… (all of the seat's roots in one cut). By AI agents, Wed Nov 11 2026. No macro, syntax, notation, axiom, sorry.
-/
import Derived.Test.YtbmfmamhidccbaaDoorChecked
import GoSem.Claim
import GoSem.ClaimJoined
import GoSem.ClaimMapViews
import Derived.JoinedTies
import Derived.KernelRfl
namespace Go.Proofs.YtbmfmamhidccbaaDoor
/- THE CELL 'sum', in the pinned program and in every row, IS THE sha256 OF THE DUMP (.gsa) THAT YtbmfmamhidccbaaDoorProg.lean LOADS. Nothing in Lean hashes anything: it is a label: what it is worth is what the hold of that sum in a sandbox is worth. -/
noncomputable def Tryd.pinned : Pinned := { name := "ytbmfmamhidccbaadoor", sum := "1f7f65e4f932ee197fd3e41bc57c7c259601a1e7065f8909b84b6a025d80735c", checked := Tryd.checked }
namespace Rows
def none {H : Type} : Left H := { results := [], args := [] }

/- WHAT THE LISTED PACKAGE-LEVEL VARIABLES READ AS WHEN THE CALL BEGINS. Each datum BY PROGRAM (the guide's laid-datum.mjs) off the statement by which the dump's own 'gosem.cut.vars' lays the variable. In a bare row this is a premise. The card (YtbmfmamhidccbaaDoorCards.lean) ties it to the program's text. -/
def laid_missive_field_prime {H : Type} : DataW H := .agg [.lit (.int .u64 18446744073709551597), .lit (.int .u64 18446744073709551615), .lit (.int .u64 18446744073709551615), .lit (.int .u64 9223372036854775807)]
def laid_missive_field_toInverse {H : Type} : DataW H := .agg [.lit (.int .u64 18446744073709551595), .lit (.int .u64 18446744073709551615), .lit (.int .u64 18446744073709551615), .lit (.int .u64 9223372036854775807)]
def laid_missive_field_toRoot {H : Type} : DataW H := .agg [.lit (.int .u64 18446744073709551614), .lit (.int .u64 18446744073709551615), .lit (.int .u64 18446744073709551615), .lit (.int .u64 1152921504606846975)]
def laid_missive_field_rootMinus {H : Type} : DataW H := .agg [.lit (.int .u64 14190309331451158704), .lit (.int .u64 3405592160176694392), .lit (.int .u64 3120150775007532967), .lit (.int .u64 3135389899092516619)]

/-- 'missivelaw02.FieldReads': WHATEVER THE INPUT: true; the input reads as it did. -/
def fieldReadsSpec : ChangeSpec := { name := "fieldReads", fn := fun _ => fun
  | [d1, d2] => { results := [.lit (.bool true)], args := [d1, d2] }
  | _ => none }
def fieldReadsRow : OpenClaim := { program := "ytbmfmamhidccbaadoor", sum := "1f7f65e4f932ee197fd3e41bc57c7c259601a1e7065f8909b84b6a025d80735c", func := "missive/missivelaw02.FieldReads", spec := "fieldReads", inPlace := ["math/bits.Sub64", "math/bits.Add64"], unfollowed := true, recurses := true, named := ["missive/field.prime", "missive/field.toRoot", "missive/field.rootMinus", "missive/field.toInverse"], apart := false, laid := [("missive/field.prime", laid_missive_field_prime), ("missive/field.toInverse", laid_missive_field_toInverse), ("missive/field.toRoot", laid_missive_field_toRoot), ("missive/field.rootMinus", laid_missive_field_rootMinus)] }
def FieldReadsSaid : Prop := fieldReadsRow.holds Tryd.pinned (OpenSpec.ofChange fieldReadsSpec)

/-- ITS FALSE NEIGHBOUR: 'it returns false'. Refute it at one input. -/
def fieldReadsWrong : ChangeSpec := { name := "fieldReads", fn := fun _ => fun
  | [d1, d2] => { results := [.lit (.bool false)], args := [d1, d2] }
  | _ => none }
def FieldReadsWrongFalsely : Prop := fieldReadsRow.holds Tryd.pinned (OpenSpec.ofChange fieldReadsWrong)

/-- 'missivelaw02.FieldSums': WHATEVER THE INPUT: true; the input reads as it did. -/
def fieldSumsSpec : ChangeSpec := { name := "fieldSums", fn := fun _ => fun
  | [d1, d2] => { results := [.lit (.bool true)], args := [d1, d2] }
  | _ => none }
def fieldSumsRow : OpenClaim := { program := "ytbmfmamhidccbaadoor", sum := "1f7f65e4f932ee197fd3e41bc57c7c259601a1e7065f8909b84b6a025d80735c", func := "missive/missivelaw02.FieldSums", spec := "fieldSums", inPlace := ["math/bits.Sub64", "math/bits.Add64"], unfollowed := true, recurses := true, named := ["missive/field.prime", "missive/field.toRoot", "missive/field.rootMinus", "missive/field.toInverse"], apart := false, laid := [("missive/field.prime", laid_missive_field_prime), ("missive/field.toInverse", laid_missive_field_toInverse), ("missive/field.toRoot", laid_missive_field_toRoot), ("missive/field.rootMinus", laid_missive_field_rootMinus)] }
def FieldSumsSaid : Prop := fieldSumsRow.holds Tryd.pinned (OpenSpec.ofChange fieldSumsSpec)

/-- ITS FALSE NEIGHBOUR: 'it returns false'. Refute it at one input. -/
def fieldSumsWrong : ChangeSpec := { name := "fieldSums", fn := fun _ => fun
  | [d1, d2] => { results := [.lit (.bool false)], args := [d1, d2] }
  | _ => none }
def FieldSumsWrongFalsely : Prop := fieldSumsRow.holds Tryd.pinned (OpenSpec.ofChange fieldSumsWrong)

/-- 'missivelaw02.FieldRoots': WHATEVER THE INPUT: true; the input reads as it did. -/
def fieldRootsSpec : ChangeSpec := { name := "fieldRoots", fn := fun _ => fun
  | [d] => { results := [.lit (.bool true)], args := [d] }
  | _ => none }
def fieldRootsRow : OpenClaim := { program := "ytbmfmamhidccbaadoor", sum := "1f7f65e4f932ee197fd3e41bc57c7c259601a1e7065f8909b84b6a025d80735c", func := "missive/missivelaw02.FieldRoots", spec := "fieldRoots", inPlace := ["math/bits.Sub64", "math/bits.Add64"], unfollowed := true, recurses := true, named := ["missive/field.prime", "missive/field.toRoot", "missive/field.rootMinus", "missive/field.toInverse"], apart := false, laid := [("missive/field.prime", laid_missive_field_prime), ("missive/field.toInverse", laid_missive_field_toInverse), ("missive/field.toRoot", laid_missive_field_toRoot), ("missive/field.rootMinus", laid_missive_field_rootMinus)] }
def FieldRootsSaid : Prop := fieldRootsRow.holds Tryd.pinned (OpenSpec.ofChange fieldRootsSpec)

/-- ITS FALSE NEIGHBOUR: 'it returns false'. Refute it at one input. -/
def fieldRootsWrong : ChangeSpec := { name := "fieldRoots", fn := fun _ => fun
  | [d] => { results := [.lit (.bool false)], args := [d] }
  | _ => none }
def FieldRootsWrongFalsely : Prop := fieldRootsRow.holds Tryd.pinned (OpenSpec.ofChange fieldRootsWrong)

/-- 'missivelaw02.FieldRing': WHATEVER THE INPUT: true; the input reads as it did. -/
def fieldRingSpec : ChangeSpec := { name := "fieldRing", fn := fun _ => fun
  | [d1, d2, d3] => { results := [.lit (.bool true)], args := [d1, d2, d3] }
  | _ => none }
def fieldRingRow : OpenClaim := { program := "ytbmfmamhidccbaadoor", sum := "1f7f65e4f932ee197fd3e41bc57c7c259601a1e7065f8909b84b6a025d80735c", func := "missive/missivelaw02.FieldRing", spec := "fieldRing", inPlace := ["math/bits.Add64", "math/bits.Sub64"], unfollowed := true, recurses := true, named := ["missive/field.toRoot", "missive/field.rootMinus", "missive/field.prime", "missive/field.toInverse"], apart := false, laid := [("missive/field.prime", laid_missive_field_prime), ("missive/field.toInverse", laid_missive_field_toInverse), ("missive/field.toRoot", laid_missive_field_toRoot), ("missive/field.rootMinus", laid_missive_field_rootMinus)] }
def FieldRingSaid : Prop := fieldRingRow.holds Tryd.pinned (OpenSpec.ofChange fieldRingSpec)

/-- ITS FALSE NEIGHBOUR: 'it returns false'. Refute it at one input. -/
def fieldRingWrong : ChangeSpec := { name := "fieldRing", fn := fun _ => fun
  | [d1, d2, d3] => { results := [.lit (.bool false)], args := [d1, d2, d3] }
  | _ => none }
def FieldRingWrongFalsely : Prop := fieldRingRow.holds Tryd.pinned (OpenSpec.ofChange fieldRingWrong)

/-- 'missivelaw02.FieldDivides': WHATEVER THE INPUT: true; the input reads as it did. -/
def fieldDividesSpec : ChangeSpec := { name := "fieldDivides", fn := fun _ => fun
  | [d1, d2] => { results := [.lit (.bool true)], args := [d1, d2] }
  | _ => none }
def fieldDividesRow : OpenClaim := { program := "ytbmfmamhidccbaadoor", sum := "1f7f65e4f932ee197fd3e41bc57c7c259601a1e7065f8909b84b6a025d80735c", func := "missive/missivelaw02.FieldDivides", spec := "fieldDivides", inPlace := ["math/bits.Add64", "math/bits.Sub64"], unfollowed := true, recurses := true, named := ["missive/field.toRoot", "missive/field.rootMinus", "missive/field.prime", "missive/field.toInverse"], apart := false, laid := [("missive/field.prime", laid_missive_field_prime), ("missive/field.toInverse", laid_missive_field_toInverse), ("missive/field.toRoot", laid_missive_field_toRoot), ("missive/field.rootMinus", laid_missive_field_rootMinus)] }
def FieldDividesSaid : Prop := fieldDividesRow.holds Tryd.pinned (OpenSpec.ofChange fieldDividesSpec)

/-- ITS FALSE NEIGHBOUR: 'it returns false'. Refute it at one input. -/
def fieldDividesWrong : ChangeSpec := { name := "fieldDivides", fn := fun _ => fun
  | [d1, d2] => { results := [.lit (.bool false)], args := [d1, d2] }
  | _ => none }
def FieldDividesWrongFalsely : Prop := fieldDividesRow.holds Tryd.pinned (OpenSpec.ofChange fieldDividesWrong)

/-- 'missivelaw02.FieldSquares': WHATEVER THE INPUT: true; the input reads as it did. -/
def fieldSquaresSpec : ChangeSpec := { name := "fieldSquares", fn := fun _ => fun
  | [d1, d2] => { results := [.lit (.bool true)], args := [d1, d2] }
  | _ => none }
def fieldSquaresRow : OpenClaim := { program := "ytbmfmamhidccbaadoor", sum := "1f7f65e4f932ee197fd3e41bc57c7c259601a1e7065f8909b84b6a025d80735c", func := "missive/missivelaw02.FieldSquares", spec := "fieldSquares", inPlace := ["math/bits.Add64", "math/bits.Sub64"], unfollowed := true, recurses := true, named := ["missive/field.toRoot", "missive/field.rootMinus", "missive/field.prime", "missive/field.toInverse"], apart := false, laid := [("missive/field.prime", laid_missive_field_prime), ("missive/field.toInverse", laid_missive_field_toInverse), ("missive/field.toRoot", laid_missive_field_toRoot), ("missive/field.rootMinus", laid_missive_field_rootMinus)] }
def FieldSquaresSaid : Prop := fieldSquaresRow.holds Tryd.pinned (OpenSpec.ofChange fieldSquaresSpec)

/-- ITS FALSE NEIGHBOUR: 'it returns false'. Refute it at one input. -/
def fieldSquaresWrong : ChangeSpec := { name := "fieldSquares", fn := fun _ => fun
  | [d1, d2] => { results := [.lit (.bool false)], args := [d1, d2] }
  | _ => none }
def FieldSquaresWrongFalsely : Prop := fieldSquaresRow.holds Tryd.pinned (OpenSpec.ofChange fieldSquaresWrong)

/-- 'missivelaw02.FieldBack': WHATEVER THE INPUT: true; the input reads as it did. -/
def fieldBackSpec : ChangeSpec := { name := "fieldBack", fn := fun _ => fun
  | [d1, d2] => { results := [.lit (.bool true)], args := [d1, d2] }
  | _ => none }
def fieldBackRow : OpenClaim := { program := "ytbmfmamhidccbaadoor", sum := "1f7f65e4f932ee197fd3e41bc57c7c259601a1e7065f8909b84b6a025d80735c", func := "missive/missivelaw02.FieldBack", spec := "fieldBack", inPlace := ["math/bits.Add64", "math/bits.Sub64"], unfollowed := true, recurses := true, named := ["missive/field.toRoot", "missive/field.rootMinus", "missive/field.prime", "missive/field.toInverse"], apart := false, laid := [("missive/field.prime", laid_missive_field_prime), ("missive/field.toInverse", laid_missive_field_toInverse), ("missive/field.toRoot", laid_missive_field_toRoot), ("missive/field.rootMinus", laid_missive_field_rootMinus)] }
def FieldBackSaid : Prop := fieldBackRow.holds Tryd.pinned (OpenSpec.ofChange fieldBackSpec)

/-- ITS FALSE NEIGHBOUR: 'it returns false'. Refute it at one input. -/
def fieldBackWrong : ChangeSpec := { name := "fieldBack", fn := fun _ => fun
  | [d1, d2] => { results := [.lit (.bool false)], args := [d1, d2] }
  | _ => none }
def FieldBackWrongFalsely : Prop := fieldBackRow.holds Tryd.pinned (OpenSpec.ofChange fieldBackWrong)

/-- 'missivelaw02.FieldKnown': WHATEVER THE INPUT: true; the input reads as it did. -/
def fieldKnownSpec : ChangeSpec := { name := "fieldKnown", fn := fun _ => fun
  | [] => { results := [.lit (.bool true)], args := [] }
  | _ => none }
def fieldKnownRow : OpenClaim := { program := "ytbmfmamhidccbaadoor", sum := "1f7f65e4f932ee197fd3e41bc57c7c259601a1e7065f8909b84b6a025d80735c", func := "missive/missivelaw02.FieldKnown", spec := "fieldKnown", inPlace := ["math/bits.Sub64", "math/bits.Add64"], unfollowed := true, recurses := true, named := ["missive/field.prime", "missive/field.toRoot", "missive/field.rootMinus", "missive/field.toInverse"], apart := false, laid := [("missive/field.prime", laid_missive_field_prime), ("missive/field.toInverse", laid_missive_field_toInverse), ("missive/field.toRoot", laid_missive_field_toRoot), ("missive/field.rootMinus", laid_missive_field_rootMinus)] }
def FieldKnownSaid : Prop := fieldKnownRow.holds Tryd.pinned (OpenSpec.ofChange fieldKnownSpec)

/-- ITS FALSE NEIGHBOUR: 'it returns false'. Refute it at one input. -/
def fieldKnownWrong : ChangeSpec := { name := "fieldKnown", fn := fun _ => fun
  | [] => { results := [.lit (.bool false)], args := [] }
  | _ => none }
def FieldKnownWrongFalsely : Prop := fieldKnownRow.holds Tryd.pinned (OpenSpec.ofChange fieldKnownWrong)

/- THE SECOND FORM. 'bulk': how many values and letters a reading holds, each counted each time it is reached (what is shared counts as often as it is met; a slice's spare places count too). A statement '..UptoSaid' is the law's where the arguments, and the package variables that the reading takes, are together of bulk at most 1048576: NARROWER than '..Said'. Prove '..Said' where nothing that the law and all that it calls make is longer than what came in: it says more and counts as full. Else prove '..UptoSaid'. A law counts once. -/
mutual
def uptoBulk {H : Type} : DataW H → Nat
  | .lit (.string bytes) => bytes.length + 1
  | .lit _ => 1
  | .nil => 1
  | .ptr d => uptoBulk d + 1
  | .slice elems spare => uptoBulkAll elems + uptoBulkAll spare + 1
  | .agg parts => uptoBulkAll parts + 1
  | .iface _ d => uptoBulk d + 1
  | .map entries => uptoBulkEntries entries + 1
  | .held _ => 1
def uptoBulkAll {H : Type} : List (DataW H) → Nat
  | [] => 0
  | d :: r => uptoBulk d + uptoBulkAll r
def uptoBulkEntries {H : Type} : List (Lit × DataW H) → Nat
  | [] => 0
  | x :: r => uptoBulkEntry x + uptoBulkEntries r
def uptoBulkEntry {H : Type} : Lit × DataW H → Nat
  | (.string bytes, d) => bytes.length + uptoBulk d + 1
  | (_, d) => uptoBulk d + 1
 end
def uptoSmall : (H : Type) → List (DataW H) → Bool := fun _ ds => decide (uptoBulkAll ds ≤ 1048576)
def OpenSpec.upto (s : _root_.Go.ChangeSpec) : _root_.Go.OpenSpec := { _root_.Go.OpenSpec.ofChange s with cond := some uptoSmall }

/-- 'missivelaw02.FieldReads', WHERE WHAT IT READS IS OF BULK AT MOST 1048576: true; the input reads as it did. -/
def fieldReadsUptoRow : OpenClaim := { program := "ytbmfmamhidccbaadoor", sum := "1f7f65e4f932ee197fd3e41bc57c7c259601a1e7065f8909b84b6a025d80735c", func := "missive/missivelaw02.FieldReads", spec := "fieldReads", inPlace := ["math/bits.Sub64", "math/bits.Add64"], unfollowed := true, recurses := true, named := ["missive/field.prime", "missive/field.toRoot", "missive/field.rootMinus", "missive/field.toInverse"], apart := false, laid := [("missive/field.prime", laid_missive_field_prime), ("missive/field.toInverse", laid_missive_field_toInverse), ("missive/field.toRoot", laid_missive_field_toRoot), ("missive/field.rootMinus", laid_missive_field_rootMinus)], narrowed := true }
def FieldReadsUptoSaid : Prop := fieldReadsUptoRow.holds Tryd.pinned (OpenSpec.upto fieldReadsSpec)

/-- 'missivelaw02.FieldSums', WHERE WHAT IT READS IS OF BULK AT MOST 1048576: true; the input reads as it did. -/
def fieldSumsUptoRow : OpenClaim := { program := "ytbmfmamhidccbaadoor", sum := "1f7f65e4f932ee197fd3e41bc57c7c259601a1e7065f8909b84b6a025d80735c", func := "missive/missivelaw02.FieldSums", spec := "fieldSums", inPlace := ["math/bits.Sub64", "math/bits.Add64"], unfollowed := true, recurses := true, named := ["missive/field.prime", "missive/field.toRoot", "missive/field.rootMinus", "missive/field.toInverse"], apart := false, laid := [("missive/field.prime", laid_missive_field_prime), ("missive/field.toInverse", laid_missive_field_toInverse), ("missive/field.toRoot", laid_missive_field_toRoot), ("missive/field.rootMinus", laid_missive_field_rootMinus)], narrowed := true }
def FieldSumsUptoSaid : Prop := fieldSumsUptoRow.holds Tryd.pinned (OpenSpec.upto fieldSumsSpec)

/-- 'missivelaw02.FieldRoots', WHERE WHAT IT READS IS OF BULK AT MOST 1048576: true; the input reads as it did. -/
def fieldRootsUptoRow : OpenClaim := { program := "ytbmfmamhidccbaadoor", sum := "1f7f65e4f932ee197fd3e41bc57c7c259601a1e7065f8909b84b6a025d80735c", func := "missive/missivelaw02.FieldRoots", spec := "fieldRoots", inPlace := ["math/bits.Sub64", "math/bits.Add64"], unfollowed := true, recurses := true, named := ["missive/field.prime", "missive/field.toRoot", "missive/field.rootMinus", "missive/field.toInverse"], apart := false, laid := [("missive/field.prime", laid_missive_field_prime), ("missive/field.toInverse", laid_missive_field_toInverse), ("missive/field.toRoot", laid_missive_field_toRoot), ("missive/field.rootMinus", laid_missive_field_rootMinus)], narrowed := true }
def FieldRootsUptoSaid : Prop := fieldRootsUptoRow.holds Tryd.pinned (OpenSpec.upto fieldRootsSpec)

/-- 'missivelaw02.FieldRing', WHERE WHAT IT READS IS OF BULK AT MOST 1048576: true; the input reads as it did. -/
def fieldRingUptoRow : OpenClaim := { program := "ytbmfmamhidccbaadoor", sum := "1f7f65e4f932ee197fd3e41bc57c7c259601a1e7065f8909b84b6a025d80735c", func := "missive/missivelaw02.FieldRing", spec := "fieldRing", inPlace := ["math/bits.Add64", "math/bits.Sub64"], unfollowed := true, recurses := true, named := ["missive/field.toRoot", "missive/field.rootMinus", "missive/field.prime", "missive/field.toInverse"], apart := false, laid := [("missive/field.prime", laid_missive_field_prime), ("missive/field.toInverse", laid_missive_field_toInverse), ("missive/field.toRoot", laid_missive_field_toRoot), ("missive/field.rootMinus", laid_missive_field_rootMinus)], narrowed := true }
def FieldRingUptoSaid : Prop := fieldRingUptoRow.holds Tryd.pinned (OpenSpec.upto fieldRingSpec)

/-- 'missivelaw02.FieldDivides', WHERE WHAT IT READS IS OF BULK AT MOST 1048576: true; the input reads as it did. -/
def fieldDividesUptoRow : OpenClaim := { program := "ytbmfmamhidccbaadoor", sum := "1f7f65e4f932ee197fd3e41bc57c7c259601a1e7065f8909b84b6a025d80735c", func := "missive/missivelaw02.FieldDivides", spec := "fieldDivides", inPlace := ["math/bits.Add64", "math/bits.Sub64"], unfollowed := true, recurses := true, named := ["missive/field.toRoot", "missive/field.rootMinus", "missive/field.prime", "missive/field.toInverse"], apart := false, laid := [("missive/field.prime", laid_missive_field_prime), ("missive/field.toInverse", laid_missive_field_toInverse), ("missive/field.toRoot", laid_missive_field_toRoot), ("missive/field.rootMinus", laid_missive_field_rootMinus)], narrowed := true }
def FieldDividesUptoSaid : Prop := fieldDividesUptoRow.holds Tryd.pinned (OpenSpec.upto fieldDividesSpec)

/-- 'missivelaw02.FieldSquares', WHERE WHAT IT READS IS OF BULK AT MOST 1048576: true; the input reads as it did. -/
def fieldSquaresUptoRow : OpenClaim := { program := "ytbmfmamhidccbaadoor", sum := "1f7f65e4f932ee197fd3e41bc57c7c259601a1e7065f8909b84b6a025d80735c", func := "missive/missivelaw02.FieldSquares", spec := "fieldSquares", inPlace := ["math/bits.Add64", "math/bits.Sub64"], unfollowed := true, recurses := true, named := ["missive/field.toRoot", "missive/field.rootMinus", "missive/field.prime", "missive/field.toInverse"], apart := false, laid := [("missive/field.prime", laid_missive_field_prime), ("missive/field.toInverse", laid_missive_field_toInverse), ("missive/field.toRoot", laid_missive_field_toRoot), ("missive/field.rootMinus", laid_missive_field_rootMinus)], narrowed := true }
def FieldSquaresUptoSaid : Prop := fieldSquaresUptoRow.holds Tryd.pinned (OpenSpec.upto fieldSquaresSpec)

/-- 'missivelaw02.FieldBack', WHERE WHAT IT READS IS OF BULK AT MOST 1048576: true; the input reads as it did. -/
def fieldBackUptoRow : OpenClaim := { program := "ytbmfmamhidccbaadoor", sum := "1f7f65e4f932ee197fd3e41bc57c7c259601a1e7065f8909b84b6a025d80735c", func := "missive/missivelaw02.FieldBack", spec := "fieldBack", inPlace := ["math/bits.Add64", "math/bits.Sub64"], unfollowed := true, recurses := true, named := ["missive/field.toRoot", "missive/field.rootMinus", "missive/field.prime", "missive/field.toInverse"], apart := false, laid := [("missive/field.prime", laid_missive_field_prime), ("missive/field.toInverse", laid_missive_field_toInverse), ("missive/field.toRoot", laid_missive_field_toRoot), ("missive/field.rootMinus", laid_missive_field_rootMinus)], narrowed := true }
def FieldBackUptoSaid : Prop := fieldBackUptoRow.holds Tryd.pinned (OpenSpec.upto fieldBackSpec)

/-- 'missivelaw02.FieldKnown', WHERE WHAT IT READS IS OF BULK AT MOST 1048576: true; the input reads as it did. -/
def fieldKnownUptoRow : OpenClaim := { program := "ytbmfmamhidccbaadoor", sum := "1f7f65e4f932ee197fd3e41bc57c7c259601a1e7065f8909b84b6a025d80735c", func := "missive/missivelaw02.FieldKnown", spec := "fieldKnown", inPlace := ["math/bits.Sub64", "math/bits.Add64"], unfollowed := true, recurses := true, named := ["missive/field.prime", "missive/field.toRoot", "missive/field.rootMinus", "missive/field.toInverse"], apart := false, laid := [("missive/field.prime", laid_missive_field_prime), ("missive/field.toInverse", laid_missive_field_toInverse), ("missive/field.toRoot", laid_missive_field_toRoot), ("missive/field.rootMinus", laid_missive_field_rootMinus)], narrowed := true }
def FieldKnownUptoSaid : Prop := fieldKnownUptoRow.holds Tryd.pinned (OpenSpec.upto fieldKnownSpec)

end Rows
end Go.Proofs.YtbmfmamhidccbaaDoor
