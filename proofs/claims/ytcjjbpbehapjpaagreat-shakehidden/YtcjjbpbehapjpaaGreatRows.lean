/-
  No cell of these rows narrows 'for every input' (looked for: loops, veiled, ifaces, maps, wideKeys, modest, calm, conditions, laid).
  DERIVED. THE GIVEN ROWS OF THIS SEAT. 5 by the template 'for every input the law returns true; each argument reads behind the call as it read before'; 0 by the template 'total and deterministic' (their statements: YtcjjbpbehapjpaaGreatTotals.lean).
  GIVEN WITH THE SEED: the statements are not yours to turn. If you find one false, say at which input.
  Laid BY PROGRAM, IN A SANDBOX (cutbox-rows.mjs): the forced cells as the released guide's own fill.sh prints them over the translation 185e62e559e2afc6… (all of the seat's roots in one cut). By AI agents, Wed Nov 11 2026. No macro, syntax, notation, axiom, sorry.
-/
import Derived.Test.YtcjjbpbehapjpaaGreatChecked
import GoSem.Claim
import GoSem.ClaimJoined
import GoSem.ClaimMapViews
import Derived.JoinedTies
import Derived.KernelRfl
namespace Go.Proofs.YtcjjbpbehapjpaaGreat
/- THE CELL 'sum', in the pinned program and in every row, IS THE sha256 OF THE DUMP (.gsa) THAT YtcjjbpbehapjpaaGreatProg.lean LOADS. Nothing in Lean hashes anything: it is a label: what it is worth is what the hold of that sum in a sandbox is worth. -/
noncomputable def Tryz.pinned : Pinned := { name := "ytcjjbpbehapjpaagreat", sum := "185e62e559e2afc630df5b22b22572e53a09ebce78ef4797175b541c1be9ac39", checked := Tryz.checked }
namespace Rows
def none {H : Type} : Left H := { results := [], args := [] }

/-- 'missivelaw14.ShakePlays': WHATEVER THE INPUT: true; the input reads as it did. -/
def shakePlaysSpec : ChangeSpec := { name := "shakePlays", fn := fun _ => fun
  | [d] => { results := [.lit (.bool true)], args := [d] }
  | _ => none }
def shakePlaysRow : OpenClaim := { program := "ytcjjbpbehapjpaagreat", sum := "185e62e559e2afc630df5b22b22572e53a09ebce78ef4797175b541c1be9ac39", func := "missive/missivelaw14.ShakePlays", spec := "shakePlays", unfollowed := true, recurses := true, plainKeys := false, apart := false }
def ShakePlaysSaid : Prop := shakePlaysRow.holds Tryz.pinned (OpenSpec.ofChange shakePlaysSpec)

/-- ITS FALSE NEIGHBOUR: 'it returns false'. Refute it at one input. -/
def shakePlaysWrong : ChangeSpec := { name := "shakePlays", fn := fun _ => fun
  | [d] => { results := [.lit (.bool false)], args := [d] }
  | _ => none }
def ShakePlaysWrongFalsely : Prop := shakePlaysRow.holds Tryz.pinned (OpenSpec.ofChange shakePlaysWrong)

/-- 'missivelaw14.ShakeAgrees': WHATEVER THE INPUT: true; the input reads as it did. -/
def shakeAgreesSpec : ChangeSpec := { name := "shakeAgrees", fn := fun _ => fun
  | [d1, d2, d3] => { results := [.lit (.bool true)], args := [d1, d2, d3] }
  | _ => none }
def shakeAgreesRow : OpenClaim := { program := "ytcjjbpbehapjpaagreat", sum := "185e62e559e2afc630df5b22b22572e53a09ebce78ef4797175b541c1be9ac39", func := "missive/missivelaw14.ShakeAgrees", spec := "shakeAgrees", unfollowed := true, recurses := true, plainKeys := false, apart := false }
def ShakeAgreesSaid : Prop := shakeAgreesRow.holds Tryz.pinned (OpenSpec.ofChange shakeAgreesSpec)

/-- ITS FALSE NEIGHBOUR: 'it returns false'. Refute it at one input. -/
def shakeAgreesWrong : ChangeSpec := { name := "shakeAgrees", fn := fun _ => fun
  | [d1, d2, d3] => { results := [.lit (.bool false)], args := [d1, d2, d3] }
  | _ => none }
def ShakeAgreesWrongFalsely : Prop := shakeAgreesRow.holds Tryz.pinned (OpenSpec.ofChange shakeAgreesWrong)

/-- 'missivelaw14.ShakeTurned': WHATEVER THE INPUT: true; the input reads as it did. -/
def shakeTurnedSpec : ChangeSpec := { name := "shakeTurned", fn := fun _ => fun
  | [d1, d2, d3] => { results := [.lit (.bool true)], args := [d1, d2, d3] }
  | _ => none }
def shakeTurnedRow : OpenClaim := { program := "ytcjjbpbehapjpaagreat", sum := "185e62e559e2afc630df5b22b22572e53a09ebce78ef4797175b541c1be9ac39", func := "missive/missivelaw14.ShakeTurned", spec := "shakeTurned", unfollowed := true, recurses := true, plainKeys := false, apart := false }
def ShakeTurnedSaid : Prop := shakeTurnedRow.holds Tryz.pinned (OpenSpec.ofChange shakeTurnedSpec)

/-- ITS FALSE NEIGHBOUR: 'it returns false'. Refute it at one input. -/
def shakeTurnedWrong : ChangeSpec := { name := "shakeTurned", fn := fun _ => fun
  | [d1, d2, d3] => { results := [.lit (.bool false)], args := [d1, d2, d3] }
  | _ => none }
def ShakeTurnedWrongFalsely : Prop := shakeTurnedRow.holds Tryz.pinned (OpenSpec.ofChange shakeTurnedWrong)

/-- 'missivelaw14.ShakeHidden': WHATEVER THE INPUT: true; the input reads as it did. -/
def shakeHiddenSpec : ChangeSpec := { name := "shakeHidden", fn := fun _ => fun
  | [d] => { results := [.lit (.bool true)], args := [d] }
  | _ => none }
def shakeHiddenRow : OpenClaim := { program := "ytcjjbpbehapjpaagreat", sum := "185e62e559e2afc630df5b22b22572e53a09ebce78ef4797175b541c1be9ac39", func := "missive/missivelaw14.ShakeHidden", spec := "shakeHidden", inPlace := ["internal/bytealg.IndexByteString", "internal/bytealg.IndexString", "internal/abi.NoEscape"], unfollowed := true, recurses := true, named := ["internal/bytealg.MaxLen"], plainKeys := false, apart := false }
def ShakeHiddenSaid : Prop := shakeHiddenRow.holds Tryz.pinned (OpenSpec.ofChange shakeHiddenSpec)

/-- ITS FALSE NEIGHBOUR: 'it returns false'. Refute it at one input. -/
def shakeHiddenWrong : ChangeSpec := { name := "shakeHidden", fn := fun _ => fun
  | [d] => { results := [.lit (.bool false)], args := [d] }
  | _ => none }
def ShakeHiddenWrongFalsely : Prop := shakeHiddenRow.holds Tryz.pinned (OpenSpec.ofChange shakeHiddenWrong)

/-- 'missivelaw14.ShakeKnown': WHATEVER THE INPUT: true; the input reads as it did. -/
def shakeKnownSpec : ChangeSpec := { name := "shakeKnown", fn := fun _ => fun
  | [] => { results := [.lit (.bool true)], args := [] }
  | _ => none }
def shakeKnownRow : OpenClaim := { program := "ytcjjbpbehapjpaagreat", sum := "185e62e559e2afc630df5b22b22572e53a09ebce78ef4797175b541c1be9ac39", func := "missive/missivelaw14.ShakeKnown", spec := "shakeKnown", unfollowed := true, recurses := true, plainKeys := false, apart := false }
def ShakeKnownSaid : Prop := shakeKnownRow.holds Tryz.pinned (OpenSpec.ofChange shakeKnownSpec)

/-- ITS FALSE NEIGHBOUR: 'it returns false'. Refute it at one input. -/
def shakeKnownWrong : ChangeSpec := { name := "shakeKnown", fn := fun _ => fun
  | [] => { results := [.lit (.bool false)], args := [] }
  | _ => none }
def ShakeKnownWrongFalsely : Prop := shakeKnownRow.holds Tryz.pinned (OpenSpec.ofChange shakeKnownWrong)

/- THE SECOND FORM. 'bulk': how many values and letters a reading holds, each counted each time it is reached (what is shared counts as often as it is met; a slice's spare places count too). A statement '..UptoSaid' is the law's where the arguments, and the package variables that the reading takes, are together of bulk at most 1048576: NARROWER than '..Said'. Prove '..Said' where nothing that the law and all that it calls make is longer than what came in: it says more and counts as full. Else prove '..UptoSaid'. A law counts once. -/
mutual
def uptoBulk {H : Type} : DataW H → Nat
  | .lit (.string bytes) => bytes.length + 1
  | .lit _ => 1
  | .nil => 1
  | .ptr d => uptoBulk d + 1
  | .slice elems spare => uptoBulkAll elems + uptoBulkAll spare + 1
  | .agg parts => uptoBulkAll parts + 1
  | .iface _ d => uptoBulk d + 1
  | .map entries => uptoBulkEntries entries + 1
  | .held _ => 1
def uptoBulkAll {H : Type} : List (DataW H) → Nat
  | [] => 0
  | d :: r => uptoBulk d + uptoBulkAll r
def uptoBulkEntries {H : Type} : List (Lit × DataW H) → Nat
  | [] => 0
  | x :: r => uptoBulkEntry x + uptoBulkEntries r
def uptoBulkEntry {H : Type} : Lit × DataW H → Nat
  | (.string bytes, d) => bytes.length + uptoBulk d + 1
  | (_, d) => uptoBulk d + 1
 end
def uptoSmall : (H : Type) → List (DataW H) → Bool := fun _ ds => decide (uptoBulkAll ds ≤ 1048576)
def OpenSpec.upto (s : _root_.Go.ChangeSpec) : _root_.Go.OpenSpec := { _root_.Go.OpenSpec.ofChange s with cond := some uptoSmall }

/-- 'missivelaw14.ShakePlays', WHERE WHAT IT READS IS OF BULK AT MOST 1048576: true; the input reads as it did. -/
def shakePlaysUptoRow : OpenClaim := { program := "ytcjjbpbehapjpaagreat", sum := "185e62e559e2afc630df5b22b22572e53a09ebce78ef4797175b541c1be9ac39", func := "missive/missivelaw14.ShakePlays", spec := "shakePlays", unfollowed := true, recurses := true, plainKeys := false, apart := false, narrowed := true }
def ShakePlaysUptoSaid : Prop := shakePlaysUptoRow.holds Tryz.pinned (OpenSpec.upto shakePlaysSpec)

/-- 'missivelaw14.ShakeAgrees', WHERE WHAT IT READS IS OF BULK AT MOST 1048576: true; the input reads as it did. -/
def shakeAgreesUptoRow : OpenClaim := { program := "ytcjjbpbehapjpaagreat", sum := "185e62e559e2afc630df5b22b22572e53a09ebce78ef4797175b541c1be9ac39", func := "missive/missivelaw14.ShakeAgrees", spec := "shakeAgrees", unfollowed := true, recurses := true, plainKeys := false, apart := false, narrowed := true }
def ShakeAgreesUptoSaid : Prop := shakeAgreesUptoRow.holds Tryz.pinned (OpenSpec.upto shakeAgreesSpec)

/-- 'missivelaw14.ShakeTurned', WHERE WHAT IT READS IS OF BULK AT MOST 1048576: true; the input reads as it did. -/
def shakeTurnedUptoRow : OpenClaim := { program := "ytcjjbpbehapjpaagreat", sum := "185e62e559e2afc630df5b22b22572e53a09ebce78ef4797175b541c1be9ac39", func := "missive/missivelaw14.ShakeTurned", spec := "shakeTurned", unfollowed := true, recurses := true, plainKeys := false, apart := false, narrowed := true }
def ShakeTurnedUptoSaid : Prop := shakeTurnedUptoRow.holds Tryz.pinned (OpenSpec.upto shakeTurnedSpec)

/-- 'missivelaw14.ShakeHidden', WHERE WHAT IT READS IS OF BULK AT MOST 1048576: true; the input reads as it did. -/
def shakeHiddenUptoRow : OpenClaim := { program := "ytcjjbpbehapjpaagreat", sum := "185e62e559e2afc630df5b22b22572e53a09ebce78ef4797175b541c1be9ac39", func := "missive/missivelaw14.ShakeHidden", spec := "shakeHidden", inPlace := ["internal/bytealg.IndexByteString", "internal/bytealg.IndexString", "internal/abi.NoEscape"], unfollowed := true, recurses := true, named := ["internal/bytealg.MaxLen"], plainKeys := false, apart := false, narrowed := true }
def ShakeHiddenUptoSaid : Prop := shakeHiddenUptoRow.holds Tryz.pinned (OpenSpec.upto shakeHiddenSpec)

/-- 'missivelaw14.ShakeKnown', WHERE WHAT IT READS IS OF BULK AT MOST 1048576: true; the input reads as it did. -/
def shakeKnownUptoRow : OpenClaim := { program := "ytcjjbpbehapjpaagreat", sum := "185e62e559e2afc630df5b22b22572e53a09ebce78ef4797175b541c1be9ac39", func := "missive/missivelaw14.ShakeKnown", spec := "shakeKnown", unfollowed := true, recurses := true, plainKeys := false, apart := false, narrowed := true }
def ShakeKnownUptoSaid : Prop := shakeKnownUptoRow.holds Tryz.pinned (OpenSpec.upto shakeKnownSpec)

end Rows
end Go.Proofs.YtcjjbpbehapjpaaGreat
