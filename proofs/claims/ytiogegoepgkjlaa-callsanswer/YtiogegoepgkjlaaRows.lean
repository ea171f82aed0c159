/-
  No cell of these rows narrows 'for every input' (looked for: loops, veiled, ifaces, maps, wideKeys, modest, calm, conditions, laid).
  DERIVED. THE GIVEN ROWS OF THIS SEAT. 4 by the template 'for every input the law returns true; each argument reads behind the call as it read before'; 0 by the template 'total and deterministic' (their statements: YtiogegoepgkjlaaTotals.lean).
  GIVEN WITH THE SEED: the statements are not yours to turn. If you find one false, say at which input.
  Laid BY PROGRAM, IN A SANDBOX (cutbox-rows.mjs): the forced cells as the released guide's own fill.sh prints them over the translation e027107238c4b1fc… (all of the seat's roots in one cut). By AI agents, Wed Nov 11 2026. No macro, syntax, notation, axiom, sorry.
-/
import Derived.Test.YtiogegoepgkjlaaChecked
import GoSem.Claim
import GoSem.ClaimJoined
import GoSem.ClaimMapViews
import Derived.JoinedTies
import Derived.KernelRfl
namespace Go.Proofs.Ytiogegoepgkjlaa
/- THE CELL 'sum', in the pinned program and in every row, IS THE sha256 OF THE DUMP (.gsa) THAT YtiogegoepgkjlaaProg.lean LOADS. Nothing in Lean hashes anything: it is a label: what it is worth is what the hold of that sum in a sandbox is worth. -/
noncomputable def Try.pinned : Pinned := { name := "ytiogegoepgkjlaa", sum := "e027107238c4b1fc074c5411956852a53eadc4b538701eb1995c4140af2688bf", checked := Try.checked }
namespace Rows
def none {H : Type} : Left H := { results := [], args := [] }

/-- 'missivelaw19.CallsLay': WHATEVER THE INPUT: true; the input reads as it did. -/
def callsLaySpec : ChangeSpec := { name := "callsLay", fn := fun _ => fun
  | [d1, d2, d3] => { results := [.lit (.bool true)], args := [d1, d2, d3] }
  | _ => none }
def callsLayRow : OpenClaim := { program := "ytiogegoepgkjlaa", sum := "e027107238c4b1fc074c5411956852a53eadc4b538701eb1995c4140af2688bf", func := "missive/missivelaw19.CallsLay", spec := "callsLay", unfollowed := true, recurses := true, apart := false }
def CallsLaySaid : Prop := callsLayRow.holds Try.pinned (OpenSpec.ofChange callsLaySpec)

/-- ITS FALSE NEIGHBOUR: 'it returns false'. Refute it at one input. -/
def callsLayWrong : ChangeSpec := { name := "callsLay", fn := fun _ => fun
  | [d1, d2, d3] => { results := [.lit (.bool false)], args := [d1, d2, d3] }
  | _ => none }
def CallsLayWrongFalsely : Prop := callsLayRow.holds Try.pinned (OpenSpec.ofChange callsLayWrong)

/-- 'missivelaw19.CallsAnswer': WHATEVER THE INPUT: true; the input reads as it did. -/
def callsAnswerSpec : ChangeSpec := { name := "callsAnswer", fn := fun _ => fun
  | [d1, d2, d3] => { results := [.lit (.bool true)], args := [d1, d2, d3] }
  | _ => none }
def callsAnswerRow : OpenClaim := { program := "ytiogegoepgkjlaa", sum := "e027107238c4b1fc074c5411956852a53eadc4b538701eb1995c4140af2688bf", func := "missive/missivelaw19.CallsAnswer", spec := "callsAnswer", unfollowed := true, recurses := true, apart := false }
def CallsAnswerSaid : Prop := callsAnswerRow.holds Try.pinned (OpenSpec.ofChange callsAnswerSpec)

/-- ITS FALSE NEIGHBOUR: 'it returns false'. Refute it at one input. -/
def callsAnswerWrong : ChangeSpec := { name := "callsAnswer", fn := fun _ => fun
  | [d1, d2, d3] => { results := [.lit (.bool false)], args := [d1, d2, d3] }
  | _ => none }
def CallsAnswerWrongFalsely : Prop := callsAnswerRow.holds Try.pinned (OpenSpec.ofChange callsAnswerWrong)

/-- 'missivelaw19.CallsBack': WHATEVER THE INPUT: true; the input reads as it did. -/
def callsBackSpec : ChangeSpec := { name := "callsBack", fn := fun _ => fun
  | [d1, d2] => { results := [.lit (.bool true)], args := [d1, d2] }
  | _ => none }
def callsBackRow : OpenClaim := { program := "ytiogegoepgkjlaa", sum := "e027107238c4b1fc074c5411956852a53eadc4b538701eb1995c4140af2688bf", func := "missive/missivelaw19.CallsBack", spec := "callsBack", unfollowed := true, recurses := true, apart := false }
def CallsBackSaid : Prop := callsBackRow.holds Try.pinned (OpenSpec.ofChange callsBackSpec)

/-- ITS FALSE NEIGHBOUR: 'it returns false'. Refute it at one input. -/
def callsBackWrong : ChangeSpec := { name := "callsBack", fn := fun _ => fun
  | [d1, d2] => { results := [.lit (.bool false)], args := [d1, d2] }
  | _ => none }
def CallsBackWrongFalsely : Prop := callsBackRow.holds Try.pinned (OpenSpec.ofChange callsBackWrong)

/-- 'missivelaw19.CallsKnown': WHATEVER THE INPUT: true; the input reads as it did. -/
def callsKnownSpec : ChangeSpec := { name := "callsKnown", fn := fun _ => fun
  | [] => { results := [.lit (.bool true)], args := [] }
  | _ => none }
def callsKnownRow : OpenClaim := { program := "ytiogegoepgkjlaa", sum := "e027107238c4b1fc074c5411956852a53eadc4b538701eb1995c4140af2688bf", func := "missive/missivelaw19.CallsKnown", spec := "callsKnown", unfollowed := true, recurses := true, apart := false }
def CallsKnownSaid : Prop := callsKnownRow.holds Try.pinned (OpenSpec.ofChange callsKnownSpec)

/-- ITS FALSE NEIGHBOUR: 'it returns false'. Refute it at one input. -/
def callsKnownWrong : ChangeSpec := { name := "callsKnown", fn := fun _ => fun
  | [] => { results := [.lit (.bool false)], args := [] }
  | _ => none }
def CallsKnownWrongFalsely : Prop := callsKnownRow.holds Try.pinned (OpenSpec.ofChange callsKnownWrong)

/- THE SECOND FORM. 'bulk': how many values and letters a reading holds, each counted each time it is reached (what is shared counts as often as it is met; a slice's spare places count too). A statement '..UptoSaid' is the law's where the arguments, and the package variables that the reading takes, are together of bulk at most 1048576: NARROWER than '..Said'. Prove '..Said' where nothing that the law and all that it calls make is longer than what came in: it says more and counts as full. Else prove '..UptoSaid'. A law counts once. -/
mutual
def uptoBulk {H : Type} : DataW H → Nat
  | .lit (.string bytes) => bytes.length + 1
  | .lit _ => 1
  | .nil => 1
  | .ptr d => uptoBulk d + 1
  | .slice elems spare => uptoBulkAll elems + uptoBulkAll spare + 1
  | .agg parts => uptoBulkAll parts + 1
  | .iface _ d => uptoBulk d + 1
  | .map entries => uptoBulkEntries entries + 1
  | .held _ => 1
def uptoBulkAll {H : Type} : List (DataW H) → Nat
  | [] => 0
  | d :: r => uptoBulk d + uptoBulkAll r
def uptoBulkEntries {H : Type} : List (Lit × DataW H) → Nat
  | [] => 0
  | x :: r => uptoBulkEntry x + uptoBulkEntries r
def uptoBulkEntry {H : Type} : Lit × DataW H → Nat
  | (.string bytes, d) => bytes.length + uptoBulk d + 1
  | (_, d) => uptoBulk d + 1
 end
def uptoSmall : (H : Type) → List (DataW H) → Bool := fun _ ds => decide (uptoBulkAll ds ≤ 1048576)
def OpenSpec.upto (s : _root_.Go.ChangeSpec) : _root_.Go.OpenSpec := { _root_.Go.OpenSpec.ofChange s with cond := some uptoSmall }

/-- 'missivelaw19.CallsLay', WHERE WHAT IT READS IS OF BULK AT MOST 1048576: true; the input reads as it did. -/
def callsLayUptoRow : OpenClaim := { program := "ytiogegoepgkjlaa", sum := "e027107238c4b1fc074c5411956852a53eadc4b538701eb1995c4140af2688bf", func := "missive/missivelaw19.CallsLay", spec := "callsLay", unfollowed := true, recurses := true, apart := false, narrowed := true }
def CallsLayUptoSaid : Prop := callsLayUptoRow.holds Try.pinned (OpenSpec.upto callsLaySpec)

/-- 'missivelaw19.CallsAnswer', WHERE WHAT IT READS IS OF BULK AT MOST 1048576: true; the input reads as it did. -/
def callsAnswerUptoRow : OpenClaim := { program := "ytiogegoepgkjlaa", sum := "e027107238c4b1fc074c5411956852a53eadc4b538701eb1995c4140af2688bf", func := "missive/missivelaw19.CallsAnswer", spec := "callsAnswer", unfollowed := true, recurses := true, apart := false, narrowed := true }
def CallsAnswerUptoSaid : Prop := callsAnswerUptoRow.holds Try.pinned (OpenSpec.upto callsAnswerSpec)

/-- 'missivelaw19.CallsBack', WHERE WHAT IT READS IS OF BULK AT MOST 1048576: true; the input reads as it did. -/
def callsBackUptoRow : OpenClaim := { program := "ytiogegoepgkjlaa", sum := "e027107238c4b1fc074c5411956852a53eadc4b538701eb1995c4140af2688bf", func := "missive/missivelaw19.CallsBack", spec := "callsBack", unfollowed := true, recurses := true, apart := false, narrowed := true }
def CallsBackUptoSaid : Prop := callsBackUptoRow.holds Try.pinned (OpenSpec.upto callsBackSpec)

/-- 'missivelaw19.CallsKnown', WHERE WHAT IT READS IS OF BULK AT MOST 1048576: true; the input reads as it did. -/
def callsKnownUptoRow : OpenClaim := { program := "ytiogegoepgkjlaa", sum := "e027107238c4b1fc074c5411956852a53eadc4b538701eb1995c4140af2688bf", func := "missive/missivelaw19.CallsKnown", spec := "callsKnown", unfollowed := true, recurses := true, apart := false, narrowed := true }
def CallsKnownUptoSaid : Prop := callsKnownUptoRow.holds Try.pinned (OpenSpec.upto callsKnownSpec)

end Rows
end Go.Proofs.Ytiogegoepgkjlaa
