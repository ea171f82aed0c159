/-
  No cell of these rows narrows 'for every input' (looked for: loops, veiled, ifaces, maps, wideKeys, modest, calm, conditions, laid).
  DERIVED. THE GIVEN ROWS OF THIS SEAT. 7 by the template 'for every input the law returns true; each argument reads behind the call as it read before'; 0 by the template 'total and deterministic' (their statements: YtoogiblkommdfaaGreatTotals.lean).
  GIVEN WITH THE SEED: the statements are not yours to turn. If you find one false, say at which input.
  Laid BY PROGRAM, IN A SANDBOX (cutbox-rows.mjs): the forced cells as the released guide's own fill.sh prints them over the translation c8c0d1ffa77c588f… (all of the seat's roots in one cut). By AI agents, Wed Nov 11 2026. No macro, syntax, notation, axiom, sorry.
-/
import Derived.Test.YtoogiblkommdfaaGreatChecked
import GoSem.Claim
import GoSem.ClaimJoined
import GoSem.ClaimMapViews
import Derived.JoinedTies
import Derived.KernelRfl
namespace Go.Proofs.YtoogiblkommdfaaGreat
/- THE CELL 'sum', in the pinned program and in every row, IS THE sha256 OF THE DUMP (.gsa) THAT YtoogiblkommdfaaGreatProg.lean LOADS. Nothing in Lean hashes anything: it is a label: what it is worth is what the hold of that sum in a sandbox is worth. -/
noncomputable def Tryz.pinned : Pinned := { name := "ytoogiblkommdfaagreat", sum := "c8c0d1ffa77c588fffa49e0a0c13fa609743e8dfd2e39336158a9a052772bd38", checked := Tryz.checked }
namespace Rows
def none {H : Type} : Left H := { results := [], args := [] }

/-- 'missivelaw16.X3dhBytes': WHATEVER THE INPUT: true; the input reads as it did. -/
def x3dhBytesSpec : ChangeSpec := { name := "x3dhBytes", fn := fun _ => fun
  | [d1, d2] => { results := [.lit (.bool true)], args := [d1, d2] }
  | _ => none }
def x3dhBytesRow : OpenClaim := { program := "ytoogiblkommdfaagreat", sum := "c8c0d1ffa77c588fffa49e0a0c13fa609743e8dfd2e39336158a9a052772bd38", func := "missive/missivelaw16.X3dhBytes", spec := "x3dhBytes", unfollowed := true, recurses := true, plainKeys := false, apart := false }
def X3dhBytesSaid : Prop := x3dhBytesRow.holds Tryz.pinned (OpenSpec.ofChange x3dhBytesSpec)

/-- ITS FALSE NEIGHBOUR: 'it returns false'. Refute it at one input. -/
def x3dhBytesWrong : ChangeSpec := { name := "x3dhBytes", fn := fun _ => fun
  | [d1, d2] => { results := [.lit (.bool false)], args := [d1, d2] }
  | _ => none }
def X3dhBytesWrongFalsely : Prop := x3dhBytesRow.holds Tryz.pinned (OpenSpec.ofChange x3dhBytesWrong)

/-- 'missivelaw16.X3dhPlays': WHATEVER THE INPUT: true; the input reads as it did. -/
def x3dhPlaysSpec : ChangeSpec := { name := "x3dhPlays", fn := fun _ => fun
  | [d] => { results := [.lit (.bool true)], args := [d] }
  | _ => none }
def x3dhPlaysRow : OpenClaim := { program := "ytoogiblkommdfaagreat", sum := "c8c0d1ffa77c588fffa49e0a0c13fa609743e8dfd2e39336158a9a052772bd38", func := "missive/missivelaw16.X3dhPlays", spec := "x3dhPlays", unfollowed := true, recurses := true, plainKeys := false, apart := false }
def X3dhPlaysSaid : Prop := x3dhPlaysRow.holds Tryz.pinned (OpenSpec.ofChange x3dhPlaysSpec)

/-- ITS FALSE NEIGHBOUR: 'it returns false'. Refute it at one input. -/
def x3dhPlaysWrong : ChangeSpec := { name := "x3dhPlays", fn := fun _ => fun
  | [d] => { results := [.lit (.bool false)], args := [d] }
  | _ => none }
def X3dhPlaysWrongFalsely : Prop := x3dhPlaysRow.holds Tryz.pinned (OpenSpec.ofChange x3dhPlaysWrong)

/-- 'missivelaw16.X3dhAgrees': WHATEVER THE INPUT: true; the input reads as it did. -/
def x3dhAgreesSpec : ChangeSpec := { name := "x3dhAgrees", fn := fun _ => fun
  | [d1, d2, d3] => { results := [.lit (.bool true)], args := [d1, d2, d3] }
  | _ => none }
def x3dhAgreesRow : OpenClaim := { program := "ytoogiblkommdfaagreat", sum := "c8c0d1ffa77c588fffa49e0a0c13fa609743e8dfd2e39336158a9a052772bd38", func := "missive/missivelaw16.X3dhAgrees", spec := "x3dhAgrees", unfollowed := true, recurses := true, plainKeys := false, apart := false }
def X3dhAgreesSaid : Prop := x3dhAgreesRow.holds Tryz.pinned (OpenSpec.ofChange x3dhAgreesSpec)

/-- ITS FALSE NEIGHBOUR: 'it returns false'. Refute it at one input. -/
def x3dhAgreesWrong : ChangeSpec := { name := "x3dhAgrees", fn := fun _ => fun
  | [d1, d2, d3] => { results := [.lit (.bool false)], args := [d1, d2, d3] }
  | _ => none }
def X3dhAgreesWrongFalsely : Prop := x3dhAgreesRow.holds Tryz.pinned (OpenSpec.ofChange x3dhAgreesWrong)

/-- 'missivelaw16.X3dhHidden': WHATEVER THE INPUT: true; the input reads as it did. -/
def x3dhHiddenSpec : ChangeSpec := { name := "x3dhHidden", fn := fun _ => fun
  | [d] => { results := [.lit (.bool true)], args := [d] }
  | _ => none }
def x3dhHiddenRow : OpenClaim := { program := "ytoogiblkommdfaagreat", sum := "c8c0d1ffa77c588fffa49e0a0c13fa609743e8dfd2e39336158a9a052772bd38", func := "missive/missivelaw16.X3dhHidden", spec := "x3dhHidden", inPlace := ["internal/bytealg.IndexByteString", "internal/bytealg.IndexString", "internal/abi.NoEscape"], unfollowed := true, recurses := true, named := ["internal/bytealg.MaxLen"], plainKeys := false, apart := false }
def X3dhHiddenSaid : Prop := x3dhHiddenRow.holds Tryz.pinned (OpenSpec.ofChange x3dhHiddenSpec)

/-- ITS FALSE NEIGHBOUR: 'it returns false'. Refute it at one input. -/
def x3dhHiddenWrong : ChangeSpec := { name := "x3dhHidden", fn := fun _ => fun
  | [d] => { results := [.lit (.bool false)], args := [d] }
  | _ => none }
def X3dhHiddenWrongFalsely : Prop := x3dhHiddenRow.holds Tryz.pinned (OpenSpec.ofChange x3dhHiddenWrong)

/-- 'missivelaw16.X3dhBack': WHATEVER THE INPUT: true; the input reads as it did. -/
def x3dhBackSpec : ChangeSpec := { name := "x3dhBack", fn := fun _ => fun
  | [d1, d2] => { results := [.lit (.bool true)], args := [d1, d2] }
  | _ => none }
def x3dhBackRow : OpenClaim := { program := "ytoogiblkommdfaagreat", sum := "c8c0d1ffa77c588fffa49e0a0c13fa609743e8dfd2e39336158a9a052772bd38", func := "missive/missivelaw16.X3dhBack", spec := "x3dhBack", unfollowed := true, recurses := true, plainKeys := false, apart := false }
def X3dhBackSaid : Prop := x3dhBackRow.holds Tryz.pinned (OpenSpec.ofChange x3dhBackSpec)

/-- ITS FALSE NEIGHBOUR: 'it returns false'. Refute it at one input. -/
def x3dhBackWrong : ChangeSpec := { name := "x3dhBack", fn := fun _ => fun
  | [d1, d2] => { results := [.lit (.bool false)], args := [d1, d2] }
  | _ => none }
def X3dhBackWrongFalsely : Prop := x3dhBackRow.holds Tryz.pinned (OpenSpec.ofChange x3dhBackWrong)

/-- 'missivelaw16.X3dhAlone': WHATEVER THE INPUT: true; the input reads as it did. -/
def x3dhAloneSpec : ChangeSpec := { name := "x3dhAlone", fn := fun _ => fun
  | [d1, d2, d3] => { results := [.lit (.bool true)], args := [d1, d2, d3] }
  | _ => none }
def x3dhAloneRow : OpenClaim := { program := "ytoogiblkommdfaagreat", sum := "c8c0d1ffa77c588fffa49e0a0c13fa609743e8dfd2e39336158a9a052772bd38", func := "missive/missivelaw16.X3dhAlone", spec := "x3dhAlone", unfollowed := true, recurses := true, plainKeys := false, apart := false }
def X3dhAloneSaid : Prop := x3dhAloneRow.holds Tryz.pinned (OpenSpec.ofChange x3dhAloneSpec)

/-- ITS FALSE NEIGHBOUR: 'it returns false'. Refute it at one input. -/
def x3dhAloneWrong : ChangeSpec := { name := "x3dhAlone", fn := fun _ => fun
  | [d1, d2, d3] => { results := [.lit (.bool false)], args := [d1, d2, d3] }
  | _ => none }
def X3dhAloneWrongFalsely : Prop := x3dhAloneRow.holds Tryz.pinned (OpenSpec.ofChange x3dhAloneWrong)

/-- 'missivelaw16.X3dhKnown': WHATEVER THE INPUT: true; the input reads as it did. -/
def x3dhKnownSpec : ChangeSpec := { name := "x3dhKnown", fn := fun _ => fun
  | [] => { results := [.lit (.bool true)], args := [] }
  | _ => none }
def x3dhKnownRow : OpenClaim := { program := "ytoogiblkommdfaagreat", sum := "c8c0d1ffa77c588fffa49e0a0c13fa609743e8dfd2e39336158a9a052772bd38", func := "missive/missivelaw16.X3dhKnown", spec := "x3dhKnown", unfollowed := true, recurses := true, plainKeys := false, apart := false }
def X3dhKnownSaid : Prop := x3dhKnownRow.holds Tryz.pinned (OpenSpec.ofChange x3dhKnownSpec)

/-- ITS FALSE NEIGHBOUR: 'it returns false'. Refute it at one input. -/
def x3dhKnownWrong : ChangeSpec := { name := "x3dhKnown", fn := fun _ => fun
  | [] => { results := [.lit (.bool false)], args := [] }
  | _ => none }
def X3dhKnownWrongFalsely : Prop := x3dhKnownRow.holds Tryz.pinned (OpenSpec.ofChange x3dhKnownWrong)

/- THE SECOND FORM. 'bulk': how many values and letters a reading holds, each counted each time it is reached (what is shared counts as often as it is met; a slice's spare places count too). A statement '..UptoSaid' is the law's where the arguments, and the package variables that the reading takes, are together of bulk at most 1048576: NARROWER than '..Said'. Prove '..Said' where nothing that the law and all that it calls make is longer than what came in: it says more and counts as full. Else prove '..UptoSaid'. A law counts once. -/
mutual
def uptoBulk {H : Type} : DataW H → Nat
  | .lit (.string bytes) => bytes.length + 1
  | .lit _ => 1
  | .nil => 1
  | .ptr d => uptoBulk d + 1
  | .slice elems spare => uptoBulkAll elems + uptoBulkAll spare + 1
  | .agg parts => uptoBulkAll parts + 1
  | .iface _ d => uptoBulk d + 1
  | .map entries => uptoBulkEntries entries + 1
  | .held _ => 1
def uptoBulkAll {H : Type} : List (DataW H) → Nat
  | [] => 0
  | d :: r => uptoBulk d + uptoBulkAll r
def uptoBulkEntries {H : Type} : List (Lit × DataW H) → Nat
  | [] => 0
  | x :: r => uptoBulkEntry x + uptoBulkEntries r
def uptoBulkEntry {H : Type} : Lit × DataW H → Nat
  | (.string bytes, d) => bytes.length + uptoBulk d + 1
  | (_, d) => uptoBulk d + 1
 end
def uptoSmall : (H : Type) → List (DataW H) → Bool := fun _ ds => decide (uptoBulkAll ds ≤ 1048576)
def OpenSpec.upto (s : _root_.Go.ChangeSpec) : _root_.Go.OpenSpec := { _root_.Go.OpenSpec.ofChange s with cond := some uptoSmall }

/-- 'missivelaw16.X3dhBytes', WHERE WHAT IT READS IS OF BULK AT MOST 1048576: true; the input reads as it did. -/
def x3dhBytesUptoRow : OpenClaim := { program := "ytoogiblkommdfaagreat", sum := "c8c0d1ffa77c588fffa49e0a0c13fa609743e8dfd2e39336158a9a052772bd38", func := "missive/missivelaw16.X3dhBytes", spec := "x3dhBytes", unfollowed := true, recurses := true, plainKeys := false, apart := false, narrowed := true }
def X3dhBytesUptoSaid : Prop := x3dhBytesUptoRow.holds Tryz.pinned (OpenSpec.upto x3dhBytesSpec)

/-- 'missivelaw16.X3dhPlays', WHERE WHAT IT READS IS OF BULK AT MOST 1048576: true; the input reads as it did. -/
def x3dhPlaysUptoRow : OpenClaim := { program := "ytoogiblkommdfaagreat", sum := "c8c0d1ffa77c588fffa49e0a0c13fa609743e8dfd2e39336158a9a052772bd38", func := "missive/missivelaw16.X3dhPlays", spec := "x3dhPlays", unfollowed := true, recurses := true, plainKeys := false, apart := false, narrowed := true }
def X3dhPlaysUptoSaid : Prop := x3dhPlaysUptoRow.holds Tryz.pinned (OpenSpec.upto x3dhPlaysSpec)

/-- 'missivelaw16.X3dhAgrees', WHERE WHAT IT READS IS OF BULK AT MOST 1048576: true; the input reads as it did. -/
def x3dhAgreesUptoRow : OpenClaim := { program := "ytoogiblkommdfaagreat", sum := "c8c0d1ffa77c588fffa49e0a0c13fa609743e8dfd2e39336158a9a052772bd38", func := "missive/missivelaw16.X3dhAgrees", spec := "x3dhAgrees", unfollowed := true, recurses := true, plainKeys := false, apart := false, narrowed := true }
def X3dhAgreesUptoSaid : Prop := x3dhAgreesUptoRow.holds Tryz.pinned (OpenSpec.upto x3dhAgreesSpec)

/-- 'missivelaw16.X3dhHidden', WHERE WHAT IT READS IS OF BULK AT MOST 1048576: true; the input reads as it did. -/
def x3dhHiddenUptoRow : OpenClaim := { program := "ytoogiblkommdfaagreat", sum := "c8c0d1ffa77c588fffa49e0a0c13fa609743e8dfd2e39336158a9a052772bd38", func := "missive/missivelaw16.X3dhHidden", spec := "x3dhHidden", inPlace := ["internal/bytealg.IndexByteString", "internal/bytealg.IndexString", "internal/abi.NoEscape"], unfollowed := true, recurses := true, named := ["internal/bytealg.MaxLen"], plainKeys := false, apart := false, narrowed := true }
def X3dhHiddenUptoSaid : Prop := x3dhHiddenUptoRow.holds Tryz.pinned (OpenSpec.upto x3dhHiddenSpec)

/-- 'missivelaw16.X3dhBack', WHERE WHAT IT READS IS OF BULK AT MOST 1048576: true; the input reads as it did. -/
def x3dhBackUptoRow : OpenClaim := { program := "ytoogiblkommdfaagreat", sum := "c8c0d1ffa77c588fffa49e0a0c13fa609743e8dfd2e39336158a9a052772bd38", func := "missive/missivelaw16.X3dhBack", spec := "x3dhBack", unfollowed := true, recurses := true, plainKeys := false, apart := false, narrowed := true }
def X3dhBackUptoSaid : Prop := x3dhBackUptoRow.holds Tryz.pinned (OpenSpec.upto x3dhBackSpec)

/-- 'missivelaw16.X3dhAlone', WHERE WHAT IT READS IS OF BULK AT MOST 1048576: true; the input reads as it did. -/
def x3dhAloneUptoRow : OpenClaim := { program := "ytoogiblkommdfaagreat", sum := "c8c0d1ffa77c588fffa49e0a0c13fa609743e8dfd2e39336158a9a052772bd38", func := "missive/missivelaw16.X3dhAlone", spec := "x3dhAlone", unfollowed := true, recurses := true, plainKeys := false, apart := false, narrowed := true }
def X3dhAloneUptoSaid : Prop := x3dhAloneUptoRow.holds Tryz.pinned (OpenSpec.upto x3dhAloneSpec)

/-- 'missivelaw16.X3dhKnown', WHERE WHAT IT READS IS OF BULK AT MOST 1048576: true; the input reads as it did. -/
def x3dhKnownUptoRow : OpenClaim := { program := "ytoogiblkommdfaagreat", sum := "c8c0d1ffa77c588fffa49e0a0c13fa609743e8dfd2e39336158a9a052772bd38", func := "missive/missivelaw16.X3dhKnown", spec := "x3dhKnown", unfollowed := true, recurses := true, plainKeys := false, apart := false, narrowed := true }
def X3dhKnownUptoSaid : Prop := x3dhKnownUptoRow.holds Tryz.pinned (OpenSpec.upto x3dhKnownSpec)

end Rows
end Go.Proofs.YtoogiblkommdfaaGreat
