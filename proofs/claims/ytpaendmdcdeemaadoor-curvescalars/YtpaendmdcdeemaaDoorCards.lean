/-
  DERIVED. GIVEN WITH THE SEED: THE CARDS: each row of YtpaendmdcdeemaaDoorRows.lean that lists a variable, with what it lists TIED to the program's text (the seventh form; the later family's looks); each row that meets fmt, with fmt's text TOLD by the authors' own Lean function (tested against real Go, not proved from fmt's source: count such statements apart). THE CARD IS WHAT COUNTS. Prove the row's statement (the work); the ties are given (YtpaendmdcdeemaaDoorTie.lean); close each card by the builder's one call (the guide's Derived/Test/ToyasCard.lean, 'card_holds'). Laid BY PROGRAM, IN A SANDBOX (cutbox-door.mjs). By AI agents, Wed Nov 11 2026. No macro, syntax, notation, axiom, sorry.
-/
import Derived.Test.YtpaendmdcdeemaaDoorRows
import GoSem.ClaimSeven
namespace Go.Proofs.YtpaendmdcdeemaaDoor
namespace Rows

/-- THE TIED CARD OF 'missivelaw04.CurveReads'. -/
def curveReadsCard : Claim7 := { stood := { row := curveReadsRow, standIns := [], harness := (true, "c1fe7c3feaafa87d18d9948de3135ce0744ae438c62809106cd5f94a78a2a5a8"), looks := false }, kinds := [], alts := [], laidByText := true, laidKinds := [.data, .data, .data, .data], laidTests := true, laidLooks := .later }
def CurveReadsCardSaid : Prop := Claim7.holds Tryd.pinned (.plain (OpenSpec.ofChange curveReadsSpec)) curveReadsCard

/-- THE TIED CARD OF 'missivelaw04.CurveSums'. -/
def curveSumsCard : Claim7 := { stood := { row := curveSumsRow, standIns := [], harness := (true, "c1fe7c3feaafa87d18d9948de3135ce0744ae438c62809106cd5f94a78a2a5a8"), looks := false }, kinds := [], alts := [], laidByText := true, laidKinds := [.data, .data, .data, .data], laidTests := true, laidLooks := .later }
def CurveSumsCardSaid : Prop := Claim7.holds Tryd.pinned (.plain (OpenSpec.ofChange curveSumsSpec)) curveSumsCard

/-- THE TIED CARD OF 'missivelaw04.CurveShares'. -/
def curveSharesCard : Claim7 := { stood := { row := curveSharesRow, standIns := [], harness := (true, "c1fe7c3feaafa87d18d9948de3135ce0744ae438c62809106cd5f94a78a2a5a8"), looks := false }, kinds := [], alts := [], laidByText := true, laidKinds := [.data, .data, .data, .data], laidTests := true, laidLooks := .later }
def CurveSharesCardSaid : Prop := Claim7.holds Tryd.pinned (.plain (OpenSpec.ofChange curveSharesSpec)) curveSharesCard

/-- THE TIED CARD OF 'missivelaw04.CurveGroup'. -/
def curveGroupCard : Claim7 := { stood := { row := curveGroupRow, standIns := [], harness := (true, "c1fe7c3feaafa87d18d9948de3135ce0744ae438c62809106cd5f94a78a2a5a8"), looks := false }, kinds := [], alts := [], laidByText := true, laidKinds := [.data, .data, .data, .data], laidTests := true, laidLooks := .later }
def CurveGroupCardSaid : Prop := Claim7.holds Tryd.pinned (.plain (OpenSpec.ofChange curveGroupSpec)) curveGroupCard

/-- THE TIED CARD OF 'missivelaw04.CurveTimes'. -/
def curveTimesCard : Claim7 := { stood := { row := curveTimesRow, standIns := [], harness := (true, "c1fe7c3feaafa87d18d9948de3135ce0744ae438c62809106cd5f94a78a2a5a8"), looks := false }, kinds := [], alts := [], laidByText := true, laidKinds := [.data, .data, .data, .data], laidTests := true, laidLooks := .later }
def CurveTimesCardSaid : Prop := Claim7.holds Tryd.pinned (.plain (OpenSpec.ofChange curveTimesSpec)) curveTimesCard

/-- THE TIED CARD OF 'missivelaw04.CurveScalars'. -/
def curveScalarsCard : Claim7 := { stood := { row := curveScalarsRow, standIns := [], harness := (true, "c1fe7c3feaafa87d18d9948de3135ce0744ae438c62809106cd5f94a78a2a5a8"), looks := false }, kinds := [], alts := [], laidByText := true, laidKinds := [.data, .data, .data, .data, .data, .data], laidTests := true, laidLooks := .later }
def CurveScalarsCardSaid : Prop := Claim7.holds Tryd.pinned (.plain (OpenSpec.ofChange curveScalarsSpec)) curveScalarsCard

/-- THE TIED CARD OF 'missivelaw04.CurveAgrees'. -/
def curveAgreesCard : Claim7 := { stood := { row := curveAgreesRow, standIns := [], harness := (true, "c1fe7c3feaafa87d18d9948de3135ce0744ae438c62809106cd5f94a78a2a5a8"), looks := false }, kinds := [], alts := [], laidByText := true, laidKinds := [.data, .data, .data, .data], laidTests := true, laidLooks := .later }
def CurveAgreesCardSaid : Prop := Claim7.holds Tryd.pinned (.plain (OpenSpec.ofChange curveAgreesSpec)) curveAgreesCard

/-- THE TIED CARD OF 'missivelaw04.CurveBack'. -/
def curveBackCard : Claim7 := { stood := { row := curveBackRow, standIns := [], harness := (true, "c1fe7c3feaafa87d18d9948de3135ce0744ae438c62809106cd5f94a78a2a5a8"), looks := false }, kinds := [], alts := [], laidByText := true, laidKinds := [.data, .data, .data, .data], laidTests := true, laidLooks := .later }
def CurveBackCardSaid : Prop := Claim7.holds Tryd.pinned (.plain (OpenSpec.ofChange curveBackSpec)) curveBackCard

/-- THE TIED CARD OF 'missivelaw04.CurveKnown'. -/
def curveKnownCard : Claim7 := { stood := { row := curveKnownRow, standIns := [], harness := (true, "c1fe7c3feaafa87d18d9948de3135ce0744ae438c62809106cd5f94a78a2a5a8"), looks := false }, kinds := [], alts := [], laidByText := true, laidKinds := [.data, .data, .data, .data], laidTests := true, laidLooks := .later }
def CurveKnownCardSaid : Prop := Claim7.holds Tryd.pinned (.plain (OpenSpec.ofChange curveKnownSpec)) curveKnownCard

/-- THE SECOND FORM's CARD OF 'missivelaw04.CurveReads'. -/
def curveReadsUptoCard : Claim7 := { stood := { row := curveReadsUptoRow, standIns := [], harness := (true, "c1fe7c3feaafa87d18d9948de3135ce0744ae438c62809106cd5f94a78a2a5a8"), looks := false }, kinds := [], alts := [], laidByText := true, laidKinds := [.data, .data, .data, .data], laidTests := true, laidLooks := .later }
def CurveReadsUptoCardSaid : Prop := Claim7.holds Tryd.pinned (.plain (OpenSpec.upto curveReadsSpec)) curveReadsUptoCard

/-- THE SECOND FORM's CARD OF 'missivelaw04.CurveSums'. -/
def curveSumsUptoCard : Claim7 := { stood := { row := curveSumsUptoRow, standIns := [], harness := (true, "c1fe7c3feaafa87d18d9948de3135ce0744ae438c62809106cd5f94a78a2a5a8"), looks := false }, kinds := [], alts := [], laidByText := true, laidKinds := [.data, .data, .data, .data], laidTests := true, laidLooks := .later }
def CurveSumsUptoCardSaid : Prop := Claim7.holds Tryd.pinned (.plain (OpenSpec.upto curveSumsSpec)) curveSumsUptoCard

/-- THE SECOND FORM's CARD OF 'missivelaw04.CurveShares'. -/
def curveSharesUptoCard : Claim7 := { stood := { row := curveSharesUptoRow, standIns := [], harness := (true, "c1fe7c3feaafa87d18d9948de3135ce0744ae438c62809106cd5f94a78a2a5a8"), looks := false }, kinds := [], alts := [], laidByText := true, laidKinds := [.data, .data, .data, .data], laidTests := true, laidLooks := .later }
def CurveSharesUptoCardSaid : Prop := Claim7.holds Tryd.pinned (.plain (OpenSpec.upto curveSharesSpec)) curveSharesUptoCard

/-- THE SECOND FORM's CARD OF 'missivelaw04.CurveGroup'. -/
def curveGroupUptoCard : Claim7 := { stood := { row := curveGroupUptoRow, standIns := [], harness := (true, "c1fe7c3feaafa87d18d9948de3135ce0744ae438c62809106cd5f94a78a2a5a8"), looks := false }, kinds := [], alts := [], laidByText := true, laidKinds := [.data, .data, .data, .data], laidTests := true, laidLooks := .later }
def CurveGroupUptoCardSaid : Prop := Claim7.holds Tryd.pinned (.plain (OpenSpec.upto curveGroupSpec)) curveGroupUptoCard

/-- THE SECOND FORM's CARD OF 'missivelaw04.CurveTimes'. -/
def curveTimesUptoCard : Claim7 := { stood := { row := curveTimesUptoRow, standIns := [], harness := (true, "c1fe7c3feaafa87d18d9948de3135ce0744ae438c62809106cd5f94a78a2a5a8"), looks := false }, kinds := [], alts := [], laidByText := true, laidKinds := [.data, .data, .data, .data], laidTests := true, laidLooks := .later }
def CurveTimesUptoCardSaid : Prop := Claim7.holds Tryd.pinned (.plain (OpenSpec.upto curveTimesSpec)) curveTimesUptoCard

/-- THE SECOND FORM's CARD OF 'missivelaw04.CurveScalars'. -/
def curveScalarsUptoCard : Claim7 := { stood := { row := curveScalarsUptoRow, standIns := [], harness := (true, "c1fe7c3feaafa87d18d9948de3135ce0744ae438c62809106cd5f94a78a2a5a8"), looks := false }, kinds := [], alts := [], laidByText := true, laidKinds := [.data, .data, .data, .data, .data, .data], laidTests := true, laidLooks := .later }
def CurveScalarsUptoCardSaid : Prop := Claim7.holds Tryd.pinned (.plain (OpenSpec.upto curveScalarsSpec)) curveScalarsUptoCard

/-- THE SECOND FORM's CARD OF 'missivelaw04.CurveAgrees'. -/
def curveAgreesUptoCard : Claim7 := { stood := { row := curveAgreesUptoRow, standIns := [], harness := (true, "c1fe7c3feaafa87d18d9948de3135ce0744ae438c62809106cd5f94a78a2a5a8"), looks := false }, kinds := [], alts := [], laidByText := true, laidKinds := [.data, .data, .data, .data], laidTests := true, laidLooks := .later }
def CurveAgreesUptoCardSaid : Prop := Claim7.holds Tryd.pinned (.plain (OpenSpec.upto curveAgreesSpec)) curveAgreesUptoCard

/-- THE SECOND FORM's CARD OF 'missivelaw04.CurveBack'. -/
def curveBackUptoCard : Claim7 := { stood := { row := curveBackUptoRow, standIns := [], harness := (true, "c1fe7c3feaafa87d18d9948de3135ce0744ae438c62809106cd5f94a78a2a5a8"), looks := false }, kinds := [], alts := [], laidByText := true, laidKinds := [.data, .data, .data, .data], laidTests := true, laidLooks := .later }
def CurveBackUptoCardSaid : Prop := Claim7.holds Tryd.pinned (.plain (OpenSpec.upto curveBackSpec)) curveBackUptoCard

/-- THE SECOND FORM's CARD OF 'missivelaw04.CurveKnown'. -/
def curveKnownUptoCard : Claim7 := { stood := { row := curveKnownUptoRow, standIns := [], harness := (true, "c1fe7c3feaafa87d18d9948de3135ce0744ae438c62809106cd5f94a78a2a5a8"), looks := false }, kinds := [], alts := [], laidByText := true, laidKinds := [.data, .data, .data, .data], laidTests := true, laidLooks := .later }
def CurveKnownUptoCardSaid : Prop := Claim7.holds Tryd.pinned (.plain (OpenSpec.upto curveKnownSpec)) curveKnownUptoCard
end Rows
end Go.Proofs.YtpaendmdcdeemaaDoor
