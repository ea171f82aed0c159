/-
  DERIVED. GIVEN WITH THE SEED: THE CARDS: each row of YtdblnbcclfenkaaDoorRows.lean that lists a variable, with what it lists TIED to the program's text (the seventh form; the later family's looks); each row that meets fmt, with fmt's text TOLD by the authors' own Lean function (tested against real Go, not proved from fmt's source: count such statements apart). THE CARD IS WHAT COUNTS. Prove the row's statement (the work); the ties are given (YtdblnbcclfenkaaDoorTie.lean); close each card by the builder's one call (the guide's Derived/Test/ToyasCard.lean, 'card_holds'). Laid BY PROGRAM, IN A SANDBOX (cutbox-door.mjs). By AI agents, Wed Nov 11 2026. No macro, syntax, notation, axiom, sorry.
-/
import Derived.Test.YtdblnbcclfenkaaDoorRows
import GoSem.ClaimSeven
namespace Go.Proofs.YtdblnbcclfenkaaDoor
namespace Rows

/-- THE TIED CARD OF 'missivelaw03.ScalarReduces'. -/
def scalarReducesCard : Claim7 := { stood := { row := scalarReducesRow, standIns := [], harness := (true, "e7e427e05407b23f870b7063499006b2db9d98c81bca36e9e9bfa509f11a2be4"), looks := false }, kinds := [], alts := [], laidByText := true, laidKinds := [.data, .data], laidTests := true, laidLooks := .later }
def ScalarReducesCardSaid : Prop := Claim7.holds Tryd.pinned (.plain (OpenSpec.ofChange scalarReducesSpec)) scalarReducesCard

/-- THE TIED CARD OF 'missivelaw03.ScalarAdds'. -/
def scalarAddsCard : Claim7 := { stood := { row := scalarAddsRow, standIns := [], harness := (true, "e7e427e05407b23f870b7063499006b2db9d98c81bca36e9e9bfa509f11a2be4"), looks := false }, kinds := [], alts := [], laidByText := true, laidKinds := [.data, .data], laidTests := true, laidLooks := .later }
def ScalarAddsCardSaid : Prop := Claim7.holds Tryd.pinned (.plain (OpenSpec.ofChange scalarAddsSpec)) scalarAddsCard

/-- THE TIED CARD OF 'missivelaw03.ScalarMuls'. -/
def scalarMulsCard : Claim7 := { stood := { row := scalarMulsRow, standIns := [], harness := (true, "e7e427e05407b23f870b7063499006b2db9d98c81bca36e9e9bfa509f11a2be4"), looks := false }, kinds := [], alts := [], laidByText := true, laidKinds := [.data, .data], laidTests := true, laidLooks := .later }
def ScalarMulsCardSaid : Prop := Claim7.holds Tryd.pinned (.plain (OpenSpec.ofChange scalarMulsSpec)) scalarMulsCard

/-- THE TIED CARD OF 'missivelaw03.ScalarRing'. -/
def scalarRingCard : Claim7 := { stood := { row := scalarRingRow, standIns := [], harness := (true, "e7e427e05407b23f870b7063499006b2db9d98c81bca36e9e9bfa509f11a2be4"), looks := false }, kinds := [], alts := [], laidByText := true, laidKinds := [.data, .data], laidTests := true, laidLooks := .later }
def ScalarRingCardSaid : Prop := Claim7.holds Tryd.pinned (.plain (OpenSpec.ofChange scalarRingSpec)) scalarRingCard

/-- THE TIED CARD OF 'missivelaw03.ScalarLess'. -/
def scalarLessCard : Claim7 := { stood := { row := scalarLessRow, standIns := [], harness := (true, "e7e427e05407b23f870b7063499006b2db9d98c81bca36e9e9bfa509f11a2be4"), looks := false }, kinds := [], alts := [], laidByText := true, laidKinds := [.data, .data], laidTests := true, laidLooks := .later }
def ScalarLessCardSaid : Prop := Claim7.holds Tryd.pinned (.plain (OpenSpec.ofChange scalarLessSpec)) scalarLessCard

/-- THE TIED CARD OF 'missivelaw03.ScalarParts'. -/
def scalarPartsCard : Claim7 := { stood := { row := scalarPartsRow, standIns := [], harness := (true, "e7e427e05407b23f870b7063499006b2db9d98c81bca36e9e9bfa509f11a2be4"), looks := false }, kinds := [], alts := [], laidByText := true, laidKinds := [.data, .data], laidTests := true, laidLooks := .later }
def ScalarPartsCardSaid : Prop := Claim7.holds Tryd.pinned (.plain (OpenSpec.ofChange scalarPartsSpec)) scalarPartsCard

/-- THE TIED CARD OF 'missivelaw03.ScalarKnown'. -/
def scalarKnownCard : Claim7 := { stood := { row := scalarKnownRow, standIns := [], harness := (true, "e7e427e05407b23f870b7063499006b2db9d98c81bca36e9e9bfa509f11a2be4"), looks := false }, kinds := [], alts := [], laidByText := true, laidKinds := [.data, .data], laidTests := true, laidLooks := .later }
def ScalarKnownCardSaid : Prop := Claim7.holds Tryd.pinned (.plain (OpenSpec.ofChange scalarKnownSpec)) scalarKnownCard

/-- THE SECOND FORM's CARD OF 'missivelaw03.ScalarReduces'. -/
def scalarReducesUptoCard : Claim7 := { stood := { row := scalarReducesUptoRow, standIns := [], harness := (true, "e7e427e05407b23f870b7063499006b2db9d98c81bca36e9e9bfa509f11a2be4"), looks := false }, kinds := [], alts := [], laidByText := true, laidKinds := [.data, .data], laidTests := true, laidLooks := .later }
def ScalarReducesUptoCardSaid : Prop := Claim7.holds Tryd.pinned (.plain (OpenSpec.upto scalarReducesSpec)) scalarReducesUptoCard

/-- THE SECOND FORM's CARD OF 'missivelaw03.ScalarAdds'. -/
def scalarAddsUptoCard : Claim7 := { stood := { row := scalarAddsUptoRow, standIns := [], harness := (true, "e7e427e05407b23f870b7063499006b2db9d98c81bca36e9e9bfa509f11a2be4"), looks := false }, kinds := [], alts := [], laidByText := true, laidKinds := [.data, .data], laidTests := true, laidLooks := .later }
def ScalarAddsUptoCardSaid : Prop := Claim7.holds Tryd.pinned (.plain (OpenSpec.upto scalarAddsSpec)) scalarAddsUptoCard

/-- THE SECOND FORM's CARD OF 'missivelaw03.ScalarMuls'. -/
def scalarMulsUptoCard : Claim7 := { stood := { row := scalarMulsUptoRow, standIns := [], harness := (true, "e7e427e05407b23f870b7063499006b2db9d98c81bca36e9e9bfa509f11a2be4"), looks := false }, kinds := [], alts := [], laidByText := true, laidKinds := [.data, .data], laidTests := true, laidLooks := .later }
def ScalarMulsUptoCardSaid : Prop := Claim7.holds Tryd.pinned (.plain (OpenSpec.upto scalarMulsSpec)) scalarMulsUptoCard

/-- THE SECOND FORM's CARD OF 'missivelaw03.ScalarRing'. -/
def scalarRingUptoCard : Claim7 := { stood := { row := scalarRingUptoRow, standIns := [], harness := (true, "e7e427e05407b23f870b7063499006b2db9d98c81bca36e9e9bfa509f11a2be4"), looks := false }, kinds := [], alts := [], laidByText := true, laidKinds := [.data, .data], laidTests := true, laidLooks := .later }
def ScalarRingUptoCardSaid : Prop := Claim7.holds Tryd.pinned (.plain (OpenSpec.upto scalarRingSpec)) scalarRingUptoCard

/-- THE SECOND FORM's CARD OF 'missivelaw03.ScalarLess'. -/
def scalarLessUptoCard : Claim7 := { stood := { row := scalarLessUptoRow, standIns := [], harness := (true, "e7e427e05407b23f870b7063499006b2db9d98c81bca36e9e9bfa509f11a2be4"), looks := false }, kinds := [], alts := [], laidByText := true, laidKinds := [.data, .data], laidTests := true, laidLooks := .later }
def ScalarLessUptoCardSaid : Prop := Claim7.holds Tryd.pinned (.plain (OpenSpec.upto scalarLessSpec)) scalarLessUptoCard

/-- THE SECOND FORM's CARD OF 'missivelaw03.ScalarParts'. -/
def scalarPartsUptoCard : Claim7 := { stood := { row := scalarPartsUptoRow, standIns := [], harness := (true, "e7e427e05407b23f870b7063499006b2db9d98c81bca36e9e9bfa509f11a2be4"), looks := false }, kinds := [], alts := [], laidByText := true, laidKinds := [.data, .data], laidTests := true, laidLooks := .later }
def ScalarPartsUptoCardSaid : Prop := Claim7.holds Tryd.pinned (.plain (OpenSpec.upto scalarPartsSpec)) scalarPartsUptoCard

/-- THE SECOND FORM's CARD OF 'missivelaw03.ScalarKnown'. -/
def scalarKnownUptoCard : Claim7 := { stood := { row := scalarKnownUptoRow, standIns := [], harness := (true, "e7e427e05407b23f870b7063499006b2db9d98c81bca36e9e9bfa509f11a2be4"), looks := false }, kinds := [], alts := [], laidByText := true, laidKinds := [.data, .data], laidTests := true, laidLooks := .later }
def ScalarKnownUptoCardSaid : Prop := Claim7.holds Tryd.pinned (.plain (OpenSpec.upto scalarKnownSpec)) scalarKnownUptoCard
end Rows
end Go.Proofs.YtdblnbcclfenkaaDoor
