/-
  DERIVED. GIVEN WITH THE SEED: THE CARDS: each row of YteajibbphcfmeaaGreatDoorRows.lean that lists a variable, with what it lists TIED to the program's text (the seventh form; the later family's looks); each row that meets fmt, with fmt's text TOLD by the authors' own Lean function (tested against real Go, not proved from fmt's source: count such statements apart). THE CARD IS WHAT COUNTS. Prove the row's statement (the work); the ties are given (YteajibbphcfmeaaGreatDoorTie.lean); close each card by the builder's one call (the guide's Derived/Test/ToyasCard.lean, 'card_holds'). Laid BY PROGRAM, IN A SANDBOX (cutbox-door.mjs). By AI agents, Wed Nov 11 2026. No macro, syntax, notation, axiom, sorry.
-/
import Derived.Test.YteajibbphcfmeaaGreatDoorRows
import GoSem.ClaimSeven
namespace Go.Proofs.YteajibbphcfmeaaGreatDoor
namespace Rows

/-- THE TIED CARD OF 'strobelaw01.NumberSums'. -/
def numberSumsCard : Claim7 := { stood := { row := numberSumsRow, standIns := [], harness := (true, "860404d2d6c84ed4751323fbac47adf377f0a34b9778046e13f003fc9a87ae64"), looks := false }, kinds := [], alts := [], laidByText := true, laidKinds := [.data, .data, .data, .data], laidTests := true, laidLooks := .later }
def NumberSumsCardSaid : Prop := Claim7.holds Tryz.pinned (.plain (OpenSpec.ofChange numberSumsSpec)) numberSumsCard

/-- THE TIED CARD OF 'strobelaw01.NumberForms'. -/
def numberFormsCard : Claim7 := { stood := { row := numberFormsRow, standIns := [], harness := (true, "860404d2d6c84ed4751323fbac47adf377f0a34b9778046e13f003fc9a87ae64"), looks := false }, kinds := [], alts := [], laidByText := true, laidKinds := [.data, .data, .data, .data], laidTests := true, laidLooks := .later }
def NumberFormsCardSaid : Prop := Claim7.holds Tryz.pinned (.plain (OpenSpec.ofChange numberFormsSpec)) numberFormsCard

/-- THE TIED CARD OF 'strobelaw01.NumberDeals'. -/
def numberDealsCard : Claim7 := { stood := { row := numberDealsRow, standIns := [], harness := (true, "860404d2d6c84ed4751323fbac47adf377f0a34b9778046e13f003fc9a87ae64"), looks := false }, kinds := [], alts := [], laidByText := true, laidKinds := [.data, .data, .data, .data], laidTests := true, laidLooks := .later }
def NumberDealsCardSaid : Prop := Claim7.holds Tryz.pinned (.plain (OpenSpec.ofChange numberDealsSpec)) numberDealsCard

/-- THE TIED CARD OF 'strobetop.TopBeamFloats'. -/
def topBeamFloatsCard : Claim7 := { stood := { row := topBeamFloatsRow, standIns := [], harness := (true, "860404d2d6c84ed4751323fbac47adf377f0a34b9778046e13f003fc9a87ae64"), looks := false }, kinds := [], alts := [], laidByText := true, laidKinds := [.data, .data, .data, .data], laidTests := true, laidLooks := .later }
def TopBeamFloatsCardSaid : Prop := Claim7.holds Tryz.pinned (.plain (OpenSpec.ofChange topBeamFloatsSpec)) topBeamFloatsCard

/-- THE TIED CARD OF 'strobetop.TopBeamTables'. -/
def topBeamTablesCard : Claim7 := { stood := { row := topBeamTablesRow, standIns := [], harness := (true, "860404d2d6c84ed4751323fbac47adf377f0a34b9778046e13f003fc9a87ae64"), looks := false }, kinds := [], alts := [], laidByText := true, laidKinds := [.data, .data, .data, .data], laidTests := true, laidLooks := .later }
def TopBeamTablesCardSaid : Prop := Claim7.holds Tryz.pinned (.plain (OpenSpec.ofChange topBeamTablesSpec)) topBeamTablesCard

/-- THE SECOND FORM's CARD OF 'strobelaw01.NumberSums'. -/
def numberSumsUptoCard : Claim7 := { stood := { row := numberSumsUptoRow, standIns := [], harness := (true, "860404d2d6c84ed4751323fbac47adf377f0a34b9778046e13f003fc9a87ae64"), looks := false }, kinds := [], alts := [], laidByText := true, laidKinds := [.data, .data, .data, .data], laidTests := true, laidLooks := .later }
def NumberSumsUptoCardSaid : Prop := Claim7.holds Tryz.pinned (.plain (OpenSpec.upto numberSumsSpec)) numberSumsUptoCard

/-- THE SECOND FORM's CARD OF 'strobelaw01.NumberForms'. -/
def numberFormsUptoCard : Claim7 := { stood := { row := numberFormsUptoRow, standIns := [], harness := (true, "860404d2d6c84ed4751323fbac47adf377f0a34b9778046e13f003fc9a87ae64"), looks := false }, kinds := [], alts := [], laidByText := true, laidKinds := [.data, .data, .data, .data], laidTests := true, laidLooks := .later }
def NumberFormsUptoCardSaid : Prop := Claim7.holds Tryz.pinned (.plain (OpenSpec.upto numberFormsSpec)) numberFormsUptoCard

/-- THE SECOND FORM's CARD OF 'strobelaw01.NumberDeals'. -/
def numberDealsUptoCard : Claim7 := { stood := { row := numberDealsUptoRow, standIns := [], harness := (true, "860404d2d6c84ed4751323fbac47adf377f0a34b9778046e13f003fc9a87ae64"), looks := false }, kinds := [], alts := [], laidByText := true, laidKinds := [.data, .data, .data, .data], laidTests := true, laidLooks := .later }
def NumberDealsUptoCardSaid : Prop := Claim7.holds Tryz.pinned (.plain (OpenSpec.upto numberDealsSpec)) numberDealsUptoCard

/-- THE SECOND FORM's CARD OF 'strobetop.TopBeamFloats'. -/
def topBeamFloatsUptoCard : Claim7 := { stood := { row := topBeamFloatsUptoRow, standIns := [], harness := (true, "860404d2d6c84ed4751323fbac47adf377f0a34b9778046e13f003fc9a87ae64"), looks := false }, kinds := [], alts := [], laidByText := true, laidKinds := [.data, .data, .data, .data], laidTests := true, laidLooks := .later }
def TopBeamFloatsUptoCardSaid : Prop := Claim7.holds Tryz.pinned (.plain (OpenSpec.upto topBeamFloatsSpec)) topBeamFloatsUptoCard

/-- THE SECOND FORM's CARD OF 'strobetop.TopBeamTables'. -/
def topBeamTablesUptoCard : Claim7 := { stood := { row := topBeamTablesUptoRow, standIns := [], harness := (true, "860404d2d6c84ed4751323fbac47adf377f0a34b9778046e13f003fc9a87ae64"), looks := false }, kinds := [], alts := [], laidByText := true, laidKinds := [.data, .data, .data, .data], laidTests := true, laidLooks := .later }
def TopBeamTablesUptoCardSaid : Prop := Claim7.holds Tryz.pinned (.plain (OpenSpec.upto topBeamTablesSpec)) topBeamTablesUptoCard
end Rows
end Go.Proofs.YteajibbphcfmeaaGreatDoor
