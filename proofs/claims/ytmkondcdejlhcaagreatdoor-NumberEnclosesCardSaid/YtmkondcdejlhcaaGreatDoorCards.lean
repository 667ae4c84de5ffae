/-
  DERIVED. GIVEN WITH THE SEED: THE CARDS: each row of YtmkondcdejlhcaaGreatDoorRows.lean that lists a variable, with what it lists TIED to the program's text (the seventh form; the later family's looks); each row that meets fmt, with fmt's text TOLD by the authors' own Lean function (tested against real Go, not proved from fmt's source: count such statements apart). THE CARD IS WHAT COUNTS. Prove the row's statement (the work); the ties are given (YtmkondcdejlhcaaGreatDoorTie.lean); close each card by the builder's one call (the guide's Derived/Test/ToyasCard.lean, 'card_holds'). Laid BY PROGRAM, IN A SANDBOX (cutbox-door.mjs). By AI agents, Wed Nov 11 2026. No macro, syntax, notation, axiom, sorry.
-/
import Derived.Test.YtmkondcdejlhcaaGreatDoorRows
import GoSem.ClaimSeven
namespace Go.Proofs.YtmkondcdejlhcaaGreatDoor
namespace Rows

/-- THE TIED CARD OF 'strobelaw01.NumberSums'. -/
def numberSumsCard : Claim7 := { stood := { row := numberSumsRow, standIns := [], harness := (true, "13f9804af9d4ff469581bc2ebe728a3be2c95e7a14a14a028b3d317c1128b897"), looks := false }, kinds := [], alts := [], laidByText := true, laidKinds := [.data, .data, .data, .data], laidTests := true, laidLooks := .later }
def NumberSumsCardSaid : Prop := Claim7.holds Tryz.pinned (.plain (OpenSpec.ofChange numberSumsSpec)) numberSumsCard

/-- THE TIED CARD OF 'strobelaw01.NumberEncloses'. -/
def numberEnclosesCard : Claim7 := { stood := { row := numberEnclosesRow, standIns := [], harness := (true, "13f9804af9d4ff469581bc2ebe728a3be2c95e7a14a14a028b3d317c1128b897"), looks := false }, kinds := [], alts := [], laidByText := true, laidKinds := [.data, .data, .data, .data], laidTests := true, laidLooks := .later }
def NumberEnclosesCardSaid : Prop := Claim7.holds Tryz.pinned (.plain (OpenSpec.ofChange numberEnclosesSpec)) numberEnclosesCard

/-- THE TIED CARD OF 'strobelaw01.NumberSquares'. -/
def numberSquaresCard : Claim7 := { stood := { row := numberSquaresRow, standIns := [], harness := (true, "13f9804af9d4ff469581bc2ebe728a3be2c95e7a14a14a028b3d317c1128b897"), looks := false }, kinds := [], alts := [], laidByText := true, laidKinds := [.data, .data, .data, .data], laidTests := true, laidLooks := .later }
def NumberSquaresCardSaid : Prop := Claim7.holds Tryz.pinned (.plain (OpenSpec.ofChange numberSquaresSpec)) numberSquaresCard

/-- THE TIED CARD OF 'strobelaw01.NumberBlends'. -/
def numberBlendsCard : Claim7 := { stood := { row := numberBlendsRow, standIns := [], harness := (true, "13f9804af9d4ff469581bc2ebe728a3be2c95e7a14a14a028b3d317c1128b897"), looks := false }, kinds := [], alts := [], laidByText := true, laidKinds := [.data, .data, .data, .data], laidTests := true, laidLooks := .later }
def NumberBlendsCardSaid : Prop := Claim7.holds Tryz.pinned (.plain (OpenSpec.ofChange numberBlendsSpec)) numberBlendsCard

/-- THE TIED CARD OF 'strobelaw01.NumberDeals'. -/
def numberDealsCard : Claim7 := { stood := { row := numberDealsRow, standIns := [], harness := (true, "13f9804af9d4ff469581bc2ebe728a3be2c95e7a14a14a028b3d317c1128b897"), looks := false }, kinds := [], alts := [], laidByText := true, laidKinds := [.data, .data, .data, .data], laidTests := true, laidLooks := .later }
def NumberDealsCardSaid : Prop := Claim7.holds Tryz.pinned (.plain (OpenSpec.ofChange numberDealsSpec)) numberDealsCard

/-- THE TIED CARD OF 'strobetop.TopBeamTables'. -/
def topBeamTablesCard : Claim7 := { stood := { row := topBeamTablesRow, standIns := [], harness := (true, "13f9804af9d4ff469581bc2ebe728a3be2c95e7a14a14a028b3d317c1128b897"), looks := false }, kinds := [], alts := [], laidByText := true, laidKinds := [.data, .data, .data, .data], laidTests := true, laidLooks := .later }
def TopBeamTablesCardSaid : Prop := Claim7.holds Tryz.pinned (.plain (OpenSpec.ofChange topBeamTablesSpec)) topBeamTablesCard

/-- THE SECOND FORM's CARD OF 'strobelaw01.NumberSums'. -/
def numberSumsUptoCard : Claim7 := { stood := { row := numberSumsUptoRow, standIns := [], harness := (true, "13f9804af9d4ff469581bc2ebe728a3be2c95e7a14a14a028b3d317c1128b897"), looks := false }, kinds := [], alts := [], laidByText := true, laidKinds := [.data, .data, .data, .data], laidTests := true, laidLooks := .later }
def NumberSumsUptoCardSaid : Prop := Claim7.holds Tryz.pinned (.plain (OpenSpec.upto numberSumsSpec)) numberSumsUptoCard

/-- THE SECOND FORM's CARD OF 'strobelaw01.NumberEncloses'. -/
def numberEnclosesUptoCard : Claim7 := { stood := { row := numberEnclosesUptoRow, standIns := [], harness := (true, "13f9804af9d4ff469581bc2ebe728a3be2c95e7a14a14a028b3d317c1128b897"), looks := false }, kinds := [], alts := [], laidByText := true, laidKinds := [.data, .data, .data, .data], laidTests := true, laidLooks := .later }
def NumberEnclosesUptoCardSaid : Prop := Claim7.holds Tryz.pinned (.plain (OpenSpec.upto numberEnclosesSpec)) numberEnclosesUptoCard

/-- THE SECOND FORM's CARD OF 'strobelaw01.NumberSquares'. -/
def numberSquaresUptoCard : Claim7 := { stood := { row := numberSquaresUptoRow, standIns := [], harness := (true, "13f9804af9d4ff469581bc2ebe728a3be2c95e7a14a14a028b3d317c1128b897"), looks := false }, kinds := [], alts := [], laidByText := true, laidKinds := [.data, .data, .data, .data], laidTests := true, laidLooks := .later }
def NumberSquaresUptoCardSaid : Prop := Claim7.holds Tryz.pinned (.plain (OpenSpec.upto numberSquaresSpec)) numberSquaresUptoCard

/-- THE SECOND FORM's CARD OF 'strobelaw01.NumberBlends'. -/
def numberBlendsUptoCard : Claim7 := { stood := { row := numberBlendsUptoRow, standIns := [], harness := (true, "13f9804af9d4ff469581bc2ebe728a3be2c95e7a14a14a028b3d317c1128b897"), looks := false }, kinds := [], alts := [], laidByText := true, laidKinds := [.data, .data, .data, .data], laidTests := true, laidLooks := .later }
def NumberBlendsUptoCardSaid : Prop := Claim7.holds Tryz.pinned (.plain (OpenSpec.upto numberBlendsSpec)) numberBlendsUptoCard

/-- THE SECOND FORM's CARD OF 'strobelaw01.NumberDeals'. -/
def numberDealsUptoCard : Claim7 := { stood := { row := numberDealsUptoRow, standIns := [], harness := (true, "13f9804af9d4ff469581bc2ebe728a3be2c95e7a14a14a028b3d317c1128b897"), looks := false }, kinds := [], alts := [], laidByText := true, laidKinds := [.data, .data, .data, .data], laidTests := true, laidLooks := .later }
def NumberDealsUptoCardSaid : Prop := Claim7.holds Tryz.pinned (.plain (OpenSpec.upto numberDealsSpec)) numberDealsUptoCard

/-- THE SECOND FORM's CARD OF 'strobetop.TopBeamTables'. -/
def topBeamTablesUptoCard : Claim7 := { stood := { row := topBeamTablesUptoRow, standIns := [], harness := (true, "13f9804af9d4ff469581bc2ebe728a3be2c95e7a14a14a028b3d317c1128b897"), looks := false }, kinds := [], alts := [], laidByText := true, laidKinds := [.data, .data, .data, .data], laidTests := true, laidLooks := .later }
def TopBeamTablesUptoCardSaid : Prop := Claim7.holds Tryz.pinned (.plain (OpenSpec.upto topBeamTablesSpec)) topBeamTablesUptoCard
end Rows
end Go.Proofs.YtmkondcdejlhcaaGreatDoor
