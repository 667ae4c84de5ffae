/-
  DERIVED. GIVEN WITH THE SEED: THE CARDS: each row of YtbkgkoenppkhpaaGreatDoorRows.lean that lists a variable, with what it lists TIED to the program's text (the seventh form; the later family's looks); each row that meets fmt, with fmt's text TOLD by the authors' own Lean function (tested against real Go, not proved from fmt's source: count such statements apart). THE CARD IS WHAT COUNTS. Prove the row's statement (the work); the ties are given (YtbkgkoenppkhpaaGreatDoorTie.lean); close each card by the builder's one call (the guide's Derived/Test/ToyasCard.lean, 'card_holds'). Laid BY PROGRAM, IN A SANDBOX (cutbox-door.mjs). By AI agents, Wed Nov 11 2026. No macro, syntax, notation, axiom, sorry.
-/
import Derived.Test.YtbkgkoenppkhpaaGreatDoorRows
import GoSem.ClaimSeven
namespace Go.Proofs.YtbkgkoenppkhpaaGreatDoor
namespace Rows

/-- THE TIED CARD OF 'strobelaw01.NumberSpans'. -/
def numberSpansCard : Claim7 := { stood := { row := numberSpansRow, standIns := [], harness := (true, "810c6123f9bcc727f042d39b848b5234879889cc072474c0f18d0762aa28eefd"), looks := false }, kinds := [], alts := [], laidByText := true, laidKinds := [.data, .data, .data, .data], laidTests := true, laidLooks := .later }
def NumberSpansCardSaid : Prop := Claim7.holds Tryz.pinned (.plain (OpenSpec.ofChange numberSpansSpec)) numberSpansCard

/-- THE TIED CARD OF 'strobelaw01.NumberFloats'. -/
def numberFloatsCard : Claim7 := { stood := { row := numberFloatsRow, standIns := [], harness := (true, "810c6123f9bcc727f042d39b848b5234879889cc072474c0f18d0762aa28eefd"), looks := false }, kinds := [], alts := [], laidByText := true, laidKinds := [.data, .data, .data, .data], laidTests := true, laidLooks := .later }
def NumberFloatsCardSaid : Prop := Claim7.holds Tryz.pinned (.plain (OpenSpec.ofChange numberFloatsSpec)) numberFloatsCard

/-- THE TIED CARD OF 'strobelaw01.NumberRounds'. -/
def numberRoundsCard : Claim7 := { stood := { row := numberRoundsRow, standIns := [], harness := (true, "810c6123f9bcc727f042d39b848b5234879889cc072474c0f18d0762aa28eefd"), looks := false }, kinds := [], alts := [], laidByText := true, laidKinds := [.data, .data, .data, .data], laidTests := true, laidLooks := .later }
def NumberRoundsCardSaid : Prop := Claim7.holds Tryz.pinned (.plain (OpenSpec.ofChange numberRoundsSpec)) numberRoundsCard

/-- THE TIED CARD OF 'strobetop.TopBeamTables'. -/
def topBeamTablesCard : Claim7 := { stood := { row := topBeamTablesRow, standIns := [], harness := (true, "810c6123f9bcc727f042d39b848b5234879889cc072474c0f18d0762aa28eefd"), looks := false }, kinds := [], alts := [], laidByText := true, laidKinds := [.data, .data, .data, .data], laidTests := true, laidLooks := .later }
def TopBeamTablesCardSaid : Prop := Claim7.holds Tryz.pinned (.plain (OpenSpec.ofChange topBeamTablesSpec)) topBeamTablesCard

/-- THE SECOND FORM's CARD OF 'strobelaw01.NumberSpans'. -/
def numberSpansUptoCard : Claim7 := { stood := { row := numberSpansUptoRow, standIns := [], harness := (true, "810c6123f9bcc727f042d39b848b5234879889cc072474c0f18d0762aa28eefd"), looks := false }, kinds := [], alts := [], laidByText := true, laidKinds := [.data, .data, .data, .data], laidTests := true, laidLooks := .later }
def NumberSpansUptoCardSaid : Prop := Claim7.holds Tryz.pinned (.plain (OpenSpec.upto numberSpansSpec)) numberSpansUptoCard

/-- THE SECOND FORM's CARD OF 'strobelaw01.NumberFloats'. -/
def numberFloatsUptoCard : Claim7 := { stood := { row := numberFloatsUptoRow, standIns := [], harness := (true, "810c6123f9bcc727f042d39b848b5234879889cc072474c0f18d0762aa28eefd"), looks := false }, kinds := [], alts := [], laidByText := true, laidKinds := [.data, .data, .data, .data], laidTests := true, laidLooks := .later }
def NumberFloatsUptoCardSaid : Prop := Claim7.holds Tryz.pinned (.plain (OpenSpec.upto numberFloatsSpec)) numberFloatsUptoCard

/-- THE SECOND FORM's CARD OF 'strobelaw01.NumberRounds'. -/
def numberRoundsUptoCard : Claim7 := { stood := { row := numberRoundsUptoRow, standIns := [], harness := (true, "810c6123f9bcc727f042d39b848b5234879889cc072474c0f18d0762aa28eefd"), looks := false }, kinds := [], alts := [], laidByText := true, laidKinds := [.data, .data, .data, .data], laidTests := true, laidLooks := .later }
def NumberRoundsUptoCardSaid : Prop := Claim7.holds Tryz.pinned (.plain (OpenSpec.upto numberRoundsSpec)) numberRoundsUptoCard

/-- THE SECOND FORM's CARD OF 'strobetop.TopBeamTables'. -/
def topBeamTablesUptoCard : Claim7 := { stood := { row := topBeamTablesUptoRow, standIns := [], harness := (true, "810c6123f9bcc727f042d39b848b5234879889cc072474c0f18d0762aa28eefd"), looks := false }, kinds := [], alts := [], laidByText := true, laidKinds := [.data, .data, .data, .data], laidTests := true, laidLooks := .later }
def TopBeamTablesUptoCardSaid : Prop := Claim7.holds Tryz.pinned (.plain (OpenSpec.upto topBeamTablesSpec)) topBeamTablesUptoCard
end Rows
end Go.Proofs.YtbkgkoenppkhpaaGreatDoor
