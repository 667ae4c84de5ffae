/-
  DERIVED. GIVEN WITH THE SEED: THE CARDS: each row of YtmkihdjolnlccaaGreatDoorRows.lean that lists a variable, with what it lists TIED to the program's text (the seventh form; the later family's looks); each row that meets fmt, with fmt's text TOLD by the authors' own Lean function (tested against real Go, not proved from fmt's source: count such statements apart). THE CARD IS WHAT COUNTS. Prove the row's statement (the work); the ties are given (YtmkihdjolnlccaaGreatDoorTie.lean); close each card by the builder's one call (the guide's Derived/Test/ToyasCard.lean, 'card_holds'). Laid BY PROGRAM, IN A SANDBOX (cutbox-door.mjs). By AI agents, Wed Nov 11 2026. No macro, syntax, notation, axiom, sorry.
-/
import Derived.Test.YtmkihdjolnlccaaGreatDoorRows
import GoSem.ClaimSeven
namespace Go.Proofs.YtmkihdjolnlccaaGreatDoor
namespace Rows

/-- THE TIED CARD OF 'strobelaw02.ProbeRecords'. -/
def probeRecordsCard : Claim7 := { stood := { row := probeRecordsRow, standIns := [], harness := (true, "84899a240b07e72ebf15795edf0d1e7cbed84de5bbbf63f9a2d0ae69cbc48514"), looks := true }, kinds := [], alts := [], laidByText := true, laidKinds := [.data, .data, .data, .sentinel, .sentinel], laidTests := true, laidLooks := .later }
def ProbeRecordsCardSaid : Prop := Claim7.holds Tryz.pinned (.plain (OpenSpec.ofChange probeRecordsSpec)) probeRecordsCard

/-- THE TIED CARD OF 'strobelaw02.ProbeQuantises'. -/
def probeQuantisesCard : Claim7 := { stood := { row := probeQuantisesRow, standIns := [], harness := (true, "84899a240b07e72ebf15795edf0d1e7cbed84de5bbbf63f9a2d0ae69cbc48514"), looks := true }, kinds := [], alts := [], laidByText := true, laidKinds := [.data, .data, .data, .sentinel, .sentinel], laidTests := true, laidLooks := .later }
def ProbeQuantisesCardSaid : Prop := Claim7.holds Tryz.pinned (.plain (OpenSpec.ofChange probeQuantisesSpec)) probeQuantisesCard

/-- THE TIED CARD OF 'strobelaw02.ProbeFits'. -/
def probeFitsCard : Claim7 := { stood := { row := probeFitsRow, standIns := [], harness := (true, "84899a240b07e72ebf15795edf0d1e7cbed84de5bbbf63f9a2d0ae69cbc48514"), looks := true }, kinds := [], alts := [], laidByText := true, laidKinds := [.data, .data, .data, .sentinel, .sentinel], laidTests := true, laidLooks := .later }
def ProbeFitsCardSaid : Prop := Claim7.holds Tryz.pinned (.plain (OpenSpec.ofChange probeFitsSpec)) probeFitsCard

/-- THE TIED CARD OF 'strobetop.TopClipQuantises'. -/
def topClipQuantisesCard : Claim7 := { stood := { row := topClipQuantisesRow, standIns := [], harness := (true, "84899a240b07e72ebf15795edf0d1e7cbed84de5bbbf63f9a2d0ae69cbc48514"), looks := true }, kinds := [], alts := [], laidByText := true, laidKinds := [.data, .data, .data, .sentinel, .sentinel], laidTests := true, laidLooks := .later }
def TopClipQuantisesCardSaid : Prop := Claim7.holds Tryz.pinned (.plain (OpenSpec.ofChange topClipQuantisesSpec)) topClipQuantisesCard

/-- THE TIED CARD OF 'strobetop.TopClipRecords'. -/
def topClipRecordsCard : Claim7 := { stood := { row := topClipRecordsRow, standIns := [], harness := (true, "84899a240b07e72ebf15795edf0d1e7cbed84de5bbbf63f9a2d0ae69cbc48514"), looks := true }, kinds := [], alts := [], laidByText := true, laidKinds := [.data, .data, .data], laidTests := true, laidLooks := .later }
def TopClipRecordsCardSaid : Prop := Claim7.holds Tryz.pinned (.plain (OpenSpec.ofChange topClipRecordsSpec)) topClipRecordsCard

/-- THE SECOND FORM's CARD OF 'strobelaw02.ProbeRecords'. -/
def probeRecordsUptoCard : Claim7 := { stood := { row := probeRecordsUptoRow, standIns := [], harness := (true, "84899a240b07e72ebf15795edf0d1e7cbed84de5bbbf63f9a2d0ae69cbc48514"), looks := true }, kinds := [], alts := [], laidByText := true, laidKinds := [.data, .data, .data, .sentinel, .sentinel], laidTests := true, laidLooks := .later }
def ProbeRecordsUptoCardSaid : Prop := Claim7.holds Tryz.pinned (.plain (OpenSpec.upto probeRecordsSpec)) probeRecordsUptoCard

/-- THE SECOND FORM's CARD OF 'strobelaw02.ProbeQuantises'. -/
def probeQuantisesUptoCard : Claim7 := { stood := { row := probeQuantisesUptoRow, standIns := [], harness := (true, "84899a240b07e72ebf15795edf0d1e7cbed84de5bbbf63f9a2d0ae69cbc48514"), looks := true }, kinds := [], alts := [], laidByText := true, laidKinds := [.data, .data, .data, .sentinel, .sentinel], laidTests := true, laidLooks := .later }
def ProbeQuantisesUptoCardSaid : Prop := Claim7.holds Tryz.pinned (.plain (OpenSpec.upto probeQuantisesSpec)) probeQuantisesUptoCard

/-- THE SECOND FORM's CARD OF 'strobelaw02.ProbeFits'. -/
def probeFitsUptoCard : Claim7 := { stood := { row := probeFitsUptoRow, standIns := [], harness := (true, "84899a240b07e72ebf15795edf0d1e7cbed84de5bbbf63f9a2d0ae69cbc48514"), looks := true }, kinds := [], alts := [], laidByText := true, laidKinds := [.data, .data, .data, .sentinel, .sentinel], laidTests := true, laidLooks := .later }
def ProbeFitsUptoCardSaid : Prop := Claim7.holds Tryz.pinned (.plain (OpenSpec.upto probeFitsSpec)) probeFitsUptoCard

/-- THE SECOND FORM's CARD OF 'strobetop.TopClipQuantises'. -/
def topClipQuantisesUptoCard : Claim7 := { stood := { row := topClipQuantisesUptoRow, standIns := [], harness := (true, "84899a240b07e72ebf15795edf0d1e7cbed84de5bbbf63f9a2d0ae69cbc48514"), looks := true }, kinds := [], alts := [], laidByText := true, laidKinds := [.data, .data, .data, .sentinel, .sentinel], laidTests := true, laidLooks := .later }
def TopClipQuantisesUptoCardSaid : Prop := Claim7.holds Tryz.pinned (.plain (OpenSpec.upto topClipQuantisesSpec)) topClipQuantisesUptoCard

/-- THE SECOND FORM's CARD OF 'strobetop.TopClipRecords'. -/
def topClipRecordsUptoCard : Claim7 := { stood := { row := topClipRecordsUptoRow, standIns := [], harness := (true, "84899a240b07e72ebf15795edf0d1e7cbed84de5bbbf63f9a2d0ae69cbc48514"), looks := true }, kinds := [], alts := [], laidByText := true, laidKinds := [.data, .data, .data], laidTests := true, laidLooks := .later }
def TopClipRecordsUptoCardSaid : Prop := Claim7.holds Tryz.pinned (.plain (OpenSpec.upto topClipRecordsSpec)) topClipRecordsUptoCard
end Rows
end Go.Proofs.YtmkihdjolnlccaaGreatDoor
