/-
  DERIVED. GIVEN WITH THE SEED: THE CARDS: each row of YtjhgadajpliclaaGreatDoorRows.lean that lists a variable, with what it lists TIED to the program's text (the seventh form; the later family's looks); each row that meets fmt, with fmt's text TOLD by the authors' own Lean function (tested against real Go, not proved from fmt's source: count such statements apart). THE CARD IS WHAT COUNTS. Prove the row's statement (the work); the ties are given (YtjhgadajpliclaaGreatDoorTie.lean); close each card by the builder's one call (the guide's Derived/Test/ToyasCard.lean, 'card_holds'). Laid BY PROGRAM, IN A SANDBOX (cutbox-door.mjs). By AI agents, Wed Nov 11 2026. No macro, syntax, notation, axiom, sorry.
-/
import Derived.Test.YtjhgadajpliclaaGreatDoorRows
import GoSem.ClaimSeven
namespace Go.Proofs.YtjhgadajpliclaaGreatDoor
namespace Rows

/-- THE TIED CARD OF 'strobelaw02.ProbeCodes'. -/
def probeCodesCard : Claim7 := { stood := { row := probeCodesRow, standIns := [], harness := (true, "9b8c829f3a70bda9789a2e843534fb76c1917af960c3139bdbfbb5655214632a"), looks := true }, kinds := [], alts := [], laidByText := true, laidKinds := [.data, .data, .data, .sentinel, .sentinel], laidTests := true, laidLooks := .later }
def ProbeCodesCardSaid : Prop := Claim7.holds Tryz.pinned (.plain (OpenSpec.ofChange probeCodesSpec)) probeCodesCard

/-- THE TIED CARD OF 'strobelaw02.ProbeIntervals'. -/
def probeIntervalsCard : Claim7 := { stood := { row := probeIntervalsRow, standIns := [], harness := (true, "9b8c829f3a70bda9789a2e843534fb76c1917af960c3139bdbfbb5655214632a"), looks := true }, kinds := [], alts := [], laidByText := true, laidKinds := [.data, .data, .data, .sentinel, .sentinel], laidTests := true, laidLooks := .later }
def ProbeIntervalsCardSaid : Prop := Claim7.holds Tryz.pinned (.plain (OpenSpec.ofChange probeIntervalsSpec)) probeIntervalsCard

/-- THE TIED CARD OF 'strobelaw02.ProbeCalibrates'. -/
def probeCalibratesCard : Claim7 := { stood := { row := probeCalibratesRow, standIns := [], harness := (true, "9b8c829f3a70bda9789a2e843534fb76c1917af960c3139bdbfbb5655214632a"), looks := true }, kinds := [], alts := [], laidByText := true, laidKinds := [.data, .data, .data, .sentinel, .sentinel], laidTests := true, laidLooks := .later }
def ProbeCalibratesCardSaid : Prop := Claim7.holds Tryz.pinned (.plain (OpenSpec.ofChange probeCalibratesSpec)) probeCalibratesCard

/-- THE SECOND FORM's CARD OF 'strobelaw02.ProbeCodes'. -/
def probeCodesUptoCard : Claim7 := { stood := { row := probeCodesUptoRow, standIns := [], harness := (true, "9b8c829f3a70bda9789a2e843534fb76c1917af960c3139bdbfbb5655214632a"), looks := true }, kinds := [], alts := [], laidByText := true, laidKinds := [.data, .data, .data, .sentinel, .sentinel], laidTests := true, laidLooks := .later }
def ProbeCodesUptoCardSaid : Prop := Claim7.holds Tryz.pinned (.plain (OpenSpec.upto probeCodesSpec)) probeCodesUptoCard

/-- THE SECOND FORM's CARD OF 'strobelaw02.ProbeIntervals'. -/
def probeIntervalsUptoCard : Claim7 := { stood := { row := probeIntervalsUptoRow, standIns := [], harness := (true, "9b8c829f3a70bda9789a2e843534fb76c1917af960c3139bdbfbb5655214632a"), looks := true }, kinds := [], alts := [], laidByText := true, laidKinds := [.data, .data, .data, .sentinel, .sentinel], laidTests := true, laidLooks := .later }
def ProbeIntervalsUptoCardSaid : Prop := Claim7.holds Tryz.pinned (.plain (OpenSpec.upto probeIntervalsSpec)) probeIntervalsUptoCard

/-- THE SECOND FORM's CARD OF 'strobelaw02.ProbeCalibrates'. -/
def probeCalibratesUptoCard : Claim7 := { stood := { row := probeCalibratesUptoRow, standIns := [], harness := (true, "9b8c829f3a70bda9789a2e843534fb76c1917af960c3139bdbfbb5655214632a"), looks := true }, kinds := [], alts := [], laidByText := true, laidKinds := [.data, .data, .data, .sentinel, .sentinel], laidTests := true, laidLooks := .later }
def ProbeCalibratesUptoCardSaid : Prop := Claim7.holds Tryz.pinned (.plain (OpenSpec.upto probeCalibratesSpec)) probeCalibratesUptoCard
end Rows
end Go.Proofs.YtjhgadajpliclaaGreatDoor
