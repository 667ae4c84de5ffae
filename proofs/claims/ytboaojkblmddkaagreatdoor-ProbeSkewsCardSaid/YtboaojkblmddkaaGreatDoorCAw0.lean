/- The numbers of chapter 2's examples. -/
import Derived.Test.YtboaojkblmddkaaGreatDoorCAd2
import Derived.Test.YtboaojkblmddkaaGreatDoorCDr8
namespace Go.Proofs.YtboaojkblmddkaaGreatDoor
open Go.RowKit Bn
open Flt

instance : DecidableEq Q := fun a b => decidable_of_iff (a.neg = b.neg ∧ a.top = b.top ∧ a.bot = b.bot) ⟨fun h => by
  obtain ⟨x, y, z⟩ := a
  obtain ⟨x', y', z'⟩ := b
  obtain ⟨rfl, rfl, rfl⟩ := h
  rfl, fun h => by subst h; exact ⟨rfl, rfl, rfl⟩⟩

theorem aw_conv : Conv 8 (-3) 128 { data := #[49] } { data := #[48] } where
  bits := by omega
  step := by omega
  zero := by decide
  gsize := by decide
  osize := by decide
  gain := by decide +kernel
  plus := by decide +kernel
  offs := by decide +kernel
theorem aw_conv2 : Conv 8 (-3) 128 { data := #[50] } { data := #[49] } where
  bits := by omega
  step := by omega
  zero := by decide
  gsize := by decide
  osize := by decide
  gain := by decide +kernel
  plus := by decide +kernel
  offs := by decide +kernel
-- Full: -16, 127/8
theorem aw_nomlo : nomW (0 - 128) (-3) = 3246391296 := by decide +kernel
theorem aw_nomhi : nomW (255 - 128) (-3) = 1098776576 := by decide +kernel
theorem aw_txlo : exT 3246391296 = [45, 49, 54] := by decide +kernel
theorem aw_txhi : exT 1098776576 = [49, 50, 55, 47, 56] := by decide +kernel
-- Code of -17
theorem aw_r17 : readE [45, 49, 55] = 0 := by decide +kernel
theorem aw_n17 : nearF [45, 49, 55] = 3246915584 := by decide +kernel
theorem aw_b17 : ∀ t : Nat, t < 257 → belowB [45, 49, 55] 3246915584 (nomW (2 * ((t : Int) - 128) - 1) (-4)) = true := by decide +kernel
-- Volts of 130
theorem aw_nom2 : nomW 2 (-3) = 1048576000 := by decide +kernel
-- the samples of -20, 0, 1/10, 20, 30
theorem aw_r20m : readE [45, 50, 48] = 0 := by decide +kernel
theorem aw_n20m : nearF [45, 50, 48] = 3248488448 := by decide +kernel
theorem aw_b20m : ∀ t : Nat, t < 257 → belowB [45, 50, 48] 3248488448 (nomW (2 * ((t : Int) - 128) - 1) (-4)) = true := by decide +kernel
theorem aw_r0 : readE [48] = 0 := by decide +kernel
theorem aw_n0 : nearF [48] = 0 := by decide +kernel
theorem aw_l0 : ∀ t : Nat, t < 129 → belowB [48] 0 (nomW (2 * ((t : Int) - 128) - 1) (-4)) = false := by decide +kernel
theorem aw_h0 : ∀ t : Nat, t < 128 → belowB [48] 0 (nomW (2 * (((129 + t : Nat) : Int) - 128) - 1) (-4)) = true := by decide +kernel
theorem aw_r01 : readE [49, 47, 49, 48] = 0 := by decide +kernel
theorem aw_n01 : nearF [49, 47, 49, 48] = 1036831949 := by decide +kernel
theorem aw_l01 : ∀ t : Nat, t < 130 → belowB [49, 47, 49, 48] 1036831949 (nomW (2 * ((t : Int) - 128) - 1) (-4)) = false := by decide +kernel
theorem aw_h01 : ∀ t : Nat, t < 127 → belowB [49, 47, 49, 48] 1036831949 (nomW (2 * (((130 + t : Nat) : Int) - 128) - 1) (-4)) = true := by decide +kernel
theorem aw_r20 : readE [50, 48] = 0 := by decide +kernel
theorem aw_n20 : nearF [50, 48] = 1101004800 := by decide +kernel
theorem aw_l20 : ∀ t : Nat, t < 257 → belowB [50, 48] 1101004800 (nomW (2 * ((t : Int) - 128) - 1) (-4)) = false := by decide +kernel
theorem aw_r30 : readE [51, 48] = 0 := by decide +kernel
theorem aw_n30 : nearF [51, 48] = 1106247680 := by decide +kernel
theorem aw_l30 : ∀ t : Nat, t < 257 → belowB [51, 48] 1106247680 (nomW (2 * ((t : Int) - 128) - 1) (-4)) = false := by decide +kernel
theorem aw_nom0 : nomW (128 - 128) (-3) = 0 := by decide +kernel
theorem aw_nom1 : nomW (129 - 128) (-3) = 1040187392 := by decide +kernel
-- Calibrated: 0, 1/2 and 1, 5/2
theorem aw_nom8 : nomW (136 - 128) (-3) = 1065353216 := by decide +kernel
theorem aw_tx0 : exT 0 = [48] := by decide +kernel
theorem aw_tx1 : exT 1065353216 = [49] := by decide +kernel
theorem aw_q0 : readQ [48] = ⟨false, 0, 1⟩ := by decide +kernel
theorem aw_q1 : readQ [49] = ⟨false, 1, 1⟩ := by decide +kernel
theorem aw_q2 : readQ [50] = ⟨false, 2, 1⟩ := by decide +kernel
theorem aw_qh : readQ [49, 47, 50] = ⟨false, 1, 2⟩ := by decide +kernel
theorem aw_q5h : readQ [53, 47, 50] = ⟨false, 5, 2⟩ := by decide +kernel
theorem aw_rh : readE [49, 47, 50] = 0 := by decide +kernel
theorem aw_r5h : readE [53, 47, 50] = 0 := by decide +kernel
theorem aw_r1 : readE [49] = 0 := by decide +kernel
theorem aw_run : plusQ ⟨false, 1, 1⟩ ⟨!false, 0, 1⟩ = ⟨false, 1, 1⟩ := by decide +kernel
theorem aw_dv : plusQ ⟨false, 5, 2⟩ ⟨!false, 1, 2⟩ = ⟨false, 2, 1⟩ := by decide +kernel
theorem aw_sl : lowQ (false != false) (2 * 1) (1 * 1) = ⟨false, 2, 1⟩ := by decide +kernel
theorem aw_st : lowQ (false != false) (2 * 0) (1 * 1) = ⟨false, 0, 1⟩ := by decide +kernel
theorem aw_of : plusQ ⟨false, 1, 2⟩ ⟨!false, 0, 1⟩ = ⟨false, 1, 2⟩ := by decide +kernel
theorem aw_wg : writeT ⟨false, 2, 1⟩ = [50] ∧ writeE ⟨false, 2, 1⟩ = 0 := by decide +kernel
theorem aw_wo : writeT ⟨false, 1, 2⟩ = [49, 47, 50] ∧ writeE ⟨false, 1, 2⟩ = 0 := by decide +kernel
-- True of 129 with gain 2, offset 1: 9/8, 11/8
theorem aw_e129 : nomW (2 * (129 - 128) - 1) (-4) = 1031798784 := by decide +kernel
theorem aw_e130 : nomW (2 * (130 - 128) - 1) (-4) = 1044381696 := by decide +kernel
theorem aw_te129 : exT 1031798784 = [49, 47, 49, 54] := by decide +kernel
theorem aw_te130 : exT 1044381696 = [51, 47, 49, 54] := by decide +kernel
theorem aw_qe129 : readQ [49, 47, 49, 54] = ⟨false, 1, 16⟩ := by decide +kernel
theorem aw_qe130 : readQ [51, 47, 49, 54] = ⟨false, 3, 16⟩ := by decide +kernel
theorem aw_t129 : lowQ (false != false) (2 * 1) (1 * 16) = ⟨false, 1, 8⟩ := by decide +kernel
theorem aw_t130 : lowQ (false != false) (2 * 3) (1 * 16) = ⟨false, 3, 8⟩ := by decide +kernel
theorem aw_p129 : plusQ ⟨false, 1, 8⟩ ⟨false, 1, 1⟩ = ⟨false, 9, 8⟩ := by decide +kernel
theorem aw_p130 : plusQ ⟨false, 3, 8⟩ ⟨false, 1, 1⟩ = ⟨false, 11, 8⟩ := by decide +kernel
theorem aw_w129 : writeT ⟨false, 9, 8⟩ = [57, 47, 56] ∧ writeE ⟨false, 9, 8⟩ = 0 := by decide +kernel
theorem aw_w130 : writeT ⟨false, 11, 8⟩ = [49, 49, 47, 56] ∧ writeE ⟨false, 11, 8⟩ = 0 := by decide +kernel

end Go.Proofs.YtboaojkblmddkaaGreatDoor
