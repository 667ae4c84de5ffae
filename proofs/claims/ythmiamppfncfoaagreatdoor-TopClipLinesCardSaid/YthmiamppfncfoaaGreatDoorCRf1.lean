/- The reference's Finite: a single less itself. -/
import Derived.Test.YthmiamppfncfoaaGreatDoorCEx1
import Derived.Test.YthmiamppfncfoaaGreatDoorCRws
import Derived.Laws.FloatArith
namespace Go.Proofs.YthmiamppfncfoaaGreatDoor
open Go.RowKit
open Flt

theorem signed_opp (s : Bool) (m k : Nat) : Ieee.signed s m k + Ieee.signed (!s) m k = 0 := by
  unfold Ieee.signed
  cases s <;> simp <;> omega

theorem sub_self {b : Nat} (h : fin Ieee.single b = true) : floatBits .sub .f32 b b = some 0 := by
  unfold fin at h
  show ((Ieee.single.read b).sum (Ieee.single.read b).opposite).map Ieee.single.write = some 0
  rcases hr : Ieee.single.read b with ⟨s, m, p⟩ | s | ⟨s, f⟩
  · have e1 : (Ieee.Datum.number s m p).opposite = .number (!s) m p := rfl
    rw [e1]
    unfold Ieee.Datum.sum
    simp only [Int.min_self, signed_opp]
    have e2 : (s && !s) = false := by cases s <;> rfl
    simp only [if_true, e2, Int.natAbs_zero, Option.map_some]
    congr 1
  · rw [hr] at h; cases h
  · rw [hr] at h; cases h

theorem sub_none {b : Nat} (h : fin Ieee.single b = false) : FloatKind.f32.format.sub b b = none := by
  unfold fin at h
  show ((Ieee.single.read b).sum (Ieee.single.read b).opposite).map Ieee.single.write = none
  rcases hr : Ieee.single.read b with ⟨s, m, p⟩ | s | ⟨s, f⟩
  · rw [hr] at h; cases h
  · cases s <;> rfl
  · rfl

/-- the NaN that the tape gives -/
def nanX (x y : Nat) (W : World) : Nat := (Question.nanBits .f32 x y).cut (W.tape W.drawn (Question.nanBits .f32 x y))
theorem nanX_read (x y : Nat) (W : World) : ∃ s f, Ieee.single.read (nanX x y W) = .nan s f := by
  unfold nanX Question.cut
  generalize W.tape W.drawn (Question.nanBits .f32 x y) = t
  dsimp only
  have e31 : (2 : Nat) ^ 31 = 2147483648 := by decide
  have e23 : (2 : Nat) ^ 23 = 8388608 := by decide
  rw [e31, e23]
  have h1 : t % 2 < 2 := Nat.mod_lt _ (by omega)
  have h2 : t / 2 % (8388608 - 1) < 8388607 := Nat.mod_lt _ (by omega)
  generalize t % 2 = s at h1
  generalize t / 2 % (8388608 - 1) = f at h2
  unfold Ieee.Format.read
  rw [sgl_sign, sgl_binade, sgl_inf]
  have e1 : (s * 2147483648 + 2139095040 + 1 + f) % 2147483648 = 2139095040 + 1 + f := by omega
  dsimp only
  rw [e1, if_neg (by omega), if_neg (by omega), if_neg (by omega)]
  exact ⟨_, _, rfl⟩
theorem nanX_zero (x y : Nat) (W : World) : (FloatKind.f32.format.order (nanX x y W) 0 == some .eq) = false := by
  obtain ⟨s, f, h⟩ := nanX_read x y W
  have : FloatKind.f32.format.order (nanX x y W) 0 = none := by
    show (Ieee.single.read _).order (Ieee.single.read _) = _
    rw [h]; rfl
  rw [this]; rfl
theorem run_sub_nan {P : Program} (t : TypeId) {b : Nat} (h : fin Ieee.single b = false) (W : World) : (binOp .sub t (.float .f32 b) (.float .f32 b)).run P W = .ok (.float .f32 (nanX b b W)) W.drew := by
  have hs := sub_none h
  have hf : (Question.nanBits .f32 b b).forced = false := rfl
  simp [binOp, Op.floatArith, hs, hf, nanX]

theorem Finite_any (b : Nat) (w : World) : Calls Tryz.prog 18 #[.float .f32 b] w fun e w' => e = .returned (.bool (fin Ieee.single b)) ∧ Below w.heap.size w w' := by
  by_cases h : fin Ieee.single b = true
  · have ha := fun W : World => run_float_arith (P := Tryz.prog) W .sub 24 .f32 b b 0 (sub_self h)
    have hz : (FloatKind.f32.format.order 0 0 == some .eq) = true := by decide +kernel
    have hb : Below w.heap.size w w := Below.refl _ _
    rw [h]
    clear h
    go_enter Tryz.func18, Tryz.ntmps18
    go_wp2
    go_ret
    exact ⟨rfl, hb⟩
  · have h' : fin Ieee.single b = false := by simpa using h
    have ha := fun W : World => run_sub_nan (P := Tryz.prog) 24 h' W
    have hz := nanX_zero b b w
    have hb : Below w.heap.size w w.drew := (Below.refl _ _).drew
    rw [h']
    clear h h'
    go_enter Tryz.func18, Tryz.ntmps18
    go_wp2
    go_ret
    exact ⟨rfl, hb⟩

end Go.Proofs.YthmiamppfncfoaaGreatDoor
