/- The reference's Finite: a single less itself. -/
import Derived.Test.YtboaojkblmddkaaGreatDoorCEx2
import Derived.Test.YtboaojkblmddkaaGreatDoorCCode
import Derived.Laws.FloatArith
import Derived.Deep.LoopGhost
import Derived.Test.YtboaojkblmddkaaGreatDoorCAwc
import Derived.Test.YtboaojkblmddkaaGreatDoorCDre
namespace Go.Proofs.YtboaojkblmddkaaGreatDoor
open Go.RowKit
open Flt

theorem signed_opp (s : Bool) (m k : Nat) : Ieee.signed s m k + Ieee.signed (!s) m k = 0 := by
  unfold Ieee.signed
  cases s <;> simp <;> omega

theorem sub_self {b : Nat} (h : fin Ieee.single b = true) : floatBits .sub .f32 b b = some 0 := by
  unfold fin at h
  show ((Ieee.single.read b).sum (Ieee.single.read b).opposite).map Ieee.single.write = some 0
  rcases hr : Ieee.single.read b with ⟨s, m, p⟩ | s | ⟨s, f⟩
  · have e1 : (Ieee.Datum.number s m p).opposite = .number (!s) m p := rfl
    rw [e1]
    unfold Ieee.Datum.sum
    simp only [Int.min_self, signed_opp]
    have e2 : (s && !s) = false := by cases s <;> rfl
    simp only [if_true, e2, Int.natAbs_zero, Option.map_some]
    congr 1
  · rw [hr] at h; cases h
  · rw [hr] at h; cases h

theorem sub_none {b : Nat} (h : fin Ieee.single b = false) : FloatKind.f32.format.sub b b = none := by
  unfold fin at h
  show ((Ieee.single.read b).sum (Ieee.single.read b).opposite).map Ieee.single.write = none
  rcases hr : Ieee.single.read b with ⟨s, m, p⟩ | s | ⟨s, f⟩
  · rw [hr] at h; cases h
  · cases s <;> rfl
  · rfl

/-- the NaN that the tape gives -/
def nanX (x y : Nat) (W : World) : Nat := (Question.nanBits .f32 x y).cut (W.tape W.drawn (Question.nanBits .f32 x y))
theorem nanX_read (x y : Nat) (W : World) : ∃ s f, Ieee.single.read (nanX x y W) = .nan s f := by
  unfold nanX Question.cut
  generalize W.tape W.drawn (Question.nanBits .f32 x y) = t
  dsimp only
  have e31 : (2 : Nat) ^ 31 = 2147483648 := by decide
  have e23 : (2 : Nat) ^ 23 = 8388608 := by decide
  rw [e31, e23]
  have h1 : t % 2 < 2 := Nat.mod_lt _ (by omega)
  have h2 : t / 2 % (8388608 - 1) < 8388607 := Nat.mod_lt _ (by omega)
  generalize t % 2 = s at h1
  generalize t / 2 % (8388608 - 1) = f at h2
  unfold Ieee.Format.read
  rw [sgl_sign, sgl_binade, sgl_inf]
  have e1 : (s * 2147483648 + 2139095040 + 1 + f) % 2147483648 = 2139095040 + 1 + f := by omega
  dsimp only
  rw [e1, if_neg (by omega), if_neg (by omega), if_neg (by omega)]
  exact ⟨_, _, rfl⟩
theorem nanX_zero (x y : Nat) (W : World) : (FloatKind.f32.format.order (nanX x y W) 0 == some .eq) = false := by
  obtain ⟨s, f, h⟩ := nanX_read x y W
  have : FloatKind.f32.format.order (nanX x y W) 0 = none := by
    show (Ieee.single.read _).order (Ieee.single.read _) = _
    rw [h]; rfl
  rw [this]; rfl
theorem run_sub_nan {P : Program} (t : TypeId) {b : Nat} (h : fin Ieee.single b = false) (W : World) : (binOp .sub t (.float .f32 b) (.float .f32 b)).run P W = .ok (.float .f32 (nanX b b W)) W.drew := by
  have hs := sub_none h
  have hf : (Question.nanBits .f32 b b).forced = false := rfl
  simp [binOp, Op.floatArith, hs, hf, nanX]

theorem Finite_any (b : Nat) (w : World) : Calls Tryz.prog 62 #[.float .f32 b] w fun e w' => e = .returned (.bool (fin Ieee.single b)) ∧ Below w.heap.size w w' := by
  by_cases h : fin Ieee.single b = true
  · have ha := fun W : World => run_float_arith (P := Tryz.prog) W .sub 23 .f32 b b 0 (sub_self h)
    have hz : (FloatKind.f32.format.order 0 0 == some .eq) = true := by decide +kernel
    have hb : Below w.heap.size w w := Below.refl _ _
    rw [h]
    clear h
    go_enter Tryz.func62, Tryz.ntmps62
    go_wp2
    go_ret
    exact ⟨rfl, hb⟩
  · have h' : fin Ieee.single b = false := by simpa using h
    have ha := fun W : World => run_sub_nan (P := Tryz.prog) 23 h' W
    have hz := nanX_zero b b w
    have hb : Below w.heap.size w w.drew := (Below.refl _ _).drew
    rw [h']
    clear h h'
    go_enter Tryz.func62, Tryz.ntmps62
    go_wp2
    go_ret
    exact ⟨rfl, hb⟩

end Go.Proofs.YtboaojkblmddkaaGreatDoor

/- The reference's CheckSamples, CheckRecords, CheckLevels, SameWords, SameBools. -/
namespace Go.Proofs.YtboaojkblmddkaaGreatDoor
open Go.RowKit
open Flt

/-- the error of samples -/
def smpE (l : List Nat) : Int := if 4096 < l.length then 5 else if l.all (fin Ieee.single) then 0 else 1

set_option maxHeartbeats 1000000 in
theorem rCheckSamples_any (A : Option Addr) (n c : Nat) (l : List Nat) (w : World) (h : Reads w w.heap.size 1 A n (l.map f32v)) (hn : n ≤ maxLen) :
    Calls Tryz.prog 17 #[.slice A n c] w fun e w' => e = .returned (.int .i64 (smpE l)) ∧ Below w.heap.size w w' := by
  unfold maxLen at hn
  have hl := h.lenM
  by_cases hb : 4096 < n
  · have hv : Hid (smpE l = 5) := by unfold Hid smpE; rw [if_pos (by omega)]
    have hd : decide (4096 < n) = true := by simpa using hb
    clear hl
    go_enter Tryz.func17, Tryz.ntmps17
    go_wp2
    go_ret
    exact ⟨by rw [hv.out]; rfl, Below.refl _ _⟩
  · have hd : decide (4096 < n) = false := by simpa using hb
    have HL := Lib.hid hl
    clear hl
    go_enter Tryz.func17, Tryz.ntmps17
    go_wp2
    go_loopg [3] n (fun m s W => ∃ k : Nat, k ≤ n ∧ s = .int .i64 k ∧ n - k ≤ m ∧ Hid ((l.take k).all (fin Ieee.single) = true) ∧ Below w.heap.size w W)
    case atStart => exact ⟨0, Nat.zero_le _, rfl, by omega, by simp [Hid], Below.refl _ _⟩
    case round =>
      obtain ⟨k, hk, rfl, hm, ha, hbel⟩ := hrel
      by_cases h0 : k < n
      · obtain ⟨ad, hkl, rfl, hbb, hcell⟩ := (h.below hbel).cellM h0
        have hs : (l.take (k + 1)).all (fin Ieee.single) = ((l.take k).all (fin Ieee.single) && fin Ieee.single l[k]) := by
          rw [List.take_succ_eq_append_getElem hkl, List.all_append]; simp
        have hm2 : ∀ x ∈ l, l.all (fin Ieee.single) = true → fin Ieee.single x = true := fun x hx hal => List.all_eq_true.1 hal x hx
        have hmem : l[k] ∈ l := List.getElem_mem hkl
        have hx2 := hm2 _ hmem
        clear hm2 hmem
        unfold f32v at hcell
        generalize l[k] = x at *
        by_cases hf : fin Ieee.single x = true
        · have hF := Finite_any x wr
          rw [hf] at hF
          have HF := Lib.hid hF
          rw [hf, Bool.and_true, ha.out] at hs
          have HS := Lib.hid hs
          clear hF hf hs hx2
          go_wp2_with fail
          refine HF.out.mono ?_
          rintro e w1 ⟨rfl, hb1⟩
          go_wp2_with fail
          go_roundg (n - (k + 1))
          case measure => omega
          case rel => exact ⟨k + 1, by omega, by go_num, Nat.le_refl _, HS.out, hbel.trans (hb1.mono hbel.size)⟩
        · have hf' : fin Ieee.single x = false := by simpa using hf
          have hF := Finite_any x wr
          rw [hf'] at hF
          have HF := Lib.hid hF
          have hv : Hid (smpE l = 1) := by
            unfold Hid smpE
            rw [if_neg (by have := HL.out; omega), if_neg (fun h => hf (hx2 h))]
          clear hF hf hf' hs hx2
          go_wp2_with fail
          refine HF.out.mono ?_
          rintro e w1 ⟨rfl, hb1⟩
          go_wp2_with fail
          go_ret
          exact ⟨by rw [hv.out]; rfl, hbel.trans (hb1.mono hbel.size)⟩
      · have hv : Hid (smpE l = 0) := by
          have ha2 := ha.out
          rw [List.take_of_length_le (by have := HL.out; omega)] at ha2
          unfold Hid smpE
          rw [if_neg (by have := HL.out; omega), if_pos ha2]
        go_wp2
        go_ret
        exact ⟨by rw [hv.out]; rfl, hbel⟩

/-- the error of two levels -/
def levE (lo hi : Nat) : Int := if fin Ieee.single lo = true ∧ fin Ieee.single hi = true then (if fge lo hi = true then 11 else 0) else 1

set_option maxHeartbeats 1000000 in
theorem rCheckLevels_any (lo hi : Nat) (w : World) : Calls Tryz.prog 18 #[.agg #[.float .f32 lo, .float .f32 hi]] w fun e w' => e = .returned (.int .i64 (levE lo hi)) ∧ Below w.heap.size w w' := by
  have hb0 : Below w.heap.size w (w.alloc (.cells #[.float .f32 lo, .float .f32 hi] 25)) := (Below.refl _ _).alloc (Nat.le_refl _) _
  have q0 : CBlk (w.alloc (.cells #[.float .f32 lo, .float .f32 hi] 25)) w.heap.size #[.float .f32 lo, .float .f32 hi] 25 := CBlk.new w _ _ _ rfl
  have hF := fun (b : Nat) (W : World) => Finite_any b W
  by_cases h1 : fin Ieee.single lo = true
  · by_cases h2 : fin Ieee.single hi = true
    · have F1 := Lib.hid (fun W : World => h1 ▸ Finite_any lo W)
      have F2 := Lib.hid (fun W : World => h2 ▸ Finite_any hi W)
      by_cases h3 : fge lo hi = true
      · have hv : Hid (levE lo hi = 11) := by unfold Hid levE; rw [if_pos ⟨h1, h2⟩, if_pos h3]
        have t3 : (FloatKind.f32.format.order lo hi == some .gt || FloatKind.f32.format.order lo hi == some .eq) = true := h3
        clear h1 h2 h3 hF
        go_enter Tryz.func18, Tryz.ntmps18
        go_wp2_with fail
        refine (F1.out _).mono ?_
        rintro e w1 ⟨rfl, hb1⟩
        have q1 := q0.below hb1 q0.lt
        have z0 := q1.cell 0
        have z1 := q1.cell 1
        go_wp2_with fail
        refine (F2.out _).mono ?_
        rintro e w2 ⟨rfl, hb2⟩
        have q2 := q1.below hb2 q1.lt
        have y0 := q2.cell 0
        have y1 := q2.cell 1
        go_wp2_with fail
        go_ret
        exact ⟨by rw [hv.out]; rfl, (hb0.trans (hb1.mono hb0.size)).trans (hb2.mono (hb0.trans (hb1.mono hb0.size)).size)⟩
      · have hv : Hid (levE lo hi = 0) := by unfold Hid levE; rw [if_pos ⟨h1, h2⟩, if_neg h3]
        have h3' : fge lo hi = false := by simpa using h3
        have t3 : (FloatKind.f32.format.order lo hi == some .gt || FloatKind.f32.format.order lo hi == some .eq) = false := h3'
        clear h1 h2 h3 h3' hF
        go_enter Tryz.func18, Tryz.ntmps18
        go_wp2_with fail
        refine (F1.out _).mono ?_
        rintro e w1 ⟨rfl, hb1⟩
        have q1 := q0.below hb1 q0.lt
        have z0 := q1.cell 0
        have z1 := q1.cell 1
        go_wp2_with fail
        refine (F2.out _).mono ?_
        rintro e w2 ⟨rfl, hb2⟩
        have q2 := q1.below hb2 q1.lt
        have y0 := q2.cell 0
        have y1 := q2.cell 1
        go_wp2_with fail
        go_ret
        exact ⟨by rw [hv.out]; rfl, (hb0.trans (hb1.mono hb0.size)).trans (hb2.mono (hb0.trans (hb1.mono hb0.size)).size)⟩
    · have hv : Hid (levE lo hi = 1) := by unfold Hid levE; rw [if_neg (fun h => h2 h.2)]
      have h2' : fin Ieee.single hi = false := by simpa using h2
      have F1 := Lib.hid (fun W : World => h1 ▸ Finite_any lo W)
      have F2 := Lib.hid (fun W : World => h2' ▸ Finite_any hi W)
      clear h1 h2 h2' hF
      go_enter Tryz.func18, Tryz.ntmps18
      go_wp2_with fail
      refine (F1.out _).mono ?_
      rintro e w1 ⟨rfl, hb1⟩
      have q1 := q0.below hb1 q0.lt
      have z0 := q1.cell 0
      have z1 := q1.cell 1
      go_wp2_with fail
      refine (F2.out _).mono ?_
      rintro e w2 ⟨rfl, hb2⟩
      go_wp2_with fail
      go_ret
      exact ⟨by rw [hv.out]; rfl, (hb0.trans (hb1.mono hb0.size)).trans (hb2.mono (hb0.trans (hb1.mono hb0.size)).size)⟩
  · have hv : Hid (levE lo hi = 1) := by unfold Hid levE; rw [if_neg (fun h => h1 h.1)]
    have h1' : fin Ieee.single lo = false := by simpa using h1
    have F1 := Lib.hid (fun W : World => h1' ▸ Finite_any lo W)
    clear h1 h1' hF
    go_enter Tryz.func18, Tryz.ntmps18
    go_wp2_with fail
    refine (F1.out _).mono ?_
    rintro e w1 ⟨rfl, hb1⟩
    go_wp2_with fail
    go_ret
    exact ⟨by rw [hv.out]; rfl, hb0.trans (hb1.mono hb0.size)⟩

set_option maxHeartbeats 1000000 in
theorem sameWords_eq (A A' : Option Addr) (n c c' : Nat) (l : List Nat) (w : World) (h : Reads w w.heap.size 1 A n (l.map u16v)) (h' : Reads w w.heap.size 1 A' n (l.map u16v)) (hn : n ≤ maxLen) :
    Calls Tryz.prog 34 #[.slice A n c, .slice A' n c'] w fun e w' => e = .returned (.bool true) ∧ Below w.heap.size w w' := by
  unfold maxLen at hn
  go_enter Tryz.func34, Tryz.ntmps34
  go_wp2
  go_loopg [5] n (fun m s W => ∃ k : Nat, k ≤ n ∧ s = .int .i64 k ∧ n - k ≤ m ∧ Below w.heap.size w W)
  case atStart => exact ⟨0, Nat.zero_le _, rfl, by omega, Below.refl _ _⟩
  case round =>
    obtain ⟨k, hk, rfl, hm, hbel⟩ := hrel
    by_cases h0 : k < n
    · obtain ⟨ad, hkl, rfl, hbb, hcell⟩ := (h.below hbel).cellM h0
      obtain ⟨ad', hkl', rfl, hbb', hcell'⟩ := (h'.below hbel).cellM h0
      unfold u16v at hcell hcell'
      generalize l[k] = x at *
      go_wp2
      go_region
      go_wp2
      go_roundg (n - (k + 1))
      case measure => omega
      case rel => exact ⟨k + 1, by omega, by go_num, Nat.le_refl _, hbel.drew⟩
    · go_wp2
      go_ret
      exact ⟨rfl, hbel⟩

set_option maxHeartbeats 1000000 in
theorem sameBools_eq (A A' : Option Addr) (n c c' : Nat) (l : List Bool) (w : World) (h : Reads w w.heap.size 1 A n (l.map boolv)) (h' : Reads w w.heap.size 1 A' n (l.map boolv)) (hn : n ≤ maxLen) :
    Calls Tryz.prog 22 #[.slice A n c, .slice A' n c'] w fun e w' => e = .returned (.bool true) ∧ Below w.heap.size w w' := by
  unfold maxLen at hn
  go_enter Tryz.func22, Tryz.ntmps22
  go_wp2
  go_loopg [5] n (fun m s W => ∃ k : Nat, k ≤ n ∧ s = .int .i64 k ∧ n - k ≤ m ∧ Below w.heap.size w W)
  case atStart => exact ⟨0, Nat.zero_le _, rfl, by omega, Below.refl _ _⟩
  case round =>
    obtain ⟨k, hk, rfl, hm, hbel⟩ := hrel
    by_cases h0 : k < n
    · obtain ⟨ad, hkl, rfl, hbb, hcell⟩ := (h.below hbel).cellM h0
      obtain ⟨ad', hkl', rfl, hbb', hcell'⟩ := (h'.below hbel).cellM h0
      unfold boolv at hcell hcell'
      generalize l[k] = x at *
      have hxx : (x != x) = false := by cases x <;> rfl
      go_wp2
      go_region
      go_wp2
      go_roundg (n - (k + 1))
      case measure => omega
      case rel => exact ⟨k + 1, by omega, by go_num, Nat.le_refl _, hbel.drew⟩
    · go_wp2
      go_ret
      exact ⟨rfl, hbel⟩

end Go.Proofs.YtboaojkblmddkaaGreatDoor

/- The reference's SameRanges of two ranges; probe's Block of three words. -/
namespace Go.Proofs.YtboaojkblmddkaaGreatDoor
open Go.RowKit Bn
open Flt

set_option maxHeartbeats 2000000 in
set_option maxRecDepth 100000 in
theorem aw_ranges_eq (g g' c c' : Nat) (w : World) (h : Reads w w.heap.size 2 (some ⟨g, 0, none⟩) 2 [.int .i64 0, .int .i64 1, .int .i64 3, .int .i64 5]) (h' : Reads w w.heap.size 2 (some ⟨g', 0, none⟩) 2 [.int .i64 0, .int .i64 1, .int .i64 3, .int .i64 5]) :
    Calls Tryz.prog 54 #[.slice (some ⟨g, 0, none⟩) 2 c, .slice (some ⟨g', 0, none⟩) 2 c'] w fun e w' => e = .returned (.bool true) ∧ Below w.heap.size w w' := by
  obtain ⟨ad, had, hb, hce⟩ := h.2 (by omega)
  cases had
  obtain ⟨ad', had', hb', hce'⟩ := h'.2 (by omega)
  cases had'
  have y0 : w.cell? ⟨g, 0, none⟩ = some (.int .i64 0) := hce 0 (.int .i64 0) rfl
  have z0 : w.cell? ⟨g', 0, none⟩ = some (.int .i64 0) := hce' 0 (.int .i64 0) rfl
  have y1 : w.cell? ⟨g, 1, none⟩ = some (.int .i64 1) := hce 1 (.int .i64 1) rfl
  have z1 : w.cell? ⟨g', 1, none⟩ = some (.int .i64 1) := hce' 1 (.int .i64 1) rfl
  have y2 : w.cell? ⟨g, 2, none⟩ = some (.int .i64 3) := hce 2 (.int .i64 3) rfl
  have z2 : w.cell? ⟨g', 2, none⟩ = some (.int .i64 3) := hce' 2 (.int .i64 3) rfl
  have y3 : w.cell? ⟨g, 3, none⟩ = some (.int .i64 5) := hce 3 (.int .i64 5) rfl
  have z3 : w.cell? ⟨g', 3, none⟩ = some (.int .i64 5) := hce' 3 (.int .i64 5) rfl
  clear hce hce' h h'
  have q0 : ∀ W : World, (Op.equalIn 10000 87 (.agg #[.int .i64 0, .int .i64 1]) (.agg #[.int .i64 0, .int .i64 1])).run Tryz.prog W = .ok true W := fun W => by kernel_rfl
  have q1 : ∀ W : World, (Op.equalIn 10000 87 (.agg #[.int .i64 3, .int .i64 5]) (.agg #[.int .i64 3, .int .i64 5])).run Tryz.prog W = .ok true W := fun W => by kernel_rfl
  go_enter Tryz.func54, Tryz.ntmps54
  go_wp2
  go_loopg [5] 2 (fun m s W => Below w.heap.size w W ∧ ((s = .int .i64 0 ∧ 2 ≤ m) ∨ (s = .int .i64 1 ∧ 1 ≤ m) ∨ s = .int .i64 2))
  case atStart => exact ⟨Below.refl _ _, Or.inl ⟨rfl, Nat.le_refl _⟩⟩
  case round =>
    obtain ⟨hbel, (⟨rfl, hm⟩ | ⟨rfl, hm⟩ | rfl)⟩ := hrel
    · have c0 := (hbel.cell (p := ⟨g, 0, none⟩) hb).trans y0
      have c1 := (hbel.cell (p := ⟨g, 1, none⟩) hb).trans y1
      have d0 := (hbel.cell (p := ⟨g', 0, none⟩) hb').trans z0
      have d1 := (hbel.cell (p := ⟨g', 1, none⟩) hb').trans z1
      go_wp2
      go_region
      go_wp2
      go_roundg 1
      case measure => omega
      case rel => exact ⟨hbel.drew, Or.inr (Or.inl ⟨rfl, Nat.le_refl _⟩)⟩
    · have c2 := (hbel.cell (p := ⟨g, 2, none⟩) hb).trans y2
      have c3 := (hbel.cell (p := ⟨g, 3, none⟩) hb).trans y3
      have d2 := (hbel.cell (p := ⟨g', 2, none⟩) hb').trans z2
      have d3 := (hbel.cell (p := ⟨g', 3, none⟩) hb').trans z3
      go_wp2
      go_region
      go_wp2
      go_roundg 0
      case measure => omega
      case rel => exact ⟨hbel.drew, Or.inr (Or.inr rfl)⟩
    · go_wp2
      go_ret
      exact ⟨rfl, hbel⟩

set_option maxHeartbeats 1000000 in
theorem aw_block (A : Option Addr) (c : Nat) (w : World) :
    Calls Tryz.prog 35 #[.slice A 3 c] w fun e w' => e = .returned (.tuple #[.agg #[.int .u16 0, .int .u16 0, .int .u16 0, .int .u16 0, .int .u16 0, .int .u16 0, .int .u16 0, .int .u16 0, .int .u16 0, .int .u16 0, .int .u16 0, .int .u16 0, .int .u16 0, .int .u16 0, .int .u16 0, .int .u16 0], .int .i64 2]) ∧ Below w.heap.size w w' := by
  have HM := Lib.hid (fun W => catMost_u16 A 3 c 4096 W)
  go_enter Tryz.func35, Tryz.ntmps35
  go_wp2_with fail
  refine (HM.out _).mono ?_
  rintro e w1 ⟨rfl, rfl⟩
  go_wp2_with fail
  refine bodyPost_ret (v := .tuple #[.agg #[.int .u16 0, .int .u16 0, .int .u16 0, .int .u16 0, .int .u16 0, .int .u16 0, .int .u16 0, .int .u16 0, .int .u16 0, .int .u16 0, .int .u16 0, .int .u16 0, .int .u16 0, .int .u16 0, .int .u16 0, .int .u16 0], .int .i64 2]) (by simp [results, Tryz.results35, go_sem]) rfl ⟨rfl, (Below.refl _ _).alloc (Nat.le_refl _) _⟩

end Go.Proofs.YtboaojkblmddkaaGreatDoor

/- Contracts of package probe, chapter 2. -/
namespace Go.Proofs.YtboaojkblmddkaaGreatDoor
open Go.RowKit Bn
open Flt

set_option maxHeartbeats 2000000 in
set_option maxRecDepth 100000 in
theorem Full_ok (a : Nat) (st z : Int) (g o : ByteArray) (x y : Nat) (l m : List UInt8) (w : World) (hT : Tabs w) (h : Conv a st z g o) (hx : nomW (0 - z) st = x) (hy : nomW (((2 ^ a - 1 : Nat) : Int) - z) st = y) (hl : exT x = l) (hm : exT y = m) :
    Calls Tryz.prog 47 #[.agg #[.int .i64 a, .int .i64 st, .int .i64 z, .string g, .string o]] w fun e w' => e = .returned (.tuple #[.agg #[.string ⟨l.toArray⟩, .string ⟨m.toArray⟩], .int .i64 0]) ∧ Below w.heap.size w w' := by
  have hp : 2 ^ a ≤ 2 ^ 12 := Nat.pow_le_pow_right (by omega) h.bits.2
  have hz := h.zero
  have hb0 : Below w.heap.size w ((w.alloc (.cells #[.int .i64 a, .int .i64 st, .int .i64 z, .string g, .string o] 91)).alloc (.cells #[.string { data := #[] }, .string { data := #[] }] 94)) := ((Below.refl _ _).alloc (Nat.le_refl _) _).alloc (by simp) _
  have q0 : CBlk ((w.alloc (.cells #[.int .i64 a, .int .i64 st, .int .i64 z, .string g, .string o] 91)).alloc (.cells #[.string { data := #[] }, .string { data := #[] }] 94)) w.heap.size #[.int .i64 a, .int .i64 st, .int .i64 z, .string g, .string o] 91 := (CBlk.new w _ _ _ rfl).below ((Below.refl _ _).alloc (Nat.le_refl _) _) (by simp)
  have s0 : CBlk ((w.alloc (.cells #[.int .i64 a, .int .i64 st, .int .i64 z, .string g, .string o] 91)).alloc (.cells #[.string { data := #[] }, .string { data := #[] }] 94)) (w.heap.size + 1) #[.string { data := #[] }, .string { data := #[] }] 94 := CBlk.new _ _ _ _ (by simp)
  have HC := Lib.hid (checkAdc_ok a st z g o _ (hT.later hb0) h)
  have HTP := Lib.hid (fun W => top_any a st z (.string g) (.string o) W (by have := h.bits; omega))
  have HN0 := Lib.hid (fun W => nominal_any a st z 0 (.string g) (.string o) W (by omega) (by omega) (by have := h.step; omega) (by have := h.step; omega))
  have HNT := Lib.hid (fun W => nominal_any a st z ((2 ^ a - 1 : Nat) : Int) (.string g) (.string o) W (by omega) (by omega) (by have := h.step; omega) (by have := h.step; omega))
  have HSP := Lib.hid (fun W hT => spanOf_eq x y l m W hT hl hm)
  rw [hx] at HN0
  rw [hy] at HNT
  generalize ((2 ^ a - 1 : Nat) : Int) = T at *
  generalize l.toArray = la at *
  generalize m.toArray = ma at *
  clear h hz hp hl hm hx hy
  go_enter Tryz.func47, Tryz.ntmps47
  have x0 := q0.cell 0
  have x1 := q0.cell 1
  have x2 := q0.cell 2
  have x3 := q0.cell 3
  have x4 := q0.cell 4
  go_wp2_with fail
  generalize ((w.alloc (.cells #[.int .i64 a, .int .i64 st, .int .i64 z, .string g, .string o] 91)).alloc (.cells #[.string { data := #[] }, .string { data := #[] }] 94)) = w1 at *
  have hT1 := hT.later hb0
  refine HC.out.mono ?_
  rintro e w2 ⟨rfl, hb2⟩
  have q2 := q0.below hb2 q0.lt
  have s2 := s0.below hb2 s0.lt
  have hT2 := hT1.later hb2
  have hB2 := hb0.trans (hb2.mono hb0.size)
  clear x0 x1 x2 x3 x4
  have x0 := q2.cell 0
  have x1 := q2.cell 1
  have x2 := q2.cell 2
  have x3 := q2.cell 3
  have x4 := q2.cell 4
  go_wp2_with fail
  go_region_held3 (fun w' => w'.cell? ⟨w.heap.size, 0, none⟩ = some (.int .i64 a) ∧ w'.cell? ⟨w.heap.size, 1, none⟩ = some (.int .i64 st) ∧ w'.cell? ⟨w.heap.size, 2, none⟩ = some (.int .i64 z) ∧ w'.cell? ⟨w.heap.size, 3, none⟩ = some (.string g) ∧ w'.cell? ⟨w.heap.size, 4, none⟩ = some (.string o))
    ((refine ⟨?_, ?_, ?_, ?_, ?_⟩ <;> first | exact q6.cell _ | exact q5.cell _ | exact q4.cell _ | exact q3.cell _ | exact q2.cell _ | exact (q6.far2 (Nat.succ_ne_self _) _ _).cell _))
    (first
      | (go_at_call 81; refine (HSP.out w5 hT5).mono ?_; rintro e w6 ⟨rfl, hb6⟩; have q6 := q5.below hb6 q5.lt; have s6 := s5.below hb6 s5.lt; have r0 := s6.cell 0; have r1 := s6.cell 1; have f0 := s6.frozen 0; have f1 := s6.frozen 1)
      | (go_at_call 82; refine (HNT.out w4).mono ?_; rintro e w5 ⟨rfl, hb5⟩; have q5 := q4.below hb5 q4.lt; have s5 := s4.below hb5 s4.lt; have hT5 := hT4.later hb5)
      | (go_at_call 83; refine (HTP.out w3).mono ?_; rintro e w4 ⟨rfl, hb4⟩; have q4 := q3.below hb4 q3.lt; have s4 := s3.below hb4 s3.lt; have hT4 := hT3.later hb4)
      | (go_at_call 82; refine (HN0.out w2.drew).mono ?_; rintro e w3 ⟨rfl, hb3'⟩; have hb3 : Below w2.heap.size w2 w3 := ⟨hb3'.os, hb3'.tape, hb3'.output, hb3'.size, hb3'.block⟩; clear hb3'; have q3 := q2.below hb3 q2.lt; have s3 := s2.below hb3 s2.lt; have hT3 := hT2.later hb3))
  have hB3 := hB2.trans (hb3.mono hB2.size)
  have hB4 := hB3.trans (hb4.mono hB3.size)
  have hB5 := hB4.trans (hb5.mono hB4.size)
  have hB6 := hB5.trans (hb6.mono hB5.size)
  have hset := two_set hB6 (g := w.heap.size + 1) (by omega) (.string ⟨la⟩) (.string ⟨ma⟩)
  clear HC HTP HN0 HNT HSP
  go_wp2_with fail
  refine bodyPost_ret (v := .tuple #[.agg #[.string ⟨la⟩, .string ⟨ma⟩], .int .i64 0]) (by simp [results, Tryz.results47, go_sem, r0, r1]) rfl ⟨rfl, hset⟩

end Go.Proofs.YtboaojkblmddkaaGreatDoor
