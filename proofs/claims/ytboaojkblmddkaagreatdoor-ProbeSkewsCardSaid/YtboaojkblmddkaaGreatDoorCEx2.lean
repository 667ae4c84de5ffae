/- The contract of Exact. -/
import Derived.Test.YtboaojkblmddkaaGreatDoorCEx1
import Derived.Test.YtboaojkblmddkaaGreatDoorCNat1
import Derived.Test.YtboaojkblmddkaaGreatDoorCShelf
import Derived.Lib.IndexLaws
namespace Go.Proofs.YtboaojkblmddkaaGreatDoor
open Go.RowKit Bn
open Flt

/-- what Exact needs to know of a single: part, exponent and whole number -/
structure Parts (b x y y2 : Nat) (i z : Int) : Prop where
  fine : Fine b x
  frx : ∀ W : World, Calls Tryz.prog 147 #[.float .f64 x] W fun e w' => e = .returned (.tuple #[.float .f64 y, .int .i64 i]) ∧ W = w'
  mul : floatBits .mul .f64 y 4715268809856909312 = some y2
  int : floatToIntVal .f64 y2 .i64 = some z
  z0 : -16777216 < z
  z1 : z < 16777216
  i0 : -1000 ≤ i
  i1 : i ≤ 1000

theorem lowQ_top_le (g : Bool) (t b : Nat) : (lowQ g t b).top ≤ t := by
  unfold lowQ; split
  · exact Nat.zero_le _
  · split
    · exact Nat.zero_le _
    · exact Nat.div_le_self _ _
theorem lowQ_bot_le (g : Bool) (t b : Nat) : (lowQ g t b).bot ≤ b + 1 := by
  unfold lowQ; split
  · exact Nat.zero_le _
  · split
    · show 1 ≤ _; omega
    · exact Nat.le_trans (Nat.div_le_self _ _) (Nat.le_succ _)
theorem digs_pow_le {x s k : Nat} (h : x ≤ 2 ^ s) (hk : s < 64 * k) : (digs x).length ≤ k := by
  refine digs_length_le ?_
  have e : B ^ k = 2 ^ (64 * k) := by rw [Nat.pow_mul]; rfl
  rw [e]
  exact Nat.lt_of_le_of_lt h (Nat.pow_lt_pow_right (by omega) hk)
theorem digs_one_len {x : Nat} (h : x ≤ 16777216) : (digs x).length ≤ 1 := digs_length_le (k := 1) (by rw [B_def]; omega)

set_option maxHeartbeats 4000000 in
set_option maxRecDepth 100000 in
theorem Exact_down {b x y y2 : Nat} {i z : Int} (w : World) (hT : Tabs w) (h : Parts b x y y2 i z) (hi : i < 24) :
    Calls Tryz.prog 125 #[.float .f32 b] w (RetText w (writeT (lowQ (decide (z < 0)) z.natAbs (2 ^ (24 - i).toNat))) (writeE (lowQ (decide (z < 0)) z.natAbs (2 ^ (24 - i).toNat)))) := by
  have hcv := fun W : World => run_convert_float_float (P := Tryz.prog) W 23 172 .f32 .f64 b x (by kernel_rfl) (by kernel_rfl) h.fine.conv
  have hif := isFinite_fine w h.fine
  have hml := fun W : World => run_float_arith (P := Tryz.prog) W .mul 172 .f64 y 4715268809856909312 y2 h.mul
  have hci := fun W : World => run_convert_float_int (P := Tryz.prog) W 172 3 .f64 .i64 y2 z (by kernel_rfl) (by kernel_rfl) h.int
  obtain ⟨_, hfx, _, _, z0, z1, i0, i1⟩ := h
  have w1 : wrap64 (i - 24) = i - 24 := IntWalk.wrap64_in _ (by omega)
  have w2 : wrap64 (-(i - 24)) = -(i - 24) := IntWalk.wrap64_in _ (by omega)
  obtain ⟨s, hs⟩ : ∃ s : Nat, (24 - i).toNat = s ∧ i = 24 - (s : Int) := ⟨(24 - i).toNat, rfl, by omega⟩
  have hs1 : s ≤ 2000 := by omega
  have hmx : max (i - 24) (-(i - 24)) = (s : Int) := by omega
  rw [hs.1]
  have HI := Lib.hid hif
  have HFX := Lib.hid hfx
  have HS := Lib.hid hs
  clear hif hfx hs
  go_enter Tryz.func125, Tryz.ntmps125
  go_wp2_with fail
  refine HI.out.mono ?_
  rintro e w0 ⟨rfl, rfl⟩
  go_wp2_with fail
  refine (HFX.out _).mono ?_
  rintro e w0 ⟨rfl, rfl⟩
  go_wp2_with fail
  refine (integer_any z _ (by omega) (by omega)).mono ?_
  rintro e wa ⟨v, rfl, ⟨A, n, c, A', n', c', rfl, h1, h2⟩, hb⟩
  have hb2 : Below wa.heap.size wa (wa.alloc (.cells #[.bool (decide (z < 0)), .slice A n c, .slice A' n' c'] 176)) := (Below.refl _ _).alloc (Nat.le_refl _) _
  go_wp2_with fail
  refine (naturalOf_any 1 _ (by omega) (by omega)).mono ?_
  rintro e wc ⟨A3, n3, c3, rfl, h3, hb3⟩
  go_wp2_with fail
  have h3' : NatS wc wc.heap.size A3 n3 c3 1 := h3
  have l3 : n3 ≤ 1 := by rw [← h3'.len]; exact digs_one_len (by omega)
  have lz : z.natAbs ≤ 16777216 := by omega
  have l1 : n ≤ 1 := by rw [← h1.len]; exact digs_one_len lz
  refine (shiftedLeft_any A3 n3 c3 1 s wc h3' (by omega) (by omega)).mono ?_
  rintro e wd ⟨A4, n4, c4, rfl, h4, hb4⟩
  rw [Nat.one_mul] at h4
  have l4 : n4 ≤ 64 := by rw [← h4.len]; exact digs_pow_le (Nat.le_refl _) (by omega)
  have hsc : wa.heap.size < wc.heap.size := by have := hb3.size; simp at this; omega
  have hx4 : ResBlk wd wa.heap.size (decide (z < 0)) (.slice A n c) (.slice A' n' c') := ((ResBlk.new wa _ _ _).below hb3 (by simp)).below hb4 hsc
  have hTd : Tabs wd := (((hT.later hb).later hb2).later hb3).later hb4
  have hBd : Below w.heap.size w wd := (((hb.trans (hb2.mono hb.size)).trans (hb3.mono (by have := hb.size; simp; omega)))).trans (hb4.mono (by have := hb.size; omega))
  have hlo := lowest_any (decide (z < 0)) A A4 n c n4 c4 z.natAbs (2 ^ s) wd hTd (((h1.later hb2).later hb3).later hb4) h4 (by omega) (by omega)
  have lt := lowQ_top_le (decide (z < 0)) z.natAbs (2 ^ s)
  have lb := lowQ_bot_le (decide (z < 0)) z.natAbs (2 ^ s)
  have k1 : (digs (lowQ (decide (z < 0)) z.natAbs (2 ^ s)).top).length ≤ 1 := digs_one_len (by omega)
  have k2 : (digs (lowQ (decide (z < 0)) z.natAbs (2 ^ s)).bot).length ≤ 64 := digs_pow_le (s := s + 1) (by have := Nat.two_pow_pos s; rw [Nat.pow_succ]; omega) (by omega)
  generalize lowQ (decide (z < 0)) z.natAbs (2 ^ s) = q at *
  obtain ⟨x0, x1, x2, _, _, _, xl⟩ := hx4.cells
  have HLO := Lib.hid hlo
  clear hlo
  go_wp2_with fail
  refine HLO.out.mono ?_
  rintro e we ⟨v, rfl, ⟨A5, n5, c5, A6, n6, c6, rfl, h5, h6⟩, hb5⟩
  have hwr := write_any q A5 A6 n5 c5 n6 c6 we (hTd.later hb5) h5 h6 (by rw [← h5.len]; omega) (by rw [← h6.len]; omega)
  have HWR := Lib.hid hwr
  clear hwr HLO
  go_wp2_with fail
  refine HWR.out.mono ?_
  rintro e wf ⟨S, rfl, hS, hb6⟩
  go_wp2_with fail
  go_ret2
  exact ⟨S, rfl, hS, (hBd.trans (hb5.mono hBd.size)).trans (hb6.mono (by have := hBd.size; have := hb5.size; omega))⟩

set_option maxHeartbeats 4000000 in
set_option maxRecDepth 100000 in
theorem Exact_up {b x y y2 : Nat} {i z : Int} (w : World) (hT : Tabs w) (h : Parts b x y y2 i z) (hi : 24 ≤ i) :
    Calls Tryz.prog 125 #[.float .f32 b] w (RetText w (writeT ⟨decide (z < 0), z.natAbs * 2 ^ (i - 24).toNat, 1⟩) (writeE ⟨decide (z < 0), z.natAbs * 2 ^ (i - 24).toNat, 1⟩)) := by
  have hcv := fun W : World => run_convert_float_float (P := Tryz.prog) W 23 172 .f32 .f64 b x (by kernel_rfl) (by kernel_rfl) h.fine.conv
  have hif := isFinite_fine w h.fine
  have hml := fun W : World => run_float_arith (P := Tryz.prog) W .mul 172 .f64 y 4715268809856909312 y2 h.mul
  have hci := fun W : World => run_convert_float_int (P := Tryz.prog) W 172 3 .f64 .i64 y2 z (by kernel_rfl) (by kernel_rfl) h.int
  obtain ⟨_, hfx, _, _, z0, z1, i0, i1⟩ := h
  have w1 : wrap64 (i - 24) = i - 24 := IntWalk.wrap64_in _ (by omega)
  have w2 : wrap64 (-(i - 24)) = -(i - 24) := IntWalk.wrap64_in _ (by omega)
  obtain ⟨s, hs⟩ : ∃ s : Nat, (i - 24).toNat = s ∧ i = 24 + (s : Int) := ⟨(i - 24).toNat, rfl, by omega⟩
  have hs1 : s ≤ 2000 := by omega
  have hmx : max (i - 24) (-(i - 24)) = (s : Int) := by omega
  rw [hs.1]
  have HI := Lib.hid hif
  have HFX := Lib.hid hfx
  have HS := Lib.hid hs
  clear hif hfx hs
  go_enter Tryz.func125, Tryz.ntmps125
  go_wp2_with fail
  refine HI.out.mono ?_
  rintro e w0 ⟨rfl, rfl⟩
  go_wp2_with fail
  refine (HFX.out _).mono ?_
  rintro e w0 ⟨rfl, rfl⟩
  go_wp2_with fail
  refine (integer_any z _ (by omega) (by omega)).mono ?_
  rintro e wa ⟨v, rfl, ⟨A, n, c, A', n', c', rfl, h1, h2⟩, hb⟩
  have hb2 : Below wa.heap.size wa (wa.alloc (.cells #[.bool (decide (z < 0)), .slice A n c, .slice A' n' c'] 176)) := (Below.refl _ _).alloc (Nat.le_refl _) _
  go_wp2_with fail
  refine (naturalOf_any 1 _ (by omega) (by omega)).mono ?_
  rintro e wc ⟨A3, n3, c3, rfl, h3, hb3⟩
  go_wp2_with fail
  have h3' : NatS wc wc.heap.size A3 n3 c3 1 := h3
  have l3 : n3 ≤ 1 := by rw [← h3'.len]; exact digs_one_len (by omega)
  have lz : z.natAbs ≤ 16777216 := by omega
  have l1 : n ≤ 1 := by rw [← h1.len]; exact digs_one_len lz
  refine (shiftedLeft_any A3 n3 c3 1 s wc h3' (by omega) (by omega)).mono ?_
  rintro e wd ⟨A4, n4, c4, rfl, h4, hb4⟩
  rw [Nat.one_mul] at h4
  have l4 : n4 ≤ 64 := by rw [← h4.len]; exact digs_pow_le (Nat.le_refl _) (by omega)
  have hsc : wa.heap.size < wc.heap.size := by have := hb3.size; simp at this; omega
  have hx4 : ResBlk wd wa.heap.size (decide (z < 0)) (.slice A n c) (.slice A' n' c') := ((ResBlk.new wa _ _ _).below hb3 (by simp)).below hb4 hsc
  have hTd : Tabs wd := (((hT.later hb).later hb2).later hb3).later hb4
  have hBd : Below w.heap.size w wd := (((hb.trans (hb2.mono hb.size)).trans (hb3.mono (by have := hb.size; simp; omega)))).trans (hb4.mono (by have := hb.size; omega))
  have ht1 := times_any A A4 n c n4 c4 z.natAbs (2 ^ s) wd.drew ((((h1.later hb2).later hb3).later hb4).later (Below.refl _ _).drew) (h4.later (Below.refl _ _).drew) (by omega) (by omega)
  have hBdd : Below w.heap.size w wd.drew := hBd.drew
  have hTdd : Tabs wd.drew := hTd.later (Below.refl _ _).drew
  obtain ⟨x0, x1, x2, _, _, _, xl⟩ := hx4.cells
  have HT1 := Lib.hid ht1
  clear ht1
  go_wp2_with fail
  go_region_held3 (fun w' => w'.cell? ⟨wa.heap.size, 0, none⟩ = some (.bool (decide (z < 0))) ∧ w'.cell? ⟨wa.heap.size, 1, none⟩ = some (.slice A n c))
    ((first | exact ⟨x0, x1⟩ | exact ⟨((hb5.cell (p := ⟨wa.heap.size, 0, none⟩) xl).trans x0), ((hb5.cell (p := ⟨wa.heap.size, 1, none⟩) xl).trans x1)⟩ | exact ⟨((hb6.cell (p := ⟨wa.heap.size, 0, none⟩) al6).trans ((hb5.cell (p := ⟨wa.heap.size, 0, none⟩) xl).trans x0)), ((hb6.cell (p := ⟨wa.heap.size, 1, none⟩) al6).trans ((hb5.cell (p := ⟨wa.heap.size, 1, none⟩) xl).trans x1))⟩ | exact ⟨((hb7.cell (p := ⟨wa.heap.size, 0, none⟩) al7).trans ((hb6.cell (p := ⟨wa.heap.size, 0, none⟩) al6).trans ((hb5.cell (p := ⟨wa.heap.size, 0, none⟩) xl).trans x0))), ((hb7.cell (p := ⟨wa.heap.size, 1, none⟩) al7).trans ((hb6.cell (p := ⟨wa.heap.size, 1, none⟩) al6).trans ((hb5.cell (p := ⟨wa.heap.size, 1, none⟩) xl).trans x1)))⟩))
    (first
      | (go_at_call 152; refine (HT1.out).mono ?_; rintro e w5 ⟨A5, m5, c5, rfl, hn5, hb5⟩; have al6 := Nat.lt_of_lt_of_le xl hb5.size)
      | (go_at_call 140; refine (naturalOf_any 1 w5 (by omega) (by omega)).mono ?_; rintro e w6 ⟨A6, m6, c6, rfl, hn6, hb6⟩; have al7 := Nat.lt_of_lt_of_le al6 hb6.size)
      | (go_at_call 151; refine (write_any ⟨decide (z < 0), z.natAbs * 2 ^ s, 1⟩ A5 A6 m5 c5 m6 c6 w6 ((hTdd.later hb5).later hb6) (hn5.later hb6) hn6 (by have := times_len hn5 (Nat.le_of_eq h1.len) (Nat.le_of_eq h4.len); omega) (by have := hn6.len; have := digs_one_len (x := 1) (by omega); have e1 : Int.toNat 1 = 1 := rfl; rw [← hn6.len, e1]; omega)).mono ?_; rintro e w7 ⟨S, rfl, hS, hb7⟩))
  go_wp2_with fail
  go_ret2
  exact ⟨S, rfl, hS, ((hBdd.trans (hb5.mono hBdd.size)).trans (hb6.mono (by have := hBdd.size; have := hb5.size; omega))).trans (hb7.mono (by have := hBdd.size; have := hb5.size; have := hb6.size; omega))⟩

/-- the exact value of a finite single -/
def exQ (b : Nat) : Q :=
  match Ieee.single.read b with
  | .number s m p => if m = 0 then ⟨false, 0, 1⟩ else if p + m.log2 < 23 then lowQ s (m * 2 ^ (23 - m.log2)) (2 ^ (23 - (p + m.log2)).toNat) else ⟨s, m * 2 ^ (23 - m.log2) * 2 ^ (p + m.log2 - 23).toNat, 1⟩
  | _ => ⟨false, 0, 1⟩

theorem parts_pos {b m : Nat} {s : Bool} {p : Int} (h : Ieee.single.read b = .number s m p) (hm : 0 < m) :
    Parts b (dw s (sg m) (p + m.log2 - 52)) (dw s (sg m) (-53)) (dw s (sg m) (-29)) (p + m.log2 + 1) (Ieee.signed s (m * 2 ^ (23 - m.log2)) 0) ∧
      decide (Ieee.signed s (m * 2 ^ (23 - m.log2)) 0 < 0) = s ∧ (Ieee.signed s (m * 2 ^ (23 - m.log2)) 0).natAbs = m * 2 ^ (23 - m.log2) := by
  obtain ⟨_, hn, hl⟩ := widen h hm
  obtain ⟨h1, h2, h3⟩ := sgl_fin h
  obtain ⟨hi, hj, hp⟩ := int_29 s hm hl h1
  have hf : ∀ W : World, Calls Tryz.prog 147 #[.float .f64 (dw s (sg m) (p + m.log2 - 52))] W fun e w' => e = .returned (.tuple #[.float .f64 (dw s (sg m) (-53)), .int .i64 (p + m.log2 + 1)]) ∧ W = w' := by
    intro W
    have := Frexp_of W (frexp_dw s W hn)
    rw [show p + (m.log2 : Int) - 52 + 53 = p + m.log2 + 1 from by omega] at this
    exact this
  have hmul := mul_24 s (m := sg m) ⟨hn.lo, hn.hi, by omega, by omega⟩
  have hfine := fine_pos h hm
  generalize m * 2 ^ (23 - m.log2) = J at *
  have hv : Ieee.signed s J 0 = if s then -(J : Int) else (J : Int) := by unfold Ieee.signed; rw [Nat.shiftLeft_zero]
  have hb : -16777216 < Ieee.signed s J 0 ∧ Ieee.signed s J 0 < 16777216 := by rw [hv]; split <;> omega
  refine ⟨⟨hfine, hf, hmul, hi, hb.1, hb.2, by omega, by omega⟩, ?_, ?_⟩
  · rw [hv]; cases s
    · exact decide_eq_false (by rw [if_neg (by decide)]; omega)
    · exact decide_eq_true (by rw [if_pos rfl]; omega)
  · rw [hv]; split <;> omega

theorem parts_zero {b : Nat} {s : Bool} {p : Int} (h : Ieee.single.read b = .number s 0 p) :
    Parts b (Ieee.double.word s 0) (Ieee.double.word s 0) (Ieee.double.word s 0) 0 0 :=
  ⟨fine_zero h, fun W => Frexp_of W (frexp_zero _ W (eq_zero s)), mul_zero_24 s, int_zero s, by omega, by omega, by omega, by omega⟩

/-- Exact of a finite single -/
theorem Exact_fin {b m : Nat} {s : Bool} {p : Int} (w : World) (hT : Tabs w) (h : Ieee.single.read b = .number s m p) :
    Calls Tryz.prog 125 #[.float .f32 b] w (RetText w (writeT (exQ b)) (writeE (exQ b))) := by
  unfold exQ
  rw [h]
  dsimp only
  by_cases hm : m = 0
  · subst hm
    have := Exact_down w hT (parts_zero h) (by omega)
    rw [if_pos rfl]
    have e : lowQ (decide ((0 : Int) < 0)) (0 : Int).natAbs (2 ^ (24 - 0 : Int).toNat) = ⟨false, 0, 1⟩ := by
      unfold lowQ
      rw [if_neg (by have := Nat.two_pow_pos (24 - 0 : Int).toNat; omega), if_pos (by rfl)]
    rw [e] at this
    exact this
  · rw [if_neg hm]
    obtain ⟨hP, hs, hz⟩ := parts_pos h (by omega)
    by_cases hc : p + m.log2 < 23
    · have := Exact_down w hT hP (by omega)
      rw [hs, hz, show (24 - (p + (m.log2 : Int) + 1)) = 23 - (p + m.log2) from by omega] at this
      rw [if_pos hc]
      exact this
    · have := Exact_up w hT hP (by omega)
      rw [hs, hz, show (p + (m.log2 : Int) + 1 - 24) = p + m.log2 - 23 from by omega] at this
      rw [if_neg hc]
      exact this

/-- Exact of an infinite single -/
theorem isFinite_inf {b x : Nat} (w : World) (hc : floatToFloatBits .f32 b .f64 = some x) (hx : x < 18446744073709551616)
    (hn : (FloatKind.f64.format.order x x != some .eq) = false) (hi : (FloatKind.f64.format.order (absB x) 9218868437227405311 == some .gt) = true) :
    Calls Tryz.prog 106 #[.float .f32 b] w fun e w' => e = .returned (.bool false) ∧ w = w' := by
  have hcv := fun W : World => run_convert_float_float (P := Tryz.prog) W 23 172 .f32 .f64 b x (by kernel_rfl) (by kernel_rfl) hc
  have hnn := isNaN_any x w
  rw [hn] at hnn
  have hin := isInf_any x w hx
  rw [hi] at hin
  have HN := Lib.hid hnn
  have HI := Lib.hid hin
  clear hnn hin hn hi hc
  go_enter Tryz.func106, Tryz.ntmps106
  go_wp2_with fail
  refine HN.out.mono ?_
  rintro e w1 ⟨rfl, rfl⟩
  go_wp2_with fail
  refine HI.out.mono ?_
  rintro e w1 ⟨rfl, rfl⟩
  go_wp2_with fail
  go_ret
  exact ⟨rfl, rfl⟩

theorem inf_fine (s : Bool) {b : Nat} (h : Ieee.single.read b = .infinity s) (w : World) : Calls Tryz.prog 106 #[.float .f32 b] w fun e w' => e = .returned (.bool false) ∧ w = w' := by
  refine isFinite_inf (x := Ieee.double.word s 9218868437227405312) w ?_ ?_ ?_ ?_
  · have h' : FloatKind.f32.decode b = .infinity s := h
    unfold floatToFloatBits
    rw [if_neg (by decide), h']
    show some (Ieee.double.word s Ieee.double.infRung) = _
    rw [dbl_inf]
  · cases s <;> decide +kernel
  · cases s <;> decide +kernel
  · cases s <;> decide +kernel

theorem Exact_not {b : Nat} (w : World) (h : Calls Tryz.prog 106 #[.float .f32 b] w fun e w' => e = .returned (.bool false) ∧ w = w') :
    Calls Tryz.prog 125 #[.float .f32 b] w (RetText w [] 1) := by
  have h2 := Lib.hid h
  clear h
  go_enter Tryz.func125, Tryz.ntmps125
  go_wp2_with fail
  refine h2.out.mono ?_
  rintro e w1 ⟨rfl, rfl⟩
  go_wp2_with fail
  go_ret2
  exact ⟨_, rfl, rfl, Below.refl _ _⟩

end Go.Proofs.YtboaojkblmddkaaGreatDoor

/- isFinite and Exact of a single that is no number; all cases together. -/
namespace Go.Proofs.YtboaojkblmddkaaGreatDoor
open Go.RowKit Bn
open Flt

def nanW (b : Nat) (W : World) : Nat := (Question.nanConv .f64 b).cut (W.tape W.drawn (Question.nanConv .f64 b))

theorem nanW_read (b : Nat) (W : World) : ∃ s f, Ieee.double.read (nanW b W) = .nan s f := by
  unfold nanW Question.cut
  generalize W.tape W.drawn (Question.nanConv .f64 b) = t
  dsimp only
  have e63 : (2 : Nat) ^ 63 = 9223372036854775808 := by decide
  have e52 : (2 : Nat) ^ 52 = 4503599627370496 := by decide
  rw [e63, e52]
  have h1 : t % 2 < 2 := Nat.mod_lt _ (by omega)
  have h2 : t / 2 % (4503599627370496 - 1) < 4503599627370495 := Nat.mod_lt _ (by omega)
  generalize t % 2 = s at h1
  generalize t / 2 % (4503599627370496 - 1) = f at h2
  unfold Ieee.Format.read
  rw [dbl_sign, dbl_binade, dbl_inf]
  have e1 : (s * 9223372036854775808 + 9218868437227405312 + 1 + f) % 9223372036854775808 = 9218868437227405312 + 1 + f := by omega
  dsimp only
  rw [e1, if_neg (by omega), if_neg (by omega), if_neg (by omega)]
  exact ⟨_, _, rfl⟩

theorem nanW_nan (b : Nat) (W : World) : (FloatKind.f64.format.order (nanW b W) (nanW b W) != some .eq) = true := by
  obtain ⟨s, f, h⟩ := nanW_read b W
  have : FloatKind.f64.format.order (nanW b W) (nanW b W) = none := by
    show (Ieee.double.read _).order (Ieee.double.read _) = _
    rw [h]; rfl
  rw [this]; rfl

theorem convert_nan {P : Program} (src dst : TypeId) (b : Nat) {s : Bool} {f : Nat} (hs : (P.underlying src).isSome = true) (hd : P.underlying dst = some (.float .f64)) (h : Ieee.single.read b = .nan s f) (W : World) :
    (convert src dst (.float .f32 b)).run P W = .ok (.float .f64 (nanW b W)) W.drew := by
  obtain ⟨u, hs'⟩ := Option.isSome_iff_exists.1 hs
  have h' : FloatKind.f32.decode b = .nan s f := h
  have hf : (Question.nanConv .f64 b).forced = false := rfl
  cases u <;> simp [convert, run_underlying hs', run_underlying hd, Conv.floatToFloat, h', hf, nanW]

theorem isFinite_nan {b : Nat} {s : Bool} {f : Nat} (h : Ieee.single.read b = .nan s f) (w : World) : Calls Tryz.prog 106 #[.float .f32 b] w fun e w' => e = .returned (.bool false) ∧ Below w.heap.size w w' := by
  have hcv := convert_nan (P := Tryz.prog) 23 172 b (by kernel_rfl) (by kernel_rfl) h
  have hnn := isNaN_any (nanW b w) w.drew
  rw [nanW_nan] at hnn
  have HN := Lib.hid hnn
  clear hnn
  have hb : Below w.heap.size w w.drew := (Below.refl _ _).drew
  go_enter Tryz.func106, Tryz.ntmps106
  go_wp2_with fail
  refine HN.out.mono ?_
  rintro e w1 ⟨rfl, rfl⟩
  go_wp2_with fail
  go_ret
  exact ⟨rfl, hb⟩

/-- isFinite of any single -/
theorem isFinite_any (b : Nat) (w : World) : Calls Tryz.prog 106 #[.float .f32 b] w fun e w' => e = .returned (.bool (fin Ieee.single b)) ∧ Below w.heap.size w w' := by
  unfold fin
  rcases h : Ieee.single.read b with ⟨s, m, p⟩ | s | ⟨s, f⟩
  · have hx : ∃ x, Fine b x := by
      rcases Nat.eq_zero_or_pos m with rfl | hm
      · exact ⟨_, fine_zero h⟩
      · exact ⟨_, fine_pos h hm⟩
    obtain ⟨x, hx⟩ := hx
    refine (isFinite_fine w hx).mono ?_
    rintro e w' ⟨rfl, rfl⟩
    exact ⟨rfl, Below.refl _ _⟩
  · refine (inf_fine s h w).mono ?_
    rintro e w' ⟨rfl, rfl⟩
    exact ⟨rfl, Below.refl _ _⟩
  · exact isFinite_nan h w

theorem Exact_bad {b : Nat} (w : World) (h : fin Ieee.single b = false) : Calls Tryz.prog 125 #[.float .f32 b] w (RetText w [] 1) := by
  have h1 := isFinite_any b w
  rw [h] at h1
  have h2 := Lib.hid h1
  clear h1 h
  go_enter Tryz.func125, Tryz.ntmps125
  go_wp2_with fail
  refine h2.out.mono ?_
  rintro e w1 ⟨rfl, hb⟩
  go_wp2_with fail
  go_ret2
  exact ⟨_, rfl, rfl, hb⟩

/-- Exact: the text and the error, for any single -/
theorem Exact_any (b : Nat) (w : World) (hT : Tabs w) :
    Calls Tryz.prog 125 #[.float .f32 b] w (RetText w (if fin Ieee.single b then writeT (exQ b) else []) (if fin Ieee.single b then writeE (exQ b) else 1)) := by
  by_cases hf : fin Ieee.single b = true
  · rw [if_pos hf, if_pos hf]
    unfold fin at hf
    rcases h : Ieee.single.read b with ⟨s, m, p⟩ | s | ⟨s, f⟩
    · exact Exact_fin w hT h
    · rw [h] at hf; cases hf
    · rw [h] at hf; cases hf
  · rw [if_neg hf, if_neg hf]
    exact Exact_bad w (by simpa using hf)

end Go.Proofs.YtboaojkblmddkaaGreatDoor

/- Contract of strings.Cut at the separator '/'. -/
namespace Go.Proofs.YtboaojkblmddkaaGreatDoor
open Go.RowKit

/-- the two parts of a text around its first slash, and whether there is one -/
def cutL (l : List UInt8) : List UInt8 × List UInt8 × Bool :=
  if 0 ≤ Lib.indexByte l 47 then (l.take (Lib.indexByte l 47).toNat, l.drop ((Lib.indexByte l 47).toNat + 1), true) else (l, [], false)

theorem indexByte_lt (l : List UInt8) (c : UInt8) : Lib.indexByte l c < l.length ∨ Lib.indexByte l c = -1 := by
  by_cases h : Lib.indexByte l c < 0
  · have := Lib.indexByte_ge l c; omega
  · obtain ⟨o, ho⟩ := Int.eq_ofNat_of_zero_le (Int.not_lt.1 h)
    have := (Lib.indexByte_some ho).1
    have h2 : o < l.length := by
      rcases Nat.lt_or_ge o l.length with h3 | h3
      · exact h3
      · rw [List.getElem?_eq_none h3] at this; cases this
    omega

def slashB : ByteArray := ⟨#[47]⟩

set_option maxHeartbeats 1000000 in
set_option maxRecDepth 100000 in
theorem index_slash (s : ByteArray) (w : World) :
    Calls Tryz.prog 194 #[.string s, .string { data := #[47] }] w fun e w' => e = .returned (.int .i64 (Lib.indexByte s.data.toList 47)) ∧ w = w' := by
  have h := fun W : World => Tryz.stringslite_IndexByte s 47 W
  have e47 : (47 : Int).toNat.toUInt8 = 47 := by decide
  rw [e47] at h
  clear e47
  by_cases hs : s.data.toList = [47]
  · have hb : ([47] == s.toList) = true := by
      have : s.toList = s.data.toList := ByteArray.toList_eq s
      rw [this, hs]; rfl
    have hv : Hid (Lib.indexByte s.data.toList 47 = 0) := by unfold Hid; rw [hs]; rfl
    clear hs h
    go_enter Tryz.func194, Tryz.ntmps194
    go_wp2
    go_ret
    exact ⟨by rw [hv.out]; rfl, rfl⟩
  · have hb : ([47] == s.toList) = false := by
      have : s.toList = s.data.toList := ByteArray.toList_eq s
      rw [this]
      exact beq_eq_false_iff_ne.2 fun e => hs e.symm
    clear hs
    generalize Lib.indexByte s.data.toList 47 = i at h ⊢
    go_enter Tryz.func194, Tryz.ntmps194
    go_wp2_with fail
    refine (h _).mono ?_
    rintro e w1 ⟨rfl, hw⟩
    subst hw
    go_wp2
    go_ret
    exact ⟨rfl, rfl⟩

set_option maxHeartbeats 1000000 in
set_option maxRecDepth 100000 in
theorem slcut_slash (s : ByteArray) (w : World) (hs : s.size ≤ 4294967296) :
    Calls Tryz.prog 169 #[.string s, .string { data := #[47] }] w fun e w' => (∃ a b : ByteArray, e = .returned (.tuple #[.string a, .string b, .bool (cutL s.data.toList).2.2]) ∧ a.data.toList = (cutL s.data.toList).1 ∧ b.data.toList = (cutL s.data.toList).2.1) ∧ ∃ n, w' = w.drewN n := by
  obtain ⟨i, hi⟩ : ∃ i, i = Lib.indexByte s.data.toList 47 := ⟨_, rfl⟩
  have hc := fun W : World => index_slash s W
  rw [← hi] at hc
  have hsz : s.data.toList.length = s.size := by simp
  have hlt := indexByte_lt s.data.toList 47
  rw [← hi, hsz] at hlt
  go_enter Tryz.func169, Tryz.ntmps169
  by_cases h0 : i < 0
  · have hcut : Hid (cutL s.data.toList = (s.data.toList, [], false)) := by unfold Hid cutL; rw [← hi, if_neg (by omega)]
    clear hi hlt hsz
    go_wp2_with fail
    refine (hc _).mono ?_
    rintro e w1 ⟨rfl, rfl⟩
    go_wp2
    go_ret3
    exact ⟨⟨s, ⟨#[]⟩, by rw [hcut.out]; rfl, by rw [hcut.out], by rw [hcut.out]⟩, 0, rfl⟩
  · obtain ⟨k, rfl⟩ := Int.eq_ofNat_of_zero_le (Int.not_lt.1 h0)
    have hk : k < s.size := by omega
    have hcut : Hid (cutL s.data.toList = (s.data.toList.take k, s.data.toList.drop (k + 1), true)) := by unfold Hid cutL; rw [← hi, if_pos (by omega)]; simp
    clear hi hlt hsz
    have a1 : IntKind.i64.wrap ((k : Int) + 1) = (k : Int) + 1 := IntWalk.i64_in _ (by omega)
    have a2 : ((k : Int) + 1).toNat = k + 1 := by omega
    go_wp2_with fail
    refine (hc _).mono ?_
    rintro e w1 ⟨rfl, rfl⟩
    go_wp2_with fail
    go_quiet (fail)
    go_wp2
    go_ret3
    refine ⟨⟨s.extract 0 k, s.extract (k + 1) s.size, by rw [hcut.out]; rfl, ?_, ?_⟩, nq, rfl⟩
    · rw [hcut.out, Lib.extract_data]; simp
    · rw [hcut.out, Lib.extract_data]; exact List.take_of_length_le (by simp)

set_option maxHeartbeats 1000000 in
theorem cut_slash (s : ByteArray) (w : World) (hs : s.size ≤ 4294967296) :
    Calls Tryz.prog 136 #[.string s, .string { data := #[47] }] w fun e w' => (∃ a b : ByteArray, e = .returned (.tuple #[.string a, .string b, .bool (cutL s.data.toList).2.2]) ∧ a.data.toList = (cutL s.data.toList).1 ∧ b.data.toList = (cutL s.data.toList).2.1) ∧ ∃ n, w' = w.drewN n := by
  have hc := slcut_slash s w hs
  generalize cutL s.data.toList = C at hc ⊢
  obtain ⟨c1, c2, c3⟩ := C
  go_enter Tryz.func136, Tryz.ntmps136
  go_wp2_with fail
  refine hc.mono ?_
  rintro e w1 ⟨⟨a, b, rfl, h1, h2⟩, n, rfl⟩
  go_wp2
  go_ret3
  exact ⟨⟨a, b, rfl, h1, h2⟩, n, rfl⟩

end Go.Proofs.YtboaojkblmddkaaGreatDoor
