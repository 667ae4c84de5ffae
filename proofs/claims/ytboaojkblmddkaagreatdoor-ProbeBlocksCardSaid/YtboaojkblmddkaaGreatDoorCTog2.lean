/- ProbeToggles: the main case. -/
import Derived.Test.YtboaojkblmddkaaGreatDoorCRf3
import Derived.Test.YtboaojkblmddkaaGreatDoorCAwe
import Derived.BigQuiet
import Derived.Deep.LoopGhost
namespace Go.Proofs.YtboaojkblmddkaaGreatDoor
open Go.RowKit Bn
open Flt

theorem fgt_of_not_fle {x y : Nat} (hx : fin Ieee.single x = true) (hy : fin Ieee.single y = true) (h : fle x y = false) : fgt x y = true := by
  rw [fle_key hx hy] at h
  rw [fgt_key hx hy]
  have h2 := of_decide_eq_false h
  exact decide_eq_true (by omega)
/-- one sample more: what becomes of the line from 'false', of that from 'true', and of 'decided' -/
theorem dig_step {lo hi f : Nat} (hf : fin Ieee.single f = true) (hlo : fin Ieee.single lo = true) (a b d : Bool) :
    (fge f hi = true ∧ digV lo hi a f = true ∧ digV lo hi b f = true ∧ (d || (fge f hi || fle f lo)) = true) ∨
    (fge f hi = false ∧ fle f lo = true ∧ digV lo hi a f = false ∧ digV lo hi b f = false ∧ (d || (fge f hi || fle f lo)) = true) ∨
    (fge f hi = false ∧ fle f lo = false ∧ digV lo hi a f = a ∧ digV lo hi b f = b ∧ (d || (fge f hi || fle f lo)) = d) := by
  unfold digV
  cases hg : fge f hi
  · cases hl : fle f lo
    · rw [fgt_of_not_fle hf hlo hl]
      simp
    · rw [fle_not_fgt hl]
      simp
  · simp
/-- how the two lines stand to each other behind k samples -/
def TogRel (d a b : Bool) : Prop := (d = true ∧ a = b) ∨ (d = false ∧ a = false ∧ b = true)
theorem smpE_ok (l : List Nat) (h : smpE l = 0) : (∀ x ∈ l, fin Ieee.single x = true) ∧ l.length ≤ 4096 := by
  unfold smpE at h
  split at h
  · cases h
  · split at h
    · rename_i h1 h2
      exact ⟨fun x hx => List.all_eq_true.1 h2 x hx, by omega⟩
    · cases h

theorem levE_fin (lo hi : Nat) (h : levE lo hi = 0) : fin Ieee.single lo = true ∧ fin Ieee.single hi = true ∧ fge lo hi = false := by
  unfold levE at h
  split at h
  · rename_i hf
    split at h
    · cases h
    · rename_i hg
      exact ⟨hf.1, hf.2, by simpa using hg⟩
  · cases h

set_option maxHeartbeats 8000000 in
set_option maxRecDepth 100000 in
theorem tog_main (A : Option Addr) (n c lo hi : Nat) (l : List Nat) (w : World) (hT : Tabs w) (h : Reads w w.heap.size 1 A n (l.map f32v)) (hn : n ≤ 64) (hac : A = none → c = 0) (h2 : smpE l = 0) (h3 : levE lo hi = 0) :
    Calls Tryz.prog 8 #[.slice A n c, .agg #[.float .f32 lo, .float .f32 hi]] w fun e w' => e = .returned (.bool true) ∧ Below w.heap.size w w' := by
  have hb0 : Below w.heap.size w (w.alloc (.cells #[.float .f32 lo, .float .f32 hi] 25)) := (Below.refl _ _).alloc (Nat.le_refl _) _
  have q0 : CBlk (w.alloc (.cells #[.float .f32 lo, .float .f32 hi] 25)) w.heap.size #[.float .f32 lo, .float .f32 hi] 25 := CBlk.new w _ _ _ rfl
  have K1 := Lib.hid (rCheckSamples_any A n c l _ (h.later hb0) (by unfold maxLen; omega))
  have K2 := Lib.hid (fun W => rCheckLevels_any lo hi W)
  have KV := Lib.hid (fun W hT => awake_ok W hT)
  obtain ⟨hfin, _⟩ := smpE_ok l h2
  obtain ⟨hl1, hl2, hl3⟩ := levE_fin lo hi h3
  rw [h2] at K1
  rw [h3] at K2
  have HFI := Lib.hid hfin
  have HL1 := Lib.hid hl1
  have HL2 := Lib.hid hl2
  have HL3 := Lib.hid hl3
  have HR := Lib.hid h
  have HLN := Lib.hid h.lenM
  have HAC := Lib.hid hac
  have d1 : decide ((64 : Int) < (n : Int)) = false := by simpa using (show ¬ ((64 : Int) < n) from by omega)
  clear h h2 h3 hfin hl1 hl2 hl3 hac
  go_enter Tryz.func8, Tryz.ntmps8
  go_wp2_with fail
  generalize (w.alloc (.cells #[.float .f32 lo, .float .f32 hi] 25)) = w0 at *
  refine K1.out.mono ?_
  rintro e w1 ⟨rfl, hb1⟩
  have hB1 := hb0.trans (hb1.mono hb0.size)
  have q1 := q0.below hb1 q0.lt
  have x0 := q1.cell 0
  have x1 := q1.cell 1
  clear hb1 q0 hb0 K1
  go_wp2_with fail
  refine (K2.out w1).mono ?_
  rintro e w2 ⟨rfl, hb2⟩
  have hB2 := hB1.trans (hb2.mono hB1.size)
  have q2 := q1.below hb2 q1.lt
  clear x0 x1 K2 hb2 q1 hB1
  have HF3 := Lib.hid (floats_ok A n c l _ (HR.out.later (hB2.drew)) (by omega) HAC.out)
  go_wp2_with fail
  go_region_held3 (fun w' => w'.cell? ⟨w.heap.size, 0, none⟩ = some (.float .f32 lo) ∧ w'.cell? ⟨w.heap.size, 1, none⟩ = some (.float .f32 hi))
    ((refine ⟨?_, ?_⟩ <;> first | ((with_reducible refine (q4.cell _).trans ?_); rfl) | ((with_reducible refine (q3.cell _).trans ?_); rfl) | ((with_reducible refine (q2.drew.cell _).trans ?_); rfl)))
    (first
      | (go_at_call 13; refine (digital_ok F3 n c3 lo hi false l w3 hf3 HFI.out (by omega) HL1.out HL2.out HL3.out).mono ?_; rintro e w4 ⟨g4, rfl, ho4, hb4⟩; have q4 := q3.below hb4 q3.lt)
      | (go_at_call 14; refine HF3.out.mono ?_; rintro e w3 ⟨F3, c3, rfl, _, _, hf3, hb3'⟩; have hb3 : Below w2.heap.size w2 w3 := ⟨hb3'.os, hb3'.tape, hb3'.output, hb3'.size, hb3'.block⟩; clear hb3'; have q3 := q2.below hb3 q2.lt))
  have hB3 := hB2.trans (hb3.mono hB2.size)
  have hB4 := hB3.trans (hb4.mono hB3.size)
  clear HF3 hf3 q3 hb3
  have r4 := Reads.of_own ho4
  clear ho4
  have HF5 := Lib.hid (floats_ok A n c l _ (HR.out.later (hB4.drew)) (by omega) HAC.out)
  go_wp2_with fail
  go_region_held3 (fun w' => w'.cell? ⟨w.heap.size, 0, none⟩ = some (.float .f32 lo) ∧ w'.cell? ⟨w.heap.size, 1, none⟩ = some (.float .f32 hi))
    ((refine ⟨?_, ?_⟩ <;> first | ((with_reducible refine (q6.cell _).trans ?_); rfl) | ((with_reducible refine (q5.cell _).trans ?_); rfl) | ((with_reducible refine (q4.drew.cell _).trans ?_); rfl)))
    (first
      | (go_at_call 13; refine (digital_ok F5 n c5 lo hi true l w5 hf5 HFI.out (by omega) HL1.out HL2.out HL3.out).mono ?_; rintro e w6 ⟨g6, rfl, ho6, hb6⟩; have q6 := q5.below hb6 q5.lt)
      | (go_at_call 14; refine HF5.out.mono ?_; rintro e w5 ⟨F5, c5, rfl, _, _, hf5, hb5'⟩; have hb5 : Below w4.heap.size w4 w5 := ⟨hb5'.os, hb5'.tape, hb5'.output, hb5'.size, hb5'.block⟩; clear hb5'; have q5 := q4.below hb5 q4.lt))
  have hB5 := hB4.trans (hb5.mono hB4.size)
  have hB6 := hB5.trans (hb6.mono hB5.size)
  have hb5x := hb5
  clear HF5 hf5 q5 hb5
  have r6 := Reads.of_own ho6
  have r4' := (r4.later hb5x).later hb6
  have hchl := digL_len lo hi false l
  have HC := Lib.hid (changes_ok (some ⟨g4, 0, none⟩) n n false (digL lo hi false l) w6 r4' (by omega))
  clear r4 hb5x hb6 ho6
  go_wp2_with fail
  refine HC.out.mono ?_
  rintro e w7 ⟨A7, c7, rfl, hr7, hb7⟩
  have hB7 := hB6.trans (hb7.mono hB6.size)
  have q7 := q6.below hb7 q6.lt
  have r47 := r4'.later hb7
  have r67 := r6.later hb7
  have HFC := Lib.hid (fromChanges_ok A7 c7 n false (digL lo hi false l) w7 hr7 (by rw [hchl]; exact HLN.out) (by omega))
  clear HC hb7 q6 r4' r6 hr7
  generalize hCL : (chg false (digL lo hi false l) n).length = CL at *
  clear hCL
  go_wp2_with fail
  refine HFC.out.mono ?_
  rintro e w8 ⟨g8, rfl, ho8, hb8⟩
  have hB8 := hB7.trans (hb8.mono hB7.size)
  have q8 := q7.below hb8 q7.lt
  have r48 := r47.later hb8
  have r68 := r67.later hb8
  have r88 := Reads.of_own ho8
  have HSB := Lib.hid (sameBools_eq (some ⟨g4, 0, none⟩) (some ⟨g8, 0, none⟩) n n n (digL lo hi false l) w8 r48 r88 (by unfold maxLen; omega))
  clear HFC hb8 q7 r47 r67 ho8 r88
  go_wp2_with fail
  refine HSB.out.mono ?_
  rintro e w9 ⟨rfl, hb9⟩
  have hB9 := hB8.trans (hb9.mono hB8.size)
  have q9 := q8.below hb9 q8.lt
  have r49 := r48.later hb9
  have r69 := r68.later hb9
  have HR9 := Lib.hid (HR.out.later hB9)
  clear HSB hb9 q8 r48 r68
  have H49 := Lib.hid r49
  have H69 := Lib.hid r69
  clear r49 r69 hchl hB2 hB3 hB4 hB5 hB6 hB7 hB8 HL3 HAC
  go_wp2_with fail
  go_loopg [13, 14, 87] n (fun q d s i W => ∃ (k : Nat) (dv lv : Bool), k ≤ n ∧ i = .int .i64 k ∧ d = .bool dv ∧ s = .bool lv ∧ n - k ≤ q ∧ Hid (dv = decd lo hi (l.take k) ∧ lv = digS lo hi false (l.take k) ∧ TogRel dv lv (digS lo hi true (l.take k))) ∧ Below w9.heap.size w9 W)
  case atStart => exact ⟨0, false, false, Nat.zero_le _, rfl, rfl, rfl, by omega, ⟨by simp [decd], by simp [digS], Or.inr ⟨rfl, rfl, by simp [digS]⟩⟩, Below.refl _ _⟩
  case round =>
    obtain ⟨k, dv, lv, hk, rfl, rfl, rfl, hq, hh, hbel⟩ := hrel
    by_cases h0 : k < n
    · obtain ⟨a1, hkl, rfl, hb1, hcF⟩ := (HR9.out.later hbel).cellM h0
      obtain ⟨ad4, hi4, e4, _, c4⟩ := (H49.out.later hbel).cellM h0
      injection e4 with e4
      subst e4
      obtain ⟨ad6, hi6, e6, _, c6⟩ := (H69.out.later hbel).cellM h0
      injection e6 with e6
      subst e6
      have hfk := HFI.out _ (List.getElem_mem hkl)
      have v4 : (digL lo hi false l)[k] = digV lo hi (digS lo hi false (l.take k)) l[k] := by
        have h := digL_at lo hi false l k hkl
        rw [List.getElem?_eq_getElem hi4, digS_succ _ _ _ _ _ hkl] at h
        injection h
      have v6 : (digL lo hi true l)[k] = digV lo hi (digS lo hi true (l.take k)) l[k] := by
        have h := digL_at lo hi true l k hkl
        rw [List.getElem?_eq_getElem hi6, digS_succ _ _ _ _ _ hkl] at h
        injection h
      have n4 := digS_succ lo hi false l k hkl
      have n6 := digS_succ lo hi true l k hkl
      have nd := decd_succ lo hi l k hkl
      obtain ⟨h1, h2, h3⟩ := hh
      rw [v4, show (⟨g4, 0, none⟩ : Addr).add k = ⟨g4, k, none⟩ from by simp [Addr.add]; try omega] at c4
      rw [v6, show (⟨g6, 0, none⟩ : Addr).add k = ⟨g6, k, none⟩ from by simp [Addr.add]; try omega] at c6
      rw [← h2] at c4 n4
      rw [← h1] at nd
      generalize digS lo hi true (l.take k) = bv at *
      generalize NB : digS lo hi true (l.take (k + 1)) = B' at *
      generalize NA : digS lo hi false (l.take (k + 1)) = A' at *
      generalize ND : decd lo hi (l.take (k + 1)) = D' at *
      generalize l[k] = f at *
      have hstep := dig_step (hi := hi) hfk HL1.out lv bv dv
      rw [← n4] at c4
      rw [← n6] at c6
      rw [← n4, ← n6, ← nd] at hstep
      unfold boolv at c4 c6
      unfold f32v at hcF
      have q10 := q9.below hbel q9.lt
      have y0 := q10.cell 0
      have y1 := q10.cell 1
      have hp3 : (0 : Int) ≤ (k : Int) := by omega
      have hp4 : (k : Int) < (n : Int) := by omega
      have hge : decide ((n : Int) ≤ (k : Int)) = false := by
        have : ¬ ((n : Int) ≤ (k : Int)) := by omega
        simpa using this
      have HN := Lib.hid (show D' = decd lo hi (l.take (k + 1)) ∧ A' = digS lo hi false (l.take (k + 1)) ∧ B' = digS lo hi true (l.take (k + 1)) from ⟨ND.symm, NA.symm, NB.symm⟩)
      clear v4 v6 n4 n6 nd h1 h2 hfk ND NA NB
      rcases hstep with ⟨t1, rfl, rfl, rfl⟩ | ⟨t1, t2, rfl, rfl, rfl⟩ | ⟨t1, t2, rfl, rfl, rfl⟩
      · have s1 : (FloatKind.f32.format.order f hi == some .gt || FloatKind.f32.format.order f hi == some .eq) = true := t1
        have HREL : Hid (TogRel true true true) := Or.inl ⟨rfl, rfl⟩
        clear t1 h3
        cases dv
        all_goals
          go_upto_region 18 with (fail)
          go_quiet (fail)
          go_wp2
          go_roundg (n - (k + 1))
          case measure => omega
          case rel => exact ⟨k + 1, true, true, by omega, by go_num, rfl, rfl, Nat.le_refl _, by have hn := HN.out; exact ⟨hn.1, hn.2.1, by rw [← hn.2.2]; exact HREL.out⟩, below_drewN hbel _⟩
      · have s1 : (FloatKind.f32.format.order f hi == some .gt || FloatKind.f32.format.order f hi == some .eq) = false := t1
        have s2 : (FloatKind.f32.format.order f lo == some .lt || FloatKind.f32.format.order f lo == some .eq) = true := t2
        have HREL : Hid (TogRel true false false) := Or.inl ⟨rfl, rfl⟩
        clear t1 t2 h3
        cases dv
        all_goals
          go_upto_region 18 with (fail)
          go_quiet (fail)
          go_wp2
          go_roundg (n - (k + 1))
          case measure => omega
          case rel => exact ⟨k + 1, true, false, by omega, by go_num, rfl, rfl, Nat.le_refl _, by have hn := HN.out; exact ⟨hn.1, hn.2.1, by rw [← hn.2.2]; exact HREL.out⟩, below_drewN hbel _⟩
      · have s1 : (FloatKind.f32.format.order f hi == some .gt || FloatKind.f32.format.order f hi == some .eq) = false := t1
        have s2 : (FloatKind.f32.format.order f lo == some .lt || FloatKind.f32.format.order f lo == some .eq) = false := t2
        clear t1 t2
        rcases h3 with ⟨hd, hab⟩ | ⟨hd, ha, hb⟩
        · subst hd
          subst hab
          have HREL : Hid (TogRel true A' A') := Or.inl ⟨rfl, rfl⟩
          cases A'
          all_goals
            go_upto_region 18 with (fail)
            go_quiet (fail)
            go_wp2
            go_roundg (n - (k + 1))
            case measure => omega
            case rel => exact ⟨k + 1, true, _, by omega, by go_num, rfl, rfl, Nat.le_refl _, by have hn := HN.out; exact ⟨hn.1, hn.2.1, by rw [← hn.2.2]; exact HREL.out⟩, below_drewN hbel _⟩
        · subst hd ha hb
          have HREL : Hid (TogRel false false true) := Or.inr ⟨rfl, rfl, rfl⟩
          go_upto_region 18 with (fail)
          go_quiet (fail)
          go_wp2
          go_roundg (n - (k + 1))
          case measure => omega
          case rel => exact ⟨k + 1, false, false, by omega, by go_num, rfl, rfl, Nat.le_refl _, by have hn := HN.out; exact ⟨hn.1, hn.2.1, by rw [← hn.2.2]; exact HREL.out⟩, below_drewN hbel _⟩
    · obtain rfl : n = k := by omega
      have hB10 := hB9.trans (hbel.mono hB9.size)
      have KW := Lib.hid (KV.out _ (hT.later hB10))
      go_wp2_with fail
      refine KW.out.mono ?_
      rintro e w11 ⟨rfl, hb11⟩
      go_wp2_with fail
      go_ret
      exact ⟨rfl, hB10.trans (hb11.mono hB10.size)⟩

end Go.Proofs.YtboaojkblmddkaaGreatDoor
