/- ProbeLines: the law. -/
import Derived.Test.YtboaojkblmddkaaGreatDoorLnCxPk2
import Derived.BigQuiet
import Derived.Test.YtboaojkblmddkaaGreatDoorCAwj
import Derived.Test.YtboaojkblmddkaaGreatDoorCTog3
import Derived.Test.YtboaojkblmddkaaGreatDoorCards
import Derived.Test.YtboaojkblmddkaaGreatDoorTie
import Derived.WalkKit
import Derived.ProofKit
import Derived.OpenShut
import Derived.Deep.DeepHandedRow
import Derived.Lib.LaidTab
import Derived.Lib.SmallJoins
import Derived.Stop.LaidErr
import Derived.WideKeyArgs
namespace Go.Proofs.YtboaojkblmddkaaGreatDoor
open Go.RowKit Bn
open Flt

set_option maxHeartbeats 16000000 in
set_option maxRecDepth 100000 in
theorem lines_main (A A' : Option Addr) (n c N c' lo hi : Nat) (l : List Nat) (ln : List Bool) (w : World) (KV : AwakeOk) (hT : Tabs w) (h : Reads w w.heap.size 1 A n (l.map f32v)) (hac : A = none → c = 0)
    (h' : Reads w w.heap.size 1 A' N (ln.map boolv)) (hac' : A' = none → c' = 0) (hn : LenOk n 64) (hN : LenOk N 64) :
    Calls Tryz.prog 3 #[.slice A n c, .agg #[.float .f32 lo, .float .f32 hi], .slice A' N c'] w fun e w' => e = .returned (.bool true) ∧ Below w.heap.size w w' := by
  have hb0 : Below w.heap.size w (w.alloc (.cells #[.float .f32 lo, .float .f32 hi] 25)) := (Below.refl _ _).alloc (Nat.le_refl _) _
  have q0 : CBlk (w.alloc (.cells #[.float .f32 lo, .float .f32 hi] 25)) w.heap.size #[.float .f32 lo, .float .f32 hi] 25 := CBlk.new w _ _ _ rfl
  have hr0 := h.later hb0
  have hr0' := h'.later hb0
  have hT0 := hT.later hb0
  have HL1 := Lib.hid (fun W => rLength_any n 64 W)
  have HL2 := Lib.hid (fun W => rLength_any N 64 W)
  have KV := Lib.hid KV
  unfold LenOk at hn hN
  rw [decide_eq_true hn] at HL1
  rw [decide_eq_true hN] at HL2
  have hn8 : n ≤ 4098 := by omega
  have hN8 : N ≤ 4098 := by omega
  have HAC := Lib.hid hac
  have HAC' := Lib.hid hac'
  have HLN := Lib.hid h.lenM
  have HLN' := Lib.hid h'.lenM
  clear h h' hac hac' hn hN hT
  go_enter Tryz.func3, Tryz.ntmps3
  go_wp2_with fail
  refine (HL1.out _).mono ?_
  rintro e w1 ⟨rfl, rfl⟩
  go_wp2_with fail
  refine (HL2.out _).mono ?_
  rintro e w1 ⟨rfl, rfl⟩
  clear HL1 HL2
  generalize (w.alloc (.cells #[.float .f32 lo, .float .f32 hi] 25)) = w0 at *
  have hs0 := hb0.size
  generalize hgl : w.heap.size = gl at *
  have HGL := Lib.hid hgl
  clear hgl
  have hb1 : Below w0.heap.size w0 (w0.alloc (.cells #[.bool false, .bool true] 4)) := (Below.refl _ _).alloc (Nat.le_refl _) _
  have p1 : CBlk (w0.alloc (.cells #[.bool false, .bool true] 4)) w0.heap.size #[.bool false, .bool true] 4 := CBlk.new w0 _ _ _ rfl
  have q1 := q0.below hb1 q0.lt
  have hr1 := hr0.later hb1
  have hr1' := hr0'.later hb1
  have hT1 := hT0.later hb1
  have hs1 := Nat.le_trans hs0 hb1.size
  have hB1 : Below gl w (w0.alloc (.cells #[.bool false, .bool true] 4)) := hb0.trans (hb1.mono hs0)
  clear hr0 hr0' q0 hT0 hb1
  go_wp2
  generalize (w0.alloc (.cells #[.bool false, .bool true] 4)) = w1 at *
  generalize w0.heap.size = gb at *
  clear hb0
  go_loopg [30] 2 (fun q s W => ∃ k : Nat, k ≤ 2 ∧ s = .int .i64 k ∧ 2 - k ≤ q ∧ Below w1.heap.size w1 W)
  case atStart => exact ⟨0, Nat.zero_le _, rfl, by omega, Below.refl _ _⟩
  case round =>
    obtain ⟨k, hk, rfl, hq, hbel⟩ := hrel
    by_cases h0 : k < 2
    · have p2 := p1.below hbel p1.lt
      have q2 := q1.below hbel q1.lt
      obtain ⟨bv, hcell⟩ : ∃ bv : Bool, wr.cell? ⟨gb, k, none⟩ = some (.bool bv) := by
        rcases (show k = 0 ∨ k = 1 by omega) with rfl | rfl
        · exact ⟨false, p2.cell 0⟩
        · exact ⟨true, p2.cell 1⟩
      have hr2 := hr1.later hbel
      have hr2' := hr1'.later hbel
      have HF := Lib.hid (floats_ok A n c l wr.drew hr2 (by omega) HAC.out)
      have x0 := q2.cell 0
      have x1 := q2.cell 1
      clear p2
      go_upto_region 6 with (fail)
      go_region_held3 (fun w' => w'.cell? ⟨gl, 0, none⟩ = some (.float .f32 lo) ∧ w'.cell? ⟨gl, 1, none⟩ = some (.float .f32 hi))
        ((refine ⟨?_, ?_⟩ <;> first | ((with_reducible refine (q4.cell _).trans ?_); rfl) | ((with_reducible refine (q3.cell _).trans ?_); rfl) | ((with_reducible refine (q2.drew.cell _).trans ?_); rfl)))
        (first
          | (go_at_call 13; refine (digital_any F3 n c3 lo hi bv l w3 hf3 (by unfold maxLen; omega)).mono ?_; rintro e w4 ⟨A4, c4, rfl, hr4, hb4⟩; have q4 := q3.below hb4 q3.lt)
          | (go_at_call 14; refine HF.out.mono ?_; rintro e w3 ⟨F3, c3, rfl, _, _, hf3, hb3'⟩; have hb3 : Below wr.heap.size wr w3 := ⟨hb3'.os, hb3'.tape, hb3'.output, hb3'.size, hb3'.block⟩; clear hb3'; have q3 := q2.below hb3 q2.lt))
      have hB3 := hbel.trans (hb3.mono hbel.size)
      have hB4 := hB3.trans (hb4.mono hB3.size)
      clear HF hf3 q3 hb3 x0 x1 hr2 hr2' hbel q2 hcell hb4 hB3
      have hdr := show digE l lo hi = 0 → digR l lo hi bv = digL lo hi bv l from fun h => if_pos h
      have hdn := show digE l lo hi ≠ 0 → digR l lo hi bv = [] from fun h => if_neg h
      have hdL := digL_len lo hi bv l
      have HDR := Lib.hid hdr
      have HDN := Lib.hid hdn
      have HDL := Lib.hid hdL
      clear hdr hdn hdL
      generalize hDR : digR l lo hi bv = DR at *
      clear hDR
      generalize hDN : DR.length = DN at *
      have HDLN := Lib.hid hDN
      clear hDN
      have HBO := Lib.hid (bools_own A' N c' ln w4 (hr1'.later hB4) (by omega) HAC'.out)
      generalize hEE : digE l lo hi = EE at *
      have HEE := Lib.hid hEE
      clear hEE
      go_wp2_with fail
      refine HBO.out.mono ?_
      rintro e w5 ⟨v5, rfl, ho5, hb5⟩
      obtain ⟨A5, c5, rfl, _, _, hr5⟩ := own_slice ho5
      have hB5 := hB4.trans (hb5.mono hB4.size)
      have hr45 := hr4.later hb5
      have q5 := q4.below hb5 q4.lt
      have HCH := Lib.hid (changes_any A5 N c5 bv ln w5 hr5)
      have hcr := show 4096 < N → chgR bv ln N = [] from fun h => if_pos h
      have hcn := show ¬ 4096 < N → chgR bv ln N = chg bv ln N from fun h => if_neg h
      have hcb : (chgR bv ln N).length ≤ N := by
        unfold chgR
        split
        · simp
        · exact chg_len bv ln N
      have hce : (4096 < N ∧ chgE N = 5) ∨ (N ≤ 4096 ∧ chgE N = 0) := by unfold chgE; split <;> omega
      have HCR := Lib.hid hcr
      have HCN := Lib.hid hcn
      have HCE := Lib.hid hce
      clear HBO ho5 hb5 hr4 hr5 hB4 q4 hcr hcn hce
      generalize chgR bv ln N = CR at *
      generalize hCN : CR.length = CN at *
      have HCLN := Lib.hid hCN
      clear hCN
      generalize chgE N = CE at *
      go_wp2_with fail
      refine HCH.out.mono ?_
      rintro e w6 ⟨A6, c6, rfl, hr6, hb6⟩
      have hB6 := hB5.trans (hb6.mono hB5.size)
      have hr46 := hr45.later hb6
      have q6 := q5.below hb6 q5.lt
      have HCS := Lib.hid (rCheckSamples_any A n c l w6 (hr1.later hB6) (by unfold maxLen; omega))
      have HEV : Hid (EE = if smpE l ≠ 0 then smpE l else levE lo hi) := HEE.out.symm
      have HS0 := Lib.hid (smpE_zero l)
      have HV0 := Lib.hid (levE_zero lo hi)
      have HLV := Lib.hid (fun W => rCheckLevels_any lo hi W)
      have HPL := Lib.hid (fun W => pcheckLevels_any lo hi W)
      clear HCH hb6 hr45 hB5 q5 HEE
      generalize smpE l = SE at *
      generalize levE lo hi = LE at *
      go_wp2_with fail
      refine HCS.out.mono ?_
      rintro e w7 ⟨rfl, hb7⟩
      have hB7 := hB6.trans (hb7.mono hB6.size)
      have hr47 := hr46.later hb7
      have hr67 := hr6.later hb7
      have q7 := q6.below hb7 q6.lt
      clear HCS hb7 hr46 hr6 hB6 q6
      by_cases hS : SE = 0
      · subst hS
        have e0 : EE = LE := HEV.out
        subst e0
        have y0 := q7.cell 0
        have y1 := q7.cell 1
        go_wp2_with fail
        refine (HLV.out w7).mono ?_
        rintro e w8 ⟨rfl, hb8⟩
        have hB8 := hB7.trans (hb8.mono hB7.size)
        have hr48 := hr47.later hb8
        have hr68 := hr67.later hb8
        have q8 := q7.below hb8 q7.lt
        clear y0 y1 hb8 hr47 hr67 hB7 q7 HEV
        by_cases hV : EE = 0
        · have hDR := HDR.out hV
          subst hV
          obtain ⟨hs1, hs2⟩ := HS0.out trivial
          obtain ⟨hv1, hv2, hv3⟩ := HV0.out rfl
          have HRD := rDigital_ok A n c lo hi bv l w8 (hr1.later hB8) hs1 (by have := HLN.out; omega) hv1 hv2 hv3
          have hDn : DN = n := by rw [← HDLN.out, hDR, HDL.out]; exact HLN.out
          rw [← hDR, ← hDn] at HRD
          have HRD := Lib.hid HRD
          have y0 := q8.cell 0
          have y1 := q8.cell 1
          clear hDR hs1 hs2 hv1 hv2 hv3
          go_wp2_with fail
          subst hDn
          refine HRD.out.mono ?_
          rintro e wd ⟨vd, rfl, hod, hbd⟩
          obtain ⟨A8, c8, rfl, _, _, hr8⟩ := own_slice hod
          have hBd := hB8.trans (hbd.mono hB8.size)
          have hr4d := hr48.later hbd
          have hr6d := hr68.later hbd
          have qd := q8.below hbd q8.lt
          clear HRD hod hbd y0 y1 hr48 hr68 hB8 q8
          rcases HCE.out with ⟨hc1, hc2⟩ | ⟨hc1, hc2⟩
          · subst hc2
            have hCR := HCR.out hc1
            subst hCR
            obtain rfl : 0 = CN := HCLN.out
            have dm : decide ((4096 : Int) < (N : Int)) = true := by simpa using (show (4096 : Int) < N from by omega)
            have hr9 : Reads wd wd.heap.size 1 none 0 (([] : List Nat).map natv) := Reads.none_
            clear hc1
            have x0 := qd.cell 0
            have x1 := qd.cell 1
            have hq := qd
            have hi6 := hr6d
            have hi9 := hr9
            rw [natv_i64] at hi6 hi9
            have HR4 := Lib.hid hr4d
            have HR8 := Lib.hid hr8
            have HI6 := Lib.hid hi6
            have HI9 := Lib.hid hi9
            clear hi6 hi9
            go_upto_region 19 with (fail)
            go_region_held3 (fun w' => w'.cell? ⟨gl, 0, none⟩ = some (.float .f32 lo) ∧ w'.cell? ⟨gl, 1, none⟩ = some (.float .f32 hi))
              ((refine ⟨?_, ?_⟩ <;> first | ((with_reducible refine (qv.cell _).trans ?_); rfl) | ((with_reducible refine (qu.cell _).trans ?_); rfl) | ((with_reducible refine (qz.cell _).trans ?_); rfl) | ((with_reducible refine (qy.cell _).trans ?_); rfl) | ((with_reducible refine (qd.drew.cell _).trans ?_); rfl)))
              (first
                | (go_at_call 21; refine (HPL.out _).mono ?_; rintro e wy ⟨rfl, hby'⟩; have hby : Below wd.heap.size wd wy := ⟨hby'.os, hby'.tape, hby'.output, hby'.size, hby'.block⟩; clear hby'; have qy := qd.below hby qd.lt)
                | (go_at_call 18; refine (HLV.out wy).mono ?_; rintro e wz ⟨rfl, hbz⟩; have qz := qy.below hbz qy.lt)
                | (go_at_call 22; refine (sameBools_eq A4 A8 DN c4 c8 _ wz ((HR4.out.later hby).later hbz) ((HR8.out.later hby).later hbz) (by unfold maxLen; omega)).mono ?_; rintro e wu ⟨rfl, hbu⟩; have qu := qz.below hbu qz.lt)
                | (go_at_call 23; refine (sameInts_eq A6 none 0 c6 0 _ wu (((HI6.out.later hby).later hbz).later hbu) (((HI9.out.later hby).later hbz).later hbu) (by unfold maxLen; omega)).mono ?_; rintro e wv ⟨rfl, hbv⟩; have qv := qu.below hbv qu.lt))
            go_wp2
            go_roundg (2 - (k + 1))
            case measure => omega
            case rel => exact ⟨k + 1, by omega, by go_num, Nat.le_refl _, (((hBd.trans (hby.mono hBd.size)).trans (hbz.mono (hBd.trans (hby.mono hBd.size)).size)).trans (hbu.mono ((hBd.trans (hby.mono hBd.size)).trans (hbz.mono (hBd.trans (hby.mono hBd.size)).size)).size)).trans (hbv.mono (((hBd.trans (hby.mono hBd.size)).trans (hbz.mono (hBd.trans (hby.mono hBd.size)).size)).trans (hbu.mono ((hBd.trans (hby.mono hBd.size)).trans (hbz.mono (hBd.trans (hby.mono hBd.size)).size)).size)).size)⟩
          · subst hc2
            have hCR := HCN.out (by omega)
            have HRC := rChanges_ok A' N c' bv ln wd (hr1'.later hBd) hc1
            rw [← hCR, HCLN.out] at HRC
            have HRC := Lib.hid HRC
            have dm : decide ((4096 : Int) < (N : Int)) = false := by simpa using (show ¬ (4096 : Int) < N from by omega)
            clear hc1 hCR
            go_wp2_with fail
            refine HRC.out.mono ?_
            rintro e wc ⟨A9, c9, rfl, hr9, hbc⟩
            have hBc := hBd.trans (hbc.mono hBd.size)
            have hr4c := hr4d.later hbc
            have hr6c := hr6d.later hbc
            have hr8c := hr8.later hbc
            have qc := qd.below hbc qd.lt
            clear HRC hbc
            have x0 := qc.cell 0
            have x1 := qc.cell 1
            have hq := qc
            have hi6 := hr6c
            have hi9 := hr9
            rw [natv_i64] at hi6 hi9
            have HR4 := Lib.hid hr4c
            have HR8 := Lib.hid hr8c
            have HI6 := Lib.hid hi6
            have HI9 := Lib.hid hi9
            clear hi6 hi9
            go_upto_region 19 with (fail)
            go_region_held3 (fun w' => w'.cell? ⟨gl, 0, none⟩ = some (.float .f32 lo) ∧ w'.cell? ⟨gl, 1, none⟩ = some (.float .f32 hi))
              ((refine ⟨?_, ?_⟩ <;> first | ((with_reducible refine (qv.cell _).trans ?_); rfl) | ((with_reducible refine (qu.cell _).trans ?_); rfl) | ((with_reducible refine (qz.cell _).trans ?_); rfl) | ((with_reducible refine (qy.cell _).trans ?_); rfl) | ((with_reducible refine (qc.drew.cell _).trans ?_); rfl)))
              (first
                | (go_at_call 21; refine (HPL.out _).mono ?_; rintro e wy ⟨rfl, hby'⟩; have hby : Below wc.heap.size wc wy := ⟨hby'.os, hby'.tape, hby'.output, hby'.size, hby'.block⟩; clear hby'; have qy := qc.below hby qc.lt)
                | (go_at_call 18; refine (HLV.out wy).mono ?_; rintro e wz ⟨rfl, hbz⟩; have qz := qy.below hbz qy.lt)
                | (go_at_call 22; refine (sameBools_eq A4 A8 DN c4 c8 _ wz ((HR4.out.later hby).later hbz) ((HR8.out.later hby).later hbz) (by unfold maxLen; omega)).mono ?_; rintro e wu ⟨rfl, hbu⟩; have qu := qz.below hbu qz.lt)
                | (go_at_call 23; refine (sameInts_eq A6 A9 CN c6 c9 _ wu (((HI6.out.later hby).later hbz).later hbu) (((HI9.out.later hby).later hbz).later hbu) (by unfold maxLen; omega)).mono ?_; rintro e wv ⟨rfl, hbv⟩; have qv := qu.below hbv qu.lt))
            go_wp2
            go_roundg (2 - (k + 1))
            case measure => omega
            case rel => exact ⟨k + 1, by omega, by go_num, Nat.le_refl _, (((hBc.trans (hby.mono hBc.size)).trans (hbz.mono (hBc.trans (hby.mono hBc.size)).size)).trans (hbu.mono ((hBc.trans (hby.mono hBc.size)).trans (hbz.mono (hBc.trans (hby.mono hBc.size)).size)).size)).trans (hbv.mono (((hBc.trans (hby.mono hBc.size)).trans (hbz.mono (hBc.trans (hby.mono hBc.size)).size)).trans (hbu.mono ((hBc.trans (hby.mono hBc.size)).trans (hbz.mono (hBc.trans (hby.mono hBc.size)).size)).size)).size)⟩
        · have hDR := HDN.out hV
          subst hDR
          obtain rfl : 0 = DN := HDLN.out
          have e0 : (EE == 0) = false := by simpa using hV
          have e1 : decide (EE = 0) = false := by simpa using hV
          have hr8 : Reads w8 w8.heap.size 1 none 0 (([] : List Bool).map boolv) := Reads.none_
          clear hV
          rcases HCE.out with ⟨hc1, hc2⟩ | ⟨hc1, hc2⟩
          · subst hc2
            have hCR := HCR.out hc1
            subst hCR
            obtain rfl : 0 = CN := HCLN.out
            have dm : decide ((4096 : Int) < (N : Int)) = true := by simpa using (show (4096 : Int) < N from by omega)
            have hr9 : Reads w8 w8.heap.size 1 none 0 (([] : List Nat).map natv) := Reads.none_
            clear hc1
            have x0 := q8.cell 0
            have x1 := q8.cell 1
            have hq := q8
            have hi6 := hr68
            have hi9 := hr9
            rw [natv_i64] at hi6 hi9
            have HR4 := Lib.hid hr48
            have HR8 := Lib.hid hr8
            have HI6 := Lib.hid hi6
            have HI9 := Lib.hid hi9
            clear hi6 hi9
            go_upto_region 19 with (fail)
            go_region_held3 (fun w' => w'.cell? ⟨gl, 0, none⟩ = some (.float .f32 lo) ∧ w'.cell? ⟨gl, 1, none⟩ = some (.float .f32 hi))
              ((refine ⟨?_, ?_⟩ <;> first | ((with_reducible refine (qv.cell _).trans ?_); rfl) | ((with_reducible refine (qu.cell _).trans ?_); rfl) | ((with_reducible refine (qz.cell _).trans ?_); rfl) | ((with_reducible refine (qy.cell _).trans ?_); rfl) | ((with_reducible refine (q8.drew.cell _).trans ?_); rfl)))
              (first
                | (go_at_call 21; refine (HPL.out _).mono ?_; rintro e wy ⟨rfl, hby'⟩; have hby : Below w8.heap.size w8 wy := ⟨hby'.os, hby'.tape, hby'.output, hby'.size, hby'.block⟩; clear hby'; have qy := q8.below hby q8.lt)
                | (go_at_call 18; refine (HLV.out wy).mono ?_; rintro e wz ⟨rfl, hbz⟩; have qz := qy.below hbz qy.lt)
                | (go_at_call 22; refine (sameBools_eq A4 none 0 c4 0 _ wz ((HR4.out.later hby).later hbz) ((HR8.out.later hby).later hbz) (by unfold maxLen; omega)).mono ?_; rintro e wu ⟨rfl, hbu⟩; have qu := qz.below hbu qz.lt)
                | (go_at_call 23; refine (sameInts_eq A6 none 0 c6 0 _ wu (((HI6.out.later hby).later hbz).later hbu) (((HI9.out.later hby).later hbz).later hbu) (by unfold maxLen; omega)).mono ?_; rintro e wv ⟨rfl, hbv⟩; have qv := qu.below hbv qu.lt))
            go_wp2
            go_roundg (2 - (k + 1))
            case measure => omega
            case rel => exact ⟨k + 1, by omega, by go_num, Nat.le_refl _, (((hB8.trans (hby.mono hB8.size)).trans (hbz.mono (hB8.trans (hby.mono hB8.size)).size)).trans (hbu.mono ((hB8.trans (hby.mono hB8.size)).trans (hbz.mono (hB8.trans (hby.mono hB8.size)).size)).size)).trans (hbv.mono (((hB8.trans (hby.mono hB8.size)).trans (hbz.mono (hB8.trans (hby.mono hB8.size)).size)).trans (hbu.mono ((hB8.trans (hby.mono hB8.size)).trans (hbz.mono (hB8.trans (hby.mono hB8.size)).size)).size)).size)⟩
          · subst hc2
            have hCR := HCN.out (by omega)
            have HRC := rChanges_ok A' N c' bv ln w8 (hr1'.later hB8) hc1
            rw [← hCR, HCLN.out] at HRC
            have HRC := Lib.hid HRC
            have dm : decide ((4096 : Int) < (N : Int)) = false := by simpa using (show ¬ (4096 : Int) < N from by omega)
            clear hc1 hCR
            go_wp2_with fail
            refine HRC.out.mono ?_
            rintro e wc ⟨A9, c9, rfl, hr9, hbc⟩
            have hBc := hB8.trans (hbc.mono hB8.size)
            have hr4c := hr48.later hbc
            have hr6c := hr68.later hbc
            have hr8c := hr8.later hbc
            have qc := q8.below hbc q8.lt
            clear HRC hbc
            have x0 := qc.cell 0
            have x1 := qc.cell 1
            have hq := qc
            have hi6 := hr6c
            have hi9 := hr9
            rw [natv_i64] at hi6 hi9
            have HR4 := Lib.hid hr4c
            have HR8 := Lib.hid hr8c
            have HI6 := Lib.hid hi6
            have HI9 := Lib.hid hi9
            clear hi6 hi9
            go_upto_region 19 with (fail)
            go_region_held3 (fun w' => w'.cell? ⟨gl, 0, none⟩ = some (.float .f32 lo) ∧ w'.cell? ⟨gl, 1, none⟩ = some (.float .f32 hi))
              ((refine ⟨?_, ?_⟩ <;> first | ((with_reducible refine (qv.cell _).trans ?_); rfl) | ((with_reducible refine (qu.cell _).trans ?_); rfl) | ((with_reducible refine (qz.cell _).trans ?_); rfl) | ((with_reducible refine (qy.cell _).trans ?_); rfl) | ((with_reducible refine (qc.drew.cell _).trans ?_); rfl)))
              (first
                | (go_at_call 21; refine (HPL.out _).mono ?_; rintro e wy ⟨rfl, hby'⟩; have hby : Below wc.heap.size wc wy := ⟨hby'.os, hby'.tape, hby'.output, hby'.size, hby'.block⟩; clear hby'; have qy := qc.below hby qc.lt)
                | (go_at_call 18; refine (HLV.out wy).mono ?_; rintro e wz ⟨rfl, hbz⟩; have qz := qy.below hbz qy.lt)
                | (go_at_call 22; refine (sameBools_eq A4 none 0 c4 0 _ wz ((HR4.out.later hby).later hbz) ((HR8.out.later hby).later hbz) (by unfold maxLen; omega)).mono ?_; rintro e wu ⟨rfl, hbu⟩; have qu := qz.below hbu qz.lt)
                | (go_at_call 23; refine (sameInts_eq A6 A9 CN c6 c9 _ wu (((HI6.out.later hby).later hbz).later hbu) (((HI9.out.later hby).later hbz).later hbu) (by unfold maxLen; omega)).mono ?_; rintro e wv ⟨rfl, hbv⟩; have qv := qu.below hbv qu.lt))
            go_wp2
            go_roundg (2 - (k + 1))
            case measure => omega
            case rel => exact ⟨k + 1, by omega, by go_num, Nat.le_refl _, (((hBc.trans (hby.mono hBc.size)).trans (hbz.mono (hBc.trans (hby.mono hBc.size)).size)).trans (hbu.mono ((hBc.trans (hby.mono hBc.size)).trans (hbz.mono (hBc.trans (hby.mono hBc.size)).size)).size)).trans (hbv.mono (((hBc.trans (hby.mono hBc.size)).trans (hbz.mono (hBc.trans (hby.mono hBc.size)).size)).trans (hbu.mono ((hBc.trans (hby.mono hBc.size)).trans (hbz.mono (hBc.trans (hby.mono hBc.size)).size)).size)).size)⟩
      · have e0 : (SE == 0) = false := by simpa using hS
        have e1 : decide (SE = 0) = false := by simpa using hS
        have hEv : EE = SE := by rw [HEV.out, if_pos hS]
        subst hEv
        have hDR := HDN.out hS
        subst hDR
        obtain rfl : 0 = DN := HDLN.out
        have hr8 : Reads w7 w7.heap.size 1 none 0 (([] : List Bool).map boolv) := Reads.none_
        clear hS HEV
        rcases HCE.out with ⟨hc1, hc2⟩ | ⟨hc1, hc2⟩
        · subst hc2
          have hCR := HCR.out hc1
          subst hCR
          obtain rfl : 0 = CN := HCLN.out
          have dm : decide ((4096 : Int) < (N : Int)) = true := by simpa using (show (4096 : Int) < N from by omega)
          have hr9 : Reads w7 w7.heap.size 1 none 0 (([] : List Nat).map natv) := Reads.none_
          clear hc1
          have x0 := q7.cell 0
          have x1 := q7.cell 1
          have hq := q7
          have hi6 := hr67
          have hi9 := hr9
          rw [natv_i64] at hi6 hi9
          have HR4 := Lib.hid hr47
          have HR8 := Lib.hid hr8
          have HI6 := Lib.hid hi6
          have HI9 := Lib.hid hi9
          clear hi6 hi9
          go_upto_region 19 with (fail)
          go_region_held3 (fun w' => w'.cell? ⟨gl, 0, none⟩ = some (.float .f32 lo) ∧ w'.cell? ⟨gl, 1, none⟩ = some (.float .f32 hi))
            ((refine ⟨?_, ?_⟩ <;> first | ((with_reducible refine (qv.cell _).trans ?_); rfl) | ((with_reducible refine (qu.cell _).trans ?_); rfl) | ((with_reducible refine (qz.cell _).trans ?_); rfl) | ((with_reducible refine (qy.cell _).trans ?_); rfl) | ((with_reducible refine (q7.drew.cell _).trans ?_); rfl)))
            (first
              | (go_at_call 21; refine (HPL.out _).mono ?_; rintro e wy ⟨rfl, hby'⟩; have hby : Below w7.heap.size w7 wy := ⟨hby'.os, hby'.tape, hby'.output, hby'.size, hby'.block⟩; clear hby'; have qy := q7.below hby q7.lt)
              | (go_at_call 18; refine (HLV.out wy).mono ?_; rintro e wz ⟨rfl, hbz⟩; have qz := qy.below hbz qy.lt)
              | (go_at_call 22; refine (sameBools_eq A4 none 0 c4 0 _ wz ((HR4.out.later hby).later hbz) ((HR8.out.later hby).later hbz) (by unfold maxLen; omega)).mono ?_; rintro e wu ⟨rfl, hbu⟩; have qu := qz.below hbu qz.lt)
              | (go_at_call 23; refine (sameInts_eq A6 none 0 c6 0 _ wu (((HI6.out.later hby).later hbz).later hbu) (((HI9.out.later hby).later hbz).later hbu) (by unfold maxLen; omega)).mono ?_; rintro e wv ⟨rfl, hbv⟩; have qv := qu.below hbv qu.lt))
          go_wp2
          go_roundg (2 - (k + 1))
          case measure => omega
          case rel => exact ⟨k + 1, by omega, by go_num, Nat.le_refl _, (((hB7.trans (hby.mono hB7.size)).trans (hbz.mono (hB7.trans (hby.mono hB7.size)).size)).trans (hbu.mono ((hB7.trans (hby.mono hB7.size)).trans (hbz.mono (hB7.trans (hby.mono hB7.size)).size)).size)).trans (hbv.mono (((hB7.trans (hby.mono hB7.size)).trans (hbz.mono (hB7.trans (hby.mono hB7.size)).size)).trans (hbu.mono ((hB7.trans (hby.mono hB7.size)).trans (hbz.mono (hB7.trans (hby.mono hB7.size)).size)).size)).size)⟩
        · subst hc2
          have hCR := HCN.out (by omega)
          have HRC := rChanges_ok A' N c' bv ln w7 (hr1'.later hB7) hc1
          rw [← hCR, HCLN.out] at HRC
          have HRC := Lib.hid HRC
          have dm : decide ((4096 : Int) < (N : Int)) = false := by simpa using (show ¬ (4096 : Int) < N from by omega)
          clear hc1 hCR
          go_wp2_with fail
          refine HRC.out.mono ?_
          rintro e wc ⟨A9, c9, rfl, hr9, hbc⟩
          have hBc := hB7.trans (hbc.mono hB7.size)
          have hr4c := hr47.later hbc
          have hr6c := hr67.later hbc
          have hr8c := hr8.later hbc
          have qc := q7.below hbc q7.lt
          clear HRC hbc
          have x0 := qc.cell 0
          have x1 := qc.cell 1
          have hq := qc
          have hi6 := hr6c
          have hi9 := hr9
          rw [natv_i64] at hi6 hi9
          have HR4 := Lib.hid hr4c
          have HR8 := Lib.hid hr8c
          have HI6 := Lib.hid hi6
          have HI9 := Lib.hid hi9
          clear hi6 hi9
          go_upto_region 19 with (fail)
          go_region_held3 (fun w' => w'.cell? ⟨gl, 0, none⟩ = some (.float .f32 lo) ∧ w'.cell? ⟨gl, 1, none⟩ = some (.float .f32 hi))
            ((refine ⟨?_, ?_⟩ <;> first | ((with_reducible refine (qv.cell _).trans ?_); rfl) | ((with_reducible refine (qu.cell _).trans ?_); rfl) | ((with_reducible refine (qz.cell _).trans ?_); rfl) | ((with_reducible refine (qy.cell _).trans ?_); rfl) | ((with_reducible refine (qc.drew.cell _).trans ?_); rfl)))
            (first
              | (go_at_call 21; refine (HPL.out _).mono ?_; rintro e wy ⟨rfl, hby'⟩; have hby : Below wc.heap.size wc wy := ⟨hby'.os, hby'.tape, hby'.output, hby'.size, hby'.block⟩; clear hby'; have qy := qc.below hby qc.lt)
              | (go_at_call 18; refine (HLV.out wy).mono ?_; rintro e wz ⟨rfl, hbz⟩; have qz := qy.below hbz qy.lt)
              | (go_at_call 22; refine (sameBools_eq A4 none 0 c4 0 _ wz ((HR4.out.later hby).later hbz) ((HR8.out.later hby).later hbz) (by unfold maxLen; omega)).mono ?_; rintro e wu ⟨rfl, hbu⟩; have qu := qz.below hbu qz.lt)
              | (go_at_call 23; refine (sameInts_eq A6 A9 CN c6 c9 _ wu (((HI6.out.later hby).later hbz).later hbu) (((HI9.out.later hby).later hbz).later hbu) (by unfold maxLen; omega)).mono ?_; rintro e wv ⟨rfl, hbv⟩; have qv := qu.below hbv qu.lt))
          go_wp2
          go_roundg (2 - (k + 1))
          case measure => omega
          case rel => exact ⟨k + 1, by omega, by go_num, Nat.le_refl _, (((hBc.trans (hby.mono hBc.size)).trans (hbz.mono (hBc.trans (hby.mono hBc.size)).size)).trans (hbu.mono ((hBc.trans (hby.mono hBc.size)).trans (hbz.mono (hBc.trans (hby.mono hBc.size)).size)).size)).trans (hbv.mono (((hBc.trans (hby.mono hBc.size)).trans (hbz.mono (hBc.trans (hby.mono hBc.size)).size)).trans (hbu.mono ((hBc.trans (hby.mono hBc.size)).trans (hbz.mono (hBc.trans (hby.mono hBc.size)).size)).size)).size)⟩
    · obtain rfl : k = 2 := by omega
      have hB8 := hB1.trans (hbel.mono hs1)
      go_wp2_with fail
      refine (KV.out _ (hT1.later hbel)).mono ?_
      rintro e w9 ⟨rfl, hb9⟩
      go_wp2_with fail
      go_ret
      exact ⟨rfl, by rw [HGL.out]; exact hB8.trans (hb9.mono (Nat.le_trans hs1 hbel.size))⟩

end Go.Proofs.YtboaojkblmddkaaGreatDoor

/- The law of lines of chapter 2: for all samples, levels and lines it returns true. -/
namespace Go.Proofs.YtboaojkblmddkaaGreatDoor
open Go.RowKit

/-- every input: true; nothing that was there has changed -/
theorem linesLaw_any (A A' : Option Addr) (n c N c' lo hi : Nat) (l : List Nat) (ln : List Bool) (w : World) (hT : Tabs w) (h : Reads w w.heap.size 1 A n (l.map f32v)) (hac : A = none → c = 0)
    (h' : Reads w w.heap.size 1 A' N (ln.map boolv)) (hac' : A' = none → c' = 0) :
    Calls Tryz.prog 3 #[.slice A n c, .agg #[.float .f32 lo, .float .f32 hi], .slice A' N c'] w fun e w' => e = .returned (.bool true) ∧ Below w.heap.size w w' := by
  by_cases h1 : LenOk n 64
  · by_cases h2 : LenOk N 64
    · exact lines_main A A' n c N c' lo hi l ln w awake_ok hT h hac h' hac' h1 h2
    · exact lines_turned A A' n c N c' lo hi w awake_ok hT (.inr h2)
  · exact lines_turned A A' n c N c' lo hi w awake_ok hT (.inl h1)
end Go.Proofs.YtboaojkblmddkaaGreatDoor

/- Arguments opened: slices of bools and of words, slices of slices of bools. -/
namespace Go.Proofs.YtboaojkblmddkaaGreatDoor
open Go.RowKit Go.WideShapes Go.ChangeShapes Go.Deep

section
variable {H : Type} {enc : TypeId × Value → H} {P : Program} {w : World} {base fuel : Nat} {held : Bool} {t e q : TypeId} {cs : List Value} {x : DataW H × List MemPlace}

theorem trod_bol {spare : Nat → Bool} (ht : P.underlying t = some .bool) (h : DataW.trod enc P w base spare held fuel t cs = some x) : ∃ b : Bool, cs = [.bool b] := by
  cases fuel with
  | zero => simp [DataW.trod] at h
  | succ n =>
    unfold DataW.trod at h
    rw [ht] at h
    split at h <;> simp_all

/-- a slice of bools, read with its spare -/
theorem open_bols (ht : P.underlying t = some (.slice e)) (he : P.underlying e = some .bool) (hc : P.cellsOf e = 1) (h : DataW.trod enc P w base (fun _ => true) held fuel t cs = some x) :
    ∃ (A : Option Addr) (n c : Nat) (l : List Bool), cs = [.slice A n c] ∧ n ≤ c ∧ c ≤ maxLen ∧ (A = none → c = 0) ∧ l.length = n ∧ Reads w w.heap.size 1 A n (l.map boolv) := by
  rcases open_slice1 ht hc h with ⟨rfl, _⟩ | ⟨a, len, cap, m, n, V, D, Pl, rfl, _, hl, hm, hmm, _, hx⟩
  · exact ⟨none, 0, 0, [], rfl, Nat.le_refl _, Nat.zero_le _, fun _ => rfl, rfl, Reads.none_⟩
  · simp only [if_true] at hmm
    subst hmm
    obtain ⟨B, hB⟩ := choose_lt (α := Bool) (p := fun i b => V i = .bool b) (n := m) (fun i hi => by
      obtain ⟨b, hb⟩ := trod_bol he (hx i hi).2
      exact ⟨b, by simpa using hb⟩)
    refine ⟨some a, len, m, (List.range len).map B, rfl, hl, hm, (fun e => by cases e), by simp, by simp, fun hp => ⟨a, rfl, ?_, fun j u hu => ?_⟩⟩
    · have h0 := (hx 0 (by omega)).1
      have := World.block_lt_of_cell? w _ h0
      simpa [block_of_add] using this
    · have hj : j < len := by
        rcases Nat.lt_or_ge j len with h1 | h1
        · exact h1
        · rw [List.getElem?_eq_none (by simpa using h1)] at hu; cases hu
      have e1 := (hx j (by omega)).1
      rw [hB j (by omega)] at e1
      rw [List.getElem?_eq_getElem (by simpa using hj)] at hu
      injection hu with hu
      rw [e1, ← hu]
      simp [boolv]

/-- a slice of slices of bools -/
theorem open_bol_rows (ht : P.underlying t = some (.slice e)) (he : P.underlying e = some (.slice q)) (hq : P.underlying q = some .bool) (ce : P.cellsOf e = 1) (cq : P.cellsOf q = 1)
    (h : DataW.trod enc P w base (fun _ => true) held fuel t cs = some x) :
    ∃ (A : Option Addr) (n c : Nat) (rows : List (List Bool)), cs = [.slice A n c] ∧ n ≤ c ∧ c ≤ maxLen ∧ RowsR boolv w w.heap.size A n rows ∧
      ∀ (ad : Addr) (k L c2 : Nat), A = some ad → k < n → w.cell? (ad.add k) = some (.slice none L c2) → c2 = 0 := by
  rcases open_slice1 ht ce h with ⟨rfl, _⟩ | ⟨a, len, cap, m, n, V, D, Pl, rfl, _, hl, hm, hmm, _, hx⟩
  · exact ⟨none, 0, 0, [], rfl, Nat.le_refl _, Nat.zero_le _, ⟨rfl, [], Reads.none_, fun i hi => absurd hi (by simp)⟩, fun ad k L c2 e => by cases e⟩
  · simp only [if_true] at hmm
    subst hmm
    obtain ⟨y, hy⟩ := choose_lt (α := Option Addr × Nat × Nat × List Bool) (p := fun i y => V i = .slice y.1 y.2.1 y.2.2.1 ∧ y.2.1 ≤ y.2.2.1 ∧ y.2.2.1 ≤ maxLen ∧ (y.1 = none → y.2.2.1 = 0) ∧ y.2.2.2.length = y.2.1 ∧ Reads w w.heap.size 1 y.1 y.2.1 (y.2.2.2.map boolv)) (n := m) (fun i hi => by
      obtain ⟨A, n1, c1, l, h1, h2, h3, h4, h5, h6⟩ := open_bols he hq cq (hx i hi).2
      exact ⟨(A, n1, c1, l), by simpa using h1, h2, h3, h4, h5, h6⟩)
    have hcell : ∀ i, i < len → w.cell? (a.add i) = some (.slice (y i).1 (y i).2.1 (y i).2.2.1) := fun i hi => by
      have e1 := (hx i (by omega)).1
      rw [(hy i (by omega)).1] at e1
      exact e1
    refine ⟨some a, len, m, (List.range len).map fun i => (y i).2.2.2, rfl, hl, hm, ⟨by simp, (List.range len).map fun i => .slice (y i).1 (y i).2.1 (y i).2.2.1, ⟨by simp, fun hp => ⟨a, rfl, ?_, fun j u hu => ?_⟩⟩, fun i hi => ?_⟩, fun ad k L c2 e hk hc2 => ?_⟩
    · have := World.block_lt_of_cell? w _ (hcell 0 (by omega))
      simpa [block_of_add] using this
    · have hj : j < len := by
        rcases Nat.lt_or_ge j len with h1 | h1
        · exact h1
        · rw [List.getElem?_eq_none (by simpa using h1)] at hu; cases hu
      rw [List.getElem?_eq_getElem (by simpa using hj)] at hu
      injection hu with hu
      rw [hcell j hj, ← hu]
      simp
    · have hi' : i < len := by simpa using hi
      obtain ⟨_, h2, h3, _, h5, h6⟩ := hy i (by omega)
      refine ⟨(y i).1, (y i).2.2.1, ?_, ?_, h3, ?_⟩
      · rw [List.getElem?_eq_getElem (by simpa using hi')]
        simp [h5]
      · simpa [h5] using h2
      · simpa [h5] using h6
    · injection e with e
      subst e
      rw [hcell k hk] at hc2
      injection hc2 with hc2
      injection hc2 with h7 h8 h9
      have := (hy k (by omega)).2.2.2.1 h7
      omega

end
end Go.Proofs.YtboaojkblmddkaaGreatDoor

/- For every input ProbeLines returns true and leaves its arguments as they were, in every world in which the five package-level variables that its row lists (three tables, two errors) hold what the program's text lays in them. Said, and its tied card. -/
namespace Go.Proofs.YtboaojkblmddkaaGreatDoor.lineslaw
open Go.ChangeShapes Go.WideShapes Go.ChangeAt Go.RowKit Go.Deep

theorem own : ownKnob Tryz.prog.godebug = none := by kernel_rfl
theorem laidOut : laidOutB Tryz.prog = true := by kernel_rfl
theorem cellsR : Tryz.prog.cellsOf 22 = 1 := by kernel_rfl
theorem cellsBo : Tryz.prog.cellsOf 4 = 1 := by kernel_rfl
theorem cellsF : Tryz.prog.cellsOf 23 = 1 := by kernel_rfl
theorem cellsB : Tryz.prog.cellsOf 5 = 1 := by kernel_rfl
theorem cellsU : Tryz.prog.cellsOf 199 = 1 := by kernel_rfl
theorem gTz : Tryz.prog.globalNamed "math/bits.deBruijn64tab" = some 2 := by kernel_rfl
theorem gPow : Tryz.prog.globalNamed "internal/strconv.uint64pow10" = some 5 := by kernel_rfl

set_option maxRecDepth 100000 in
theorem tabs {W : World} (h : laidMetH Tryz.prog Rows.probeLinesRow.laid W) (hs : W.ShapedOpen Tryz.prog) : Tabs W := by
  have h1 : laidMet Tryz.prog Rows.probeLinesRow.laid W := h
  have h2 := laidMet.tail h1
  have h3 := laidMet.tail h2
  have t2 : Lib.TabIs Tryz.prog W "math/bits.deBruijn64tab" .u8 (Lib.deBruijn64tab.map fun (n : Nat) => (n : Int)) :=
    Lib.tabIs_of_head gTz (by kernel_rfl) Tryz.underlying263 Tryz.underlying5 cellsB (by kernel_rfl) h2
  have t3 : Lib.TabIs Tryz.prog W "internal/strconv.uint64pow10" .u64 Lib.pow10Tab :=
    Lib.tabIs_of_head gPow (by kernel_rfl) Tryz.underlying272 Tryz.underlying199 cellsU (by kernel_rfl) h3
  refine ⟨fun j hj => ?_, t3, ?_⟩
  · have := t2.cell gTz j (by simpa using hj)
    rw [this]
    simp [List.getD, List.getElem?_map, List.getElem?_eq_getElem hj]
  · exact cell_of_shapedOpen_int (zero := #[.int .i64 0]) (t := 3) hs (of_decide_eq_true (by kernel_rfl)) (by kernel_rfl) rfl (by kernel_rfl) (by kernel_rfl) Tryz.underlying3

set_option maxRecDepth 100000 in
theorem contract (H : Type) (enc : TypeId × Value → H) (W : World) (base : Nat) (args : Array Value) (ds gs : List (DataW H)) (before : List MemPlace)
    (hval : ∀ (j : Nat) t v, Tryz.f3.params[j]? = some t → args[j]? = some v → Value.okWide Tryz.prog W .any base t v)
    (hW : DataW.Whole enc Tryz.prog Tryz.f3.params.toList Rows.probeLinesSpec.vars false W args.toList ds gs before) (hL : laidMetH Tryz.prog Rows.probeLinesRow.laid W) (hS : W.ShapedOpen Tryz.prog) :
    Calls Tryz.prog 3 args W fun e W' => ∃ v, e = .returned v ∧ Rows.probeLinesSpec.post enc Tryz.prog Tryz.f3 false true false false W args v W' := by
  have hW' := hW
  obtain ⟨p, q, hA0, hV, rfl, hfz, hnd⟩ := hW
  have hA : DataW.TrodAll enc Tryz.prog W 0 (fun _ => true) true Tryz.f3.params.toList args.toList ds p := hA0
  rw [Tryz.params3] at hA hval
  obtain ⟨v0, vs0, d0, ds0, p0, q0, hargs, rfl, rfl, h0, r0⟩ := trodAll_cons hA
  obtain ⟨v1, vs1, d1, ds1, p1, q1, rfl, rfl, rfl, h1, r1⟩ := trodAll_cons r0
  obtain ⟨v2, vs2, d2, ds2, p2, q2, rfl, rfl, rfl, h2, r2⟩ := trodAll_cons r1
  obtain ⟨rfl, rfl, rfl⟩ := trodAll_nil r2
  obtain rfl : args = #[v0, v1, v2] := by cases args; simp_all
  obtain ⟨rfl, rfl⟩ := trodVars_none hV
  obtain ⟨A, n, c, rfl⟩ := okWide_slice Tryz.underlying22 (hval 0 22 v0 rfl rfl)
  obtain ⟨A', N, c', rfl⟩ := okWide_slice Tryz.underlying26 (hval 2 26 v2 rfl rfl)
  obtain ⟨x0, x1, y0, y1, m2, rfl, _, _, hx0, hx1⟩ := Go.Joins.open_agg2 Tryz.underlying25 (by kernel_rfl) (by kernel_rfl) (hval 1 25 v1 rfl rfl) h1
  obtain ⟨lo, hlo⟩ := trod_f32 Tryz.underlying23 hx0
  obtain ⟨hi, hhi⟩ := trod_f32 Tryz.underlying23 hx1
  injection hlo with hlo
  injection hhi with hhi
  subst hlo hhi
  obtain ⟨m0, hf0⟩ := id h0
  obtain ⟨B0, k0, e0, l, he0, hke, hm0, hnc, _, hrd⟩ := open_f32s Tryz.underlying22 Tryz.underlying23 cellsF hf0
  simp only [Value.cells, List.cons.injEq, Value.slice.injEq, and_true] at he0
  obtain ⟨rfl, rfl, rfl⟩ := he0
  obtain ⟨m1, hf1⟩ := id h2
  obtain ⟨B1, k1, e1, ln, he1, hke1, hm1, hnc1, _, hrd1⟩ := open_bols Tryz.underlying26 Tryz.underlying4 cellsBo hf1
  simp only [Value.cells, List.cons.injEq, Value.slice.injEq, and_true] at he1
  obtain ⟨rfl, rfl, rfl⟩ := he1
  have walk := linesLaw_any A A' n c N c' lo hi l ln W (tabs hL hS) hrd hnc hrd1 hnc1
  have hlt : ∀ x ∈ p0 ++ (p1 ++ (p2 ++ [])) ++ [], x.block < W.heap.size := fun x hx => hW'.lt x hx
  refine walk.mono fun e W' ⟨he, hb⟩ => ?_
  subst he
  have st : ∀ (t : TypeId) (v : Value) (d : DataW H) (ps : List MemPlace) (sp : Nat → Bool), Tryz.prog.readableRec t = true → t < Tryz.prog.types.size → DataW.Trod enc Tryz.prog W 0 (fun _ => true) true t v d ps →
      (∀ x ∈ ps, x.block < W.heap.size) → (∀ x ∈ ps, sp x.block = true) → DataW.Trod enc Tryz.prog W' 0 sp true t v d ps := fun t v d ps sp hr hrow h hl hs =>
    WideElems.Trod_stays laidOut hr hrow h (fun x hx => hb.same (hl x hx)) hs
  refine ⟨_, rfl, post_below (pa := p0 ++ (p1 ++ (p2 ++ []))) (pv := []) hW' (fun _ _ _ => trodAll_cons_mk (shut_bool Tryz.underlying4 _) trodAll_mk0) (fun sp hsp => ?_) (fun _ _ => rfl) rfl hb (ok_one (by kernel_rfl) rfl (okWide_bool_mk Tryz.underlying4 _))⟩
  refine trodAll_cons_mk (st _ _ _ _ sp (by kernel_rfl) (of_decide_eq_true (by kernel_rfl)) h0 (fun x hx => hlt x (by simp [hx])) (fun x hx => hsp x (by simp [hx]))) ?_
  refine trodAll_cons_mk (st _ _ _ _ sp (by kernel_rfl) (of_decide_eq_true (by kernel_rfl)) h1 (fun x hx => hlt x (by simp [hx])) (fun x hx => hsp x (by simp [hx]))) ?_
  exact trodAll_cons_mk (st _ _ _ _ sp (by kernel_rfl) (of_decide_eq_true (by kernel_rfl)) h2 (fun x hx => hlt x (by simp [hx])) (fun x hx => hsp x (by simp [hx]))) trodAll_mk0

/-- a world for the witness: the settled one, the three tables as their initialisers lay them -/
def cellsOver (cs : Array Value) : Obj → Obj
  | .cells _ t frozen => .cells cs t frozen
  | o => o
def tab32 : List Nat := [0, 1, 28, 2, 29, 14, 24, 3, 30, 22, 20, 15, 25, 17, 4, 8, 31, 27, 13, 23, 21, 19, 16, 7, 26, 12, 18, 6, 11, 5, 10, 9]
noncomputable def low : Nat := (World.holding Tryz.prog default ⟨#[], #[], []⟩).heap.size
noncomputable def laidWorld (os : Os) : World :=
  { (World.holding Tryz.prog os ⟨#[.cells #[.string { data := #[118, 97, 108, 117, 101, 32, 111, 117, 116, 32, 111, 102, 32, 114, 97, 110, 103, 101] }] 286, .cells #[.string { data := #[105, 110, 118, 97, 108, 105, 100, 32, 115, 121, 110, 116, 97, 120] }] 286], #[], []⟩) with heap := ((((((World.holding Tryz.prog os ⟨#[.cells #[.string { data := #[118, 97, 108, 117, 101, 32, 111, 117, 116, 32, 111, 102, 32, 114, 97, 110, 103, 101] }] 286, .cells #[.string { data := #[105, 110, 118, 97, 108, 105, 100, 32, 115, 121, 110, 116, 97, 120] }] 286], #[], []⟩).heap.modify 8 (cellsOver (tab32.map fun (n : Nat) => Value.int .u8 (n : Int)).toArray)).modify 2 (cellsOver (Lib.deBruijn64tab.map fun (n : Nat) => Value.int .u8 (n : Int)).toArray)).modify 5 (cellsOver (Lib.pow10Tab.map fun n => Value.int .u64 n).toArray)).modify 7 (cellsOver #[.iface 284 (.pointer (some ⟨low, 0, none⟩))])).modify 6 (cellsOver #[.iface 284 (.pointer (some ⟨low + 1, 0, none⟩))])) }
def wargs : Array Value := #[.slice none 0 0, .agg #[.float .f32 0, .float .f32 0], .slice none 0 0]
set_option maxRecDepth 100000 in
theorem laid_met (os : Os) : laidMet Tryz.prog Rows.probeLinesRow.laid ((laidWorld os).forCall (fun _ _ => 0) ⟨#[], wargs, []⟩).memory :=
  laidMet_of_run' 8 (by kernel_rfl) (by kernel_rfl)
set_option maxRecDepth 100000 in
theorem reads (os : Os) {H : Type} (enc : TypeId × Value → H) : ∃ places, DataW.whole enc Tryz.prog ((laidWorld os).forCall (fun _ _ => 0) ⟨#[], wargs, []⟩).memory Tryz.f3.params.toList Rows.probeLinesSpec.vars false wargs.toList 8 = some ([.nil, .agg [.lit (.float .f32 0), .lit (.float .f32 0)], .nil], [], places) :=
  ⟨[], by kernel_rfl⟩

set_option maxRecDepth 100000 in
theorem lifted (os : Os) (started : os.Started) (H : Type) (enc : TypeId × Value → H) (F : Stop.Interp) :
    ReturnsInHanded {} Tryz.checked os 3 .any ((OpenSpec.ofChange Rows.probeLinesSpec).preRow enc Tryz.prog Tryz.f3 Rows.probeLinesRow.domain false Rows.probeLinesRow.laid) (((OpenSpec.ofChange Rows.probeLinesSpec).at F).post enc Tryz.prog Tryz.f3 false true false false) := by
  obtain ⟨places, hx⟩ := reads os enc
  refine returnsInHanded_of_row (C := Tryz.checked) (s := OpenSpec.ofChange Rows.probeLinesSpec) own started (by kernel_rfl) Tryz.func3
    (witness_row_at (enc := enc) (C := Tryz.checked) false (laidWorld os) wargs rfl (by kernel_rfl) (by kernel_rfl) (by kernel_rfl)
      (OpenSpec.preRow_of_cond 8 hx (by kernel_rfl) (fun k hk => by cases hk) (by kernel_rfl) (laid_met os))) ?_
  intro W base args ds gs before hval hW _ _ _ hL hS _
  exact contract H enc W base args ds gs before hval hW hL hS

theorem said : Rows.ProbeLinesSaid :=
  OpenClaim.holds_of_cond 3 Tryz.f3 rfl rfl rfl rfl rfl rfl rfl ⟨rfl, rfl, rfl, rfl, rfl⟩ rfl rfl rfl rfl rfl (by kernel_rfl) Tryz.func3 (by kernel_rfl)
    (of_decide_eq_true (by kernel_rfl)) (by unfold Func.isWrapper; first | (rw [if_pos (by decide +kernel)]; kernel_rfl) | (rw [if_neg (by decide +kernel)]; exact ⟨rfl, rfl⟩))
    (fun os started H enc _ F => by rw [OpenClaim.pre_eq_preRow]; exact lifted os started H enc F)

theorem plain (f : FuncId) (fn : Func) (hf : Tryz.pinned.checked.prog.funcNamed "strobe/strobelaw02.ProbeLines" = some f) (hfn : Tryz.pinned.checked.prog.funcs[f]? = some fn) :
    true = Tryz.pinned.checked.prog.looks [] ∧ ∀ (j : Nat) t, fn.params[j]? = some t → Tryz.pinned.checked.prog.wantsStandIn t = false := by
  obtain rfl : f = 3 := Option.some.inj ((show Tryz.prog.funcNamed "strobe/strobelaw02.ProbeLines" = some 3 by kernel_rfl).symm.trans hf) |>.symm
  obtain rfl : fn = Tryz.f3 := (Option.some.inj (Tryz.func3.symm.trans hfn)).symm
  refine ⟨by kernel_rfl, fun j t ht => ?_⟩
  rw [Tryz.params3] at ht
  have hm := Array.mem_of_getElem? ht
  simp at hm
  rcases hm with rfl | rfl | rfl
  · exact (show Tryz.prog.wantsStandIn 22 = false by kernel_rfl)
  · exact (show Tryz.prog.wantsStandIn 25 = false by kernel_rfl)
  · exact (show Tryz.prog.wantsStandIn 26 = false by kernel_rfl)

/-- THE CARD -/
theorem card : Rows.ProbeLinesCardSaid :=
  Claim7.holds_tied_plain_at .later [] _ _ _ _ said (fun _ h => by cases h) (by kernel_rfl) (fun _ h => by cases h) probeLines_row_tie rfl ⟨rfl, rfl⟩ (by kernel_rfl) rfl plain (by kernel_rfl)
end Go.Proofs.YtboaojkblmddkaaGreatDoor.lineslaw
