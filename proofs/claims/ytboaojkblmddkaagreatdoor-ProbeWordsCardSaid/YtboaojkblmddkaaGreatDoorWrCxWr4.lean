/- ProbeWords: the law. -/
import Derived.Test.YtboaojkblmddkaaGreatDoorWrCxPk4
import Derived.Test.YtboaojkblmddkaaGreatDoorCAwj
import Derived.Test.YtboaojkblmddkaaGreatDoorCTog3
namespace Go.Proofs.YtboaojkblmddkaaGreatDoor
open Go.RowKit Bn

set_option maxHeartbeats 8000000 in
set_option maxRecDepth 100000 in
theorem words_main (A A' : Option Addr) (n c N c' : Nat) (b : Int) (rows : List (List Bool)) (ws : List Nat) (w : World) (KV : AwakeOk) (hT : Tabs w) (h : RowsR boolv w w.heap.size A n rows)
    (hw : Reads w w.heap.size 1 A' N (ws.map u16v)) (hws : ∀ x ∈ ws, x < 65536) (hac : A' = none → c' = 0)
    (hz : ∀ (ad : Addr) (k L c2 : Nat), A = some ad → k < n → w.cell? (ad.add k) = some (.slice none L c2) → c2 = 0)
    (hn : n ≤ 18) (hN : LenOk N 64) (hr : ∀ r ∈ rows, LenOk r.length 40) :
    Calls Tryz.prog 5 #[.slice A n c, .slice A' N c', .int .i64 b] w fun e w' => e = .returned (.bool true) ∧ Below w.heap.size w w' := by
  have HLE := Lib.hid (fun W => rLength_any N 64 W)
  have HL4 := Lib.hid (fun (k : Nat) W => rLength_any k 40 W)
  have KV := Lib.hid KV
  have HRL := Lib.hid hr
  have hN' := hN
  unfold LenOk at hN
  rw [decide_eq_true hN] at HLE
  have hN8 : N ≤ 4098 := by omega
  have d1 : decide ((18 : Int) < (n : Int)) = false := by simpa using (show ¬ ((18 : Int) < n) from by omega)
  have HLN := Lib.hid h.1
  have HR := Lib.hid h
  have HW := Lib.hid hw
  have hr98 : ∀ r ∈ rows, r.length ≤ 4098 := fun r h => by have := hr r h; unfold LenOk at this; omega
  have HCP := Lib.hid (copied_ok A n c rows w h (by omega) hr98 hz)
  have HWS := Lib.hid hws
  have HAC := Lib.hid hac
  clear hr hr98 hN hN' hz h hw hws hac
  go_enter Tryz.func5, Tryz.ntmps5
  go_wp2_with fail
  refine (HLE.out w).mono ?_
  rintro e w1 ⟨rfl, rfl⟩
  clear HLE
  go_wp2
  go_loopg [29] n (fun q s W => ∃ k : Nat, k ≤ n ∧ s = .int .i64 k ∧ n - k ≤ q ∧ W = w)
  case atStart => exact ⟨0, Nat.zero_le _, rfl, by omega, rfl⟩
  case round =>
    obtain ⟨k, hk, rfl, hq, hW⟩ := hrel
    subst hW
    by_cases h0 : k < n
    · obtain ⟨ad, hkl, A1, c1, rfl, hbb, hcell, hlc, hcm, hrd⟩ := HR.out.row h0
      have he := HRL.out rows[k] (List.getElem_mem hkl)
      clear hrd
      generalize rows[k].length = L at *
      have HC := HL4.out L wr
      unfold LenOk at he
      rw [decide_eq_true he] at HC
      have HC := Lib.hid HC
      clear he
      go_wp2_with fail
      refine HC.out.mono ?_
      rintro e w1 ⟨rfl, rfl⟩
      go_wp2
      go_roundg (n - (k + 1))
      case measure => omega
      case rel => exact ⟨k + 1, by omega, by go_num, Nat.le_refl _, rfl⟩
    · obtain rfl : n = k := by omega
      clear hk hq
      go_wp2_with fail
      refine HCP.out.mono ?_
      rintro e w2 ⟨v2, rfl, hgr, hb2⟩
      obtain ⟨A2, c2, rfl, _, _, hr2⟩ := hgr.rowsR
      have HWA := Lib.hid (words_any A2 n c2 rows w2 hr2 (by unfold maxLen; omega))
      have HWO := Lib.hid (wordsL_ok rows)
      have HWE := Lib.hid (wordsL_err rows)
      have HCL := Lib.hid (fun W hW => rCheckLines_any A n c rows W hW (by unfold maxLen; omega))
      have HWB := Lib.hid (wordsL_len rows)
      clear hgr hr2 HCP
      generalize wordsL rows = WL at *
      generalize linE rows = E at *
      generalize hWN : WL.length = WN at *
      have HWN := Lib.hid hWN
      clear hWN
      go_wp2_with fail
      refine HWA.out.mono ?_
      rintro e w3 ⟨A3, c3, rfl, hr3, hb3⟩
      have hB3 := hb2.trans (hb3.mono hb2.size)
      have HCW := Lib.hid (wordsCopy_own A' N c' ws w3 (HW.out.later hB3) (by omega) HAC.out)
      clear HWA hb2 hb3
      go_wp2_with fail
      refine HCW.out.mono ?_
      rintro e w4 ⟨v4, rfl, ho4, hb4⟩
      obtain ⟨A4, c4, rfl, _, _, hr4⟩ := own_slice ho4
      have hB4 := hB3.trans (hb4.mono hB3.size)
      have hr34 := hr3.later hb4
      have HLA := Lib.hid (line_any A4 N c4 b ws w4 hr4 HWS.out)
      have hlc := lnE_cases N b
      have HLB := Lib.hid (lineL_len ws N b)
      have HWSL := Lib.hid HW.out.lenM
      have HLI := Lib.hid (show lnE N b = 0 → lineL ws N b = bitL ws b.toNat from fun h => if_pos h)
      have HLJ := Lib.hid (show lnE N b ≠ 0 → lineL ws N b = [] from fun h => if_neg h)
      clear HCW ho4 hb4 hr3 hr4 hB3
      generalize lineL ws N b = LL at *
      generalize lnE N b = E2 at *
      generalize hLN : LL.length = LN at *
      have HLLN := Lib.hid hLN
      have HLC := Lib.hid hlc
      clear hLN hlc
      go_wp2_with fail
      refine HLA.out.mono ?_
      rintro e w5 ⟨A5, c5, rfl, hr5, hb5⟩
      have hB5 := hB4.trans (hb5.mono hB4.size)
      have hr35 := hr34.later hb5
      have HCL5 := Lib.hid (HCL.out w5 (HR.out.later hB5))
      clear HLA hb5 hB4 hr34 HCL
      go_wp2_with fail
      refine HCL5.out.mono ?_
      rintro e w6 ⟨rfl, hb6⟩
      have hB6 := hB5.trans (hb6.mono hB5.size)
      have hr36 := hr35.later hb6
      have hr56 := hr5.later hb6
      clear HCL5 hb6 hB5 hr35 hr5
      by_cases hE : E = 0
      · obtain ⟨m, hm1, hm2, hm3, hm4, hm5⟩ := HWO.out hE
        have e0 : (E == 0) = true := by simpa using hE
        have hWm : WN = m := by rw [← HWN.out, hm5]; simp
        have HRW := Lib.hid (rWords_ok A n c m rows w6 (HR.out.later hB6) (by have := HLN.out; omega) (by have := HLN.out; omega) hm4 hm1)
        rw [← hm5, ← hWm] at HRW
        clear hm1 hm2 hm3 hm4 hm5 hWm HWO HWE
        go_wp2_with fail
        refine HRW.out.mono ?_
        rintro e w7 ⟨v7, rfl, ho7, hb7⟩
        obtain ⟨A7, c7, rfl, _, _, hr7⟩ := own_slice ho7
        have hB7 := hB6.trans (hb7.mono hB6.size)
        have hr37 := hr36.later hb7
        have hr57 := hr56.later hb7
        have hW7 := HW.out.later hB7
        clear HRW ho7 hb7 hB6 hr36 hr56
        have HWM : Hid (WN ≤ maxLen) := by have := hr37.lenM; unfold Hid maxLen; have := HWB.out; omega
        have HLM : Hid (LN ≤ maxLen) := by have := HLB.out; have := HWSL.out; unfold Hid maxLen; omega
        have zz : decide ((LN : Int) = (LN : Int)) = true := by simp
        rcases HLC.out with ⟨h1, h2⟩ | ⟨h1, h2, h3⟩ | ⟨h1, h2, h3⟩ | ⟨h1, h2, h3, h4⟩
        · subst h2
          have hLn := HLJ.out (by decide)
          subst hLn
          obtain rfl : 0 = LN := HLLN.out
          have hr8 : Reads w7 w7.heap.size 1 none 0 (([] : List Bool).map boolv) := Reads.none_
          have dm : decide ((4096 : Int) < (N : Int)) = true := by simpa using (show (4096 : Int) < N from by omega)
          clear h1 
          have HS := Lib.hid (sameWords_eq A3 A7 WN c3 c7 _ w7 hr37 hr7 HWM.out)
          go_wp2_with fail
          refine HS.out.mono ?_
          rintro e w9 ⟨rfl, hb9⟩
          have HS2 := Lib.hid (sameBools_eq A5 none 0 c5 0 [] w9 (hr57.later hb9) (hr8.later hb9) HLM.out)
          have hB9 := hB7.trans (hb9.mono hB7.size)
          have HT9 := Lib.hid (hT.later hB9)
          go_wp2_with fail
          refine HS2.out.mono ?_
          rintro e wx ⟨rfl, hbx⟩
          have hBx := hB9.trans (hbx.mono hB9.size)
          go_wp2_with fail
          refine (KV.out wx (hT.later hBx)).mono ?_
          rintro e wy ⟨rfl, hby⟩
          go_wp2_with fail
          go_ret
          exact ⟨rfl, hBx.trans (hby.mono hBx.size)⟩
        · subst h3
          have hLn := HLJ.out (by decide)
          subst hLn
          obtain rfl : 0 = LN := HLLN.out
          have hr8 : Reads w7 w7.heap.size 1 none 0 (([] : List Bool).map boolv) := Reads.none_
          have dm : decide ((4096 : Int) < (N : Int)) = false := by simpa using (show ¬ (4096 : Int) < N from by omega)
          have dl : decide (b < 0) = true := by simpa using h2
          clear h1 h2
          have HS := Lib.hid (sameWords_eq A3 A7 WN c3 c7 _ w7 hr37 hr7 HWM.out)
          go_wp2_with fail
          refine HS.out.mono ?_
          rintro e w9 ⟨rfl, hb9⟩
          have HS2 := Lib.hid (sameBools_eq A5 none 0 c5 0 [] w9 (hr57.later hb9) (hr8.later hb9) HLM.out)
          have hB9 := hB7.trans (hb9.mono hB7.size)
          have HT9 := Lib.hid (hT.later hB9)
          go_wp2_with fail
          refine HS2.out.mono ?_
          rintro e wx ⟨rfl, hbx⟩
          have hBx := hB9.trans (hbx.mono hB9.size)
          go_wp2_with fail
          refine (KV.out wx (hT.later hBx)).mono ?_
          rintro e wy ⟨rfl, hby⟩
          go_wp2_with fail
          go_ret
          exact ⟨rfl, hBx.trans (hby.mono hBx.size)⟩
        · subst h3
          have hLn := HLJ.out (by decide)
          subst hLn
          obtain rfl : 0 = LN := HLLN.out
          have hr8 : Reads w7 w7.heap.size 1 none 0 (([] : List Bool).map boolv) := Reads.none_
          have dm : decide ((4096 : Int) < (N : Int)) = false := by simpa using (show ¬ (4096 : Int) < N from by omega)
          have dl : decide (b < 0) = false := by simpa using (show ¬ b < 0 from by omega)
          have dh : decide (15 < b) = true := by simpa using h2
          clear h1 h2
          have HS := Lib.hid (sameWords_eq A3 A7 WN c3 c7 _ w7 hr37 hr7 HWM.out)
          go_wp2_with fail
          refine HS.out.mono ?_
          rintro e w9 ⟨rfl, hb9⟩
          have HS2 := Lib.hid (sameBools_eq A5 none 0 c5 0 [] w9 (hr57.later hb9) (hr8.later hb9) HLM.out)
          have hB9 := hB7.trans (hb9.mono hB7.size)
          have HT9 := Lib.hid (hT.later hB9)
          go_wp2_with fail
          refine HS2.out.mono ?_
          rintro e wx ⟨rfl, hbx⟩
          have hBx := hB9.trans (hbx.mono hB9.size)
          go_wp2_with fail
          refine (KV.out wx (hT.later hBx)).mono ?_
          rintro e wy ⟨rfl, hby⟩
          go_wp2_with fail
          go_ret
          exact ⟨rfl, hBx.trans (hby.mono hBx.size)⟩
        · subst h4
          have hLn := HLI.out rfl
          obtain ⟨bn, rfl⟩ : ∃ bn : Nat, b = bn := ⟨b.toNat, by omega⟩
          have hLN2 : LN = N := by rw [← HLLN.out, hLn]; unfold bitL; rw [List.length_map]; exact hW7.lenM
          have HRLn := Lib.hid (rLine_ok A' N c' bn ws w7 hW7 HWS.out h1 (by omega))
          rw [show bitL ws bn = LL from hLn.symm] at HRLn
          have dm : decide ((4096 : Int) < (N : Int)) = false := by simpa using (show ¬ (4096 : Int) < N from by omega)
          have dl : decide ((bn : Int) < 0) = false := decide_eq_false (by omega)
          have dh : decide ((15 : Int) < (bn : Int)) = false := by simpa using (show ¬ (15 : Int) < (bn : Int) from by omega)
          rw [← hLN2] at HRLn
          clear h1 h2 h3 hLn
          go_wp2_with fail
          rw [hLN2] at HRLn
          refine HRLn.out.mono ?_
          rintro e w8 ⟨v8, rfl, ho8, hb8⟩
          obtain ⟨A8, c8, rfl, _, _, hr8⟩ := own_slice ho8
          have hB8 := hB7.trans (hb8.mono hB7.size)
          have hr38 := hr37.later hb8
          have hr58 := hr57.later hb8
          have hr78 := hr7.later hb8
          clear HRLn ho8 hb8
          subst hLN2
          have HS := Lib.hid (sameWords_eq A3 A7 WN c3 c7 _ w8 hr38 hr78 HWM.out)
          go_wp2_with fail
          refine HS.out.mono ?_
          rintro e w9 ⟨rfl, hb9⟩
          have HS2 := Lib.hid (sameBools_eq A5 A8 LN c5 c8 LL w9 (hr58.later hb9) (hr8.later hb9) HLM.out)
          have hB9 := hB8.trans (hb9.mono hB8.size)
          have HT9 := Lib.hid (hT.later hB9)
          go_wp2_with fail
          refine HS2.out.mono ?_
          rintro e wx ⟨rfl, hbx⟩
          have hBx := hB9.trans (hbx.mono hB9.size)
          go_wp2_with fail
          refine (KV.out wx (hT.later hBx)).mono ?_
          rintro e wy ⟨rfl, hby⟩
          go_wp2_with fail
          go_ret
          exact ⟨rfl, hBx.trans (hby.mono hBx.size)⟩
      · have e0 : (E == 0) = false := by simpa using hE
        have e1 : decide (E = 0) = false := by simpa using hE
        have hWn := HWE.out hE
        subst hWn
        obtain rfl : 0 = WN := HWN.out
        have hr37 := hr36
        have hr57 := hr56
        have hB7 := hB6
        have hW7 := HW.out.later hB6
        have hr7 : Reads w6 w6.heap.size 1 none 0 (([] : List Nat).map u16v) := Reads.none_
        clear hB6 hr36 hr56 HWO HWE
        have HWM : Hid (0 ≤ maxLen) := by have := hr37.lenM; unfold Hid maxLen; have := HWB.out; omega
        have HLM : Hid (LN ≤ maxLen) := by have := HLB.out; have := HWSL.out; unfold Hid maxLen; omega
        have zz : decide ((LN : Int) = (LN : Int)) = true := by simp
        rcases HLC.out with ⟨h1, h2⟩ | ⟨h1, h2, h3⟩ | ⟨h1, h2, h3⟩ | ⟨h1, h2, h3, h4⟩
        · subst h2
          have hLn := HLJ.out (by decide)
          subst hLn
          obtain rfl : 0 = LN := HLLN.out
          have hr8 : Reads w6 w6.heap.size 1 none 0 (([] : List Bool).map boolv) := Reads.none_
          have dm : decide ((4096 : Int) < (N : Int)) = true := by simpa using (show (4096 : Int) < N from by omega)
          clear h1 
          have HS := Lib.hid (sameWords_eq A3 none 0 c3 0 _ w6 hr37 hr7 HWM.out)
          go_wp2_with fail
          refine HS.out.mono ?_
          rintro e w9 ⟨rfl, hb9⟩
          have HS2 := Lib.hid (sameBools_eq A5 none 0 c5 0 [] w9 (hr57.later hb9) (hr8.later hb9) HLM.out)
          have hB9 := hB7.trans (hb9.mono hB7.size)
          have HT9 := Lib.hid (hT.later hB9)
          go_wp2_with fail
          refine HS2.out.mono ?_
          rintro e wx ⟨rfl, hbx⟩
          have hBx := hB9.trans (hbx.mono hB9.size)
          go_wp2_with fail
          refine (KV.out wx (hT.later hBx)).mono ?_
          rintro e wy ⟨rfl, hby⟩
          go_wp2_with fail
          go_ret
          exact ⟨rfl, hBx.trans (hby.mono hBx.size)⟩
        · subst h3
          have hLn := HLJ.out (by decide)
          subst hLn
          obtain rfl : 0 = LN := HLLN.out
          have hr8 : Reads w6 w6.heap.size 1 none 0 (([] : List Bool).map boolv) := Reads.none_
          have dm : decide ((4096 : Int) < (N : Int)) = false := by simpa using (show ¬ (4096 : Int) < N from by omega)
          have dl : decide (b < 0) = true := by simpa using h2
          clear h1 h2
          have HS := Lib.hid (sameWords_eq A3 none 0 c3 0 _ w6 hr37 hr7 HWM.out)
          go_wp2_with fail
          refine HS.out.mono ?_
          rintro e w9 ⟨rfl, hb9⟩
          have HS2 := Lib.hid (sameBools_eq A5 none 0 c5 0 [] w9 (hr57.later hb9) (hr8.later hb9) HLM.out)
          have hB9 := hB7.trans (hb9.mono hB7.size)
          have HT9 := Lib.hid (hT.later hB9)
          go_wp2_with fail
          refine HS2.out.mono ?_
          rintro e wx ⟨rfl, hbx⟩
          have hBx := hB9.trans (hbx.mono hB9.size)
          go_wp2_with fail
          refine (KV.out wx (hT.later hBx)).mono ?_
          rintro e wy ⟨rfl, hby⟩
          go_wp2_with fail
          go_ret
          exact ⟨rfl, hBx.trans (hby.mono hBx.size)⟩
        · subst h3
          have hLn := HLJ.out (by decide)
          subst hLn
          obtain rfl : 0 = LN := HLLN.out
          have hr8 : Reads w6 w6.heap.size 1 none 0 (([] : List Bool).map boolv) := Reads.none_
          have dm : decide ((4096 : Int) < (N : Int)) = false := by simpa using (show ¬ (4096 : Int) < N from by omega)
          have dl : decide (b < 0) = false := by simpa using (show ¬ b < 0 from by omega)
          have dh : decide (15 < b) = true := by simpa using h2
          clear h1 h2
          have HS := Lib.hid (sameWords_eq A3 none 0 c3 0 _ w6 hr37 hr7 HWM.out)
          go_wp2_with fail
          refine HS.out.mono ?_
          rintro e w9 ⟨rfl, hb9⟩
          have HS2 := Lib.hid (sameBools_eq A5 none 0 c5 0 [] w9 (hr57.later hb9) (hr8.later hb9) HLM.out)
          have hB9 := hB7.trans (hb9.mono hB7.size)
          have HT9 := Lib.hid (hT.later hB9)
          go_wp2_with fail
          refine HS2.out.mono ?_
          rintro e wx ⟨rfl, hbx⟩
          have hBx := hB9.trans (hbx.mono hB9.size)
          go_wp2_with fail
          refine (KV.out wx (hT.later hBx)).mono ?_
          rintro e wy ⟨rfl, hby⟩
          go_wp2_with fail
          go_ret
          exact ⟨rfl, hBx.trans (hby.mono hBx.size)⟩
        · subst h4
          have hLn := HLI.out rfl
          obtain ⟨bn, rfl⟩ : ∃ bn : Nat, b = bn := ⟨b.toNat, by omega⟩
          have hLN2 : LN = N := by rw [← HLLN.out, hLn]; unfold bitL; rw [List.length_map]; exact hW7.lenM
          have HRLn := Lib.hid (rLine_ok A' N c' bn ws w6 hW7 HWS.out h1 (by omega))
          rw [show bitL ws bn = LL from hLn.symm] at HRLn
          have dm : decide ((4096 : Int) < (N : Int)) = false := by simpa using (show ¬ (4096 : Int) < N from by omega)
          have dl : decide ((bn : Int) < 0) = false := decide_eq_false (by omega)
          have dh : decide ((15 : Int) < (bn : Int)) = false := by simpa using (show ¬ (15 : Int) < (bn : Int) from by omega)
          rw [← hLN2] at HRLn
          clear h1 h2 h3 hLn
          go_wp2_with fail
          rw [hLN2] at HRLn
          refine HRLn.out.mono ?_
          rintro e w8 ⟨v8, rfl, ho8, hb8⟩
          obtain ⟨A8, c8, rfl, _, _, hr8⟩ := own_slice ho8
          have hB8 := hB7.trans (hb8.mono hB7.size)
          have hr38 := hr37.later hb8
          have hr58 := hr57.later hb8
          have hr78 := hr7.later hb8
          clear HRLn ho8 hb8
          subst hLN2
          have HS := Lib.hid (sameWords_eq A3 none 0 c3 0 _ w8 hr38 hr78 HWM.out)
          go_wp2_with fail
          refine HS.out.mono ?_
          rintro e w9 ⟨rfl, hb9⟩
          have HS2 := Lib.hid (sameBools_eq A5 A8 LN c5 c8 LL w9 (hr58.later hb9) (hr8.later hb9) HLM.out)
          have hB9 := hB8.trans (hb9.mono hB8.size)
          have HT9 := Lib.hid (hT.later hB9)
          go_wp2_with fail
          refine HS2.out.mono ?_
          rintro e wx ⟨rfl, hbx⟩
          have hBx := hB9.trans (hbx.mono hB9.size)
          go_wp2_with fail
          refine (KV.out wx (hT.later hBx)).mono ?_
          rintro e wy ⟨rfl, hby⟩
          go_wp2_with fail
          go_ret
          exact ⟨rfl, hBx.trans (hby.mono hBx.size)⟩

end Go.Proofs.YtboaojkblmddkaaGreatDoor

/- The law of words: for all lines, words and line numbers it returns true. -/
namespace Go.Proofs.YtboaojkblmddkaaGreatDoor
open Go.RowKit

/-- every input: true; nothing that was there has changed -/
theorem wordsLaw_any (A A' : Option Addr) (n c N c' : Nat) (b : Int) (rows : List (List Bool)) (ws : List Nat) (w : World) (hT : Tabs w) (h : RowsR boolv w w.heap.size A n rows) (hn : n ≤ maxLen)
    (hw : Reads w w.heap.size 1 A' N (ws.map u16v)) (hws : ∀ x ∈ ws, x < 65536) (hac : A' = none → c' = 0)
    (hz : ∀ (ad : Addr) (k L c2 : Nat), A = some ad → k < n → w.cell? (ad.add k) = some (.slice none L c2) → c2 = 0) :
    Calls Tryz.prog 5 #[.slice A n c, .slice A' N c', .int .i64 b] w fun e w' => e = .returned (.bool true) ∧ Below w.heap.size w w' := by
  by_cases h1 : n ≤ 18
  · by_cases h2 : LenOk N 64
    · by_cases h3 : ∀ r ∈ rows, LenOk r.length 40
      · exact words_main A A' n c N c' b rows ws w awake_ok hT h hw hws hac hz h1 h2 h3
      · refine words_turned A A' n c N c' b rows w awake_ok hT h hn (.inr (.inr ?_))
        exact Classical.byContradiction fun hx => h3 fun r hr => Classical.byContradiction fun hy => hx ⟨r, hr, hy⟩
    · exact words_turned A A' n c N c' b rows w awake_ok hT h hn (.inr (.inl h2))
  · exact words_turned A A' n c N c' b rows w awake_ok hT h hn (.inl (by omega))
end Go.Proofs.YtboaojkblmddkaaGreatDoor

/- Arguments opened: slices of bools and of words, slices of slices of bools. -/
namespace Go.Proofs.YtboaojkblmddkaaGreatDoor
open Go.RowKit Go.WideShapes Go.ChangeShapes Go.Deep

section
variable {H : Type} {enc : TypeId × Value → H} {P : Program} {w : World} {base fuel : Nat} {held : Bool} {t e q : TypeId} {cs : List Value} {x : DataW H × List MemPlace}

theorem trod_bol {spare : Nat → Bool} (ht : P.underlying t = some .bool) (h : DataW.trod enc P w base spare held fuel t cs = some x) : ∃ b : Bool, cs = [.bool b] := by
  cases fuel with
  | zero => simp [DataW.trod] at h
  | succ n =>
    unfold DataW.trod at h
    rw [ht] at h
    split at h <;> simp_all

/-- a slice of bools, read with its spare -/
theorem open_bols (ht : P.underlying t = some (.slice e)) (he : P.underlying e = some .bool) (hc : P.cellsOf e = 1) (h : DataW.trod enc P w base (fun _ => true) held fuel t cs = some x) :
    ∃ (A : Option Addr) (n c : Nat) (l : List Bool), cs = [.slice A n c] ∧ n ≤ c ∧ c ≤ maxLen ∧ (A = none → c = 0) ∧ l.length = n ∧ Reads w w.heap.size 1 A n (l.map boolv) := by
  rcases open_slice1 ht hc h with ⟨rfl, _⟩ | ⟨a, len, cap, m, n, V, D, Pl, rfl, _, hl, hm, hmm, _, hx⟩
  · exact ⟨none, 0, 0, [], rfl, Nat.le_refl _, Nat.zero_le _, fun _ => rfl, rfl, Reads.none_⟩
  · simp only [if_true] at hmm
    subst hmm
    obtain ⟨B, hB⟩ := choose_lt (α := Bool) (p := fun i b => V i = .bool b) (n := m) (fun i hi => by
      obtain ⟨b, hb⟩ := trod_bol he (hx i hi).2
      exact ⟨b, by simpa using hb⟩)
    refine ⟨some a, len, m, (List.range len).map B, rfl, hl, hm, (fun e => by cases e), by simp, by simp, fun hp => ⟨a, rfl, ?_, fun j u hu => ?_⟩⟩
    · have h0 := (hx 0 (by omega)).1
      have := World.block_lt_of_cell? w _ h0
      simpa [block_of_add] using this
    · have hj : j < len := by
        rcases Nat.lt_or_ge j len with h1 | h1
        · exact h1
        · rw [List.getElem?_eq_none (by simpa using h1)] at hu; cases hu
      have e1 := (hx j (by omega)).1
      rw [hB j (by omega)] at e1
      rw [List.getElem?_eq_getElem (by simpa using hj)] at hu
      injection hu with hu
      rw [e1, ← hu]
      simp [boolv]

/-- a slice of slices of bools -/
theorem open_bol_rows (ht : P.underlying t = some (.slice e)) (he : P.underlying e = some (.slice q)) (hq : P.underlying q = some .bool) (ce : P.cellsOf e = 1) (cq : P.cellsOf q = 1)
    (h : DataW.trod enc P w base (fun _ => true) held fuel t cs = some x) :
    ∃ (A : Option Addr) (n c : Nat) (rows : List (List Bool)), cs = [.slice A n c] ∧ n ≤ c ∧ c ≤ maxLen ∧ RowsR boolv w w.heap.size A n rows ∧
      ∀ (ad : Addr) (k L c2 : Nat), A = some ad → k < n → w.cell? (ad.add k) = some (.slice none L c2) → c2 = 0 := by
  rcases open_slice1 ht ce h with ⟨rfl, _⟩ | ⟨a, len, cap, m, n, V, D, Pl, rfl, _, hl, hm, hmm, _, hx⟩
  · exact ⟨none, 0, 0, [], rfl, Nat.le_refl _, Nat.zero_le _, ⟨rfl, [], Reads.none_, fun i hi => absurd hi (by simp)⟩, fun ad k L c2 e => by cases e⟩
  · simp only [if_true] at hmm
    subst hmm
    obtain ⟨y, hy⟩ := choose_lt (α := Option Addr × Nat × Nat × List Bool) (p := fun i y => V i = .slice y.1 y.2.1 y.2.2.1 ∧ y.2.1 ≤ y.2.2.1 ∧ y.2.2.1 ≤ maxLen ∧ (y.1 = none → y.2.2.1 = 0) ∧ y.2.2.2.length = y.2.1 ∧ Reads w w.heap.size 1 y.1 y.2.1 (y.2.2.2.map boolv)) (n := m) (fun i hi => by
      obtain ⟨A, n1, c1, l, h1, h2, h3, h4, h5, h6⟩ := open_bols he hq cq (hx i hi).2
      exact ⟨(A, n1, c1, l), by simpa using h1, h2, h3, h4, h5, h6⟩)
    have hcell : ∀ i, i < len → w.cell? (a.add i) = some (.slice (y i).1 (y i).2.1 (y i).2.2.1) := fun i hi => by
      have e1 := (hx i (by omega)).1
      rw [(hy i (by omega)).1] at e1
      exact e1
    refine ⟨some a, len, m, (List.range len).map fun i => (y i).2.2.2, rfl, hl, hm, ⟨by simp, (List.range len).map fun i => .slice (y i).1 (y i).2.1 (y i).2.2.1, ⟨by simp, fun hp => ⟨a, rfl, ?_, fun j u hu => ?_⟩⟩, fun i hi => ?_⟩, fun ad k L c2 e hk hc2 => ?_⟩
    · have := World.block_lt_of_cell? w _ (hcell 0 (by omega))
      simpa [block_of_add] using this
    · have hj : j < len := by
        rcases Nat.lt_or_ge j len with h1 | h1
        · exact h1
        · rw [List.getElem?_eq_none (by simpa using h1)] at hu; cases hu
      rw [List.getElem?_eq_getElem (by simpa using hj)] at hu
      injection hu with hu
      rw [hcell j hj, ← hu]
      simp
    · have hi' : i < len := by simpa using hi
      obtain ⟨_, h2, h3, _, h5, h6⟩ := hy i (by omega)
      refine ⟨(y i).1, (y i).2.2.1, ?_, ?_, h3, ?_⟩
      · rw [List.getElem?_eq_getElem (by simpa using hi')]
        simp [h5]
      · simpa [h5] using h2
      · simpa [h5] using h6
    · injection e with e
      subst e
      rw [hcell k hk] at hc2
      injection hc2 with hc2
      injection hc2 with h7 h8 h9
      have := (hy k (by omega)).2.2.2.1 h7
      omega

end
end Go.Proofs.YtboaojkblmddkaaGreatDoor

/- Arguments opened: a slice of words. -/
namespace Go.Proofs.YtboaojkblmddkaaGreatDoor
open Go.RowKit Go.WideShapes Go.ChangeShapes Go.Deep

section
variable {H : Type} {enc : TypeId × Value → H} {P : Program} {w : World} {base fuel : Nat} {held : Bool} {t e q : TypeId} {cs : List Value} {x : DataW H × List MemPlace}

theorem trod_u16 {spare : Nat → Bool} (ht : P.underlying t = some (.int .u16)) (h : DataW.trod enc P w base spare held fuel t cs = some x) : ∃ b : Nat, b < 65536 ∧ cs = [.int .u16 (b : Int)] := by
  obtain ⟨n0, hc, _, hwf⟩ := DataW.trod_int ht h
  have hw : (decide (IntKind.u16.min ≤ n0) && decide (n0 ≤ IntKind.u16.max)) = true := hwf
  have h1 : IntKind.u16.min = 0 := by decide
  have h2 : IntKind.u16.max = 65535 := by decide
  rw [h1, h2] at hw
  simp only [Bool.and_eq_true, decide_eq_true_eq] at hw
  exact ⟨n0.toNat, by omega, by rw [hc]; congr 2; omega⟩

/-- a slice of words, read with its spare -/
theorem open_u16s (ht : P.underlying t = some (.slice e)) (he : P.underlying e = some (.int .u16)) (hc : P.cellsOf e = 1) (h : DataW.trod enc P w base (fun _ => true) held fuel t cs = some x) :
    ∃ (A : Option Addr) (n c : Nat) (l : List Nat), cs = [.slice A n c] ∧ n ≤ c ∧ c ≤ maxLen ∧ (A = none → c = 0) ∧ l.length = n ∧ (∀ x ∈ l, x < 65536) ∧ Reads w w.heap.size 1 A n (l.map u16v) := by
  rcases open_slice1 ht hc h with ⟨rfl, _⟩ | ⟨a, len, cap, m, n, V, D, Pl, rfl, _, hl, hm, hmm, _, hx⟩
  · exact ⟨none, 0, 0, [], rfl, Nat.le_refl _, Nat.zero_le _, fun _ => rfl, rfl, (fun x h => by cases h), Reads.none_⟩
  · simp only [if_true] at hmm
    subst hmm
    obtain ⟨B, hB⟩ := choose_lt (α := Nat) (p := fun i b => V i = .int .u16 (b : Int) ∧ b < 65536) (n := m) (fun i hi => by
      obtain ⟨b, hlt, hb⟩ := trod_u16 he (hx i hi).2
      exact ⟨b, by simpa using hb, hlt⟩)
    refine ⟨some a, len, m, (List.range len).map B, rfl, hl, hm, (fun e => by cases e), by simp, (fun x h => by obtain ⟨i, hi, rfl⟩ := List.mem_map.1 h; exact (hB i (by have := List.mem_range.1 hi; omega)).2), by simp, fun hp => ⟨a, rfl, ?_, fun j u hu => ?_⟩⟩
    · have h0 := (hx 0 (by omega)).1
      have := World.block_lt_of_cell? w _ h0
      simpa [block_of_add] using this
    · have hj : j < len := by
        rcases Nat.lt_or_ge j len with h1 | h1
        · exact h1
        · rw [List.getElem?_eq_none (by simpa using h1)] at hu; cases hu
      have e1 := (hx j (by omega)).1
      rw [(hB j (by omega)).1] at e1
      rw [List.getElem?_eq_getElem (by simpa using hj)] at hu
      injection hu with hu
      rw [e1, ← hu]
      simp [u16v]

end
end Go.Proofs.YtboaojkblmddkaaGreatDoor
