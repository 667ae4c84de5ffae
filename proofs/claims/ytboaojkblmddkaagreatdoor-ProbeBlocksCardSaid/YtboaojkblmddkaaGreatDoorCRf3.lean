/- The reference's CheckRecords. -/
import Derived.Test.YtboaojkblmddkaaGreatDoorCRf1
import Derived.Test.YtboaojkblmddkaaGreatDoorCAw8
import Derived.Test.YtboaojkblmddkaaGreatDoorCAwj
namespace Go.Proofs.YtboaojkblmddkaaGreatDoor
open Go.RowKit
open Flt

def smallS (s : Int) : Bool := decide (-1000 ≤ s) && decide (s ≤ 1000)
/-- the error of records and skews by themselves -/
def recE (rows : List (List Nat)) (sk : List Int) : Int :=
  if rows.length = 0 then 12 else if 8 < rows.length then 5 else if firstE (rows.map smpE) ≠ 0 then firstE (rows.map smpE) else if sk.length ≠ rows.length then 2 else if sk.all smallS = true then 0 else 3

set_option maxHeartbeats 2000000 in
set_option maxRecDepth 100000 in
theorem rCheckRecords_any (A A' : Option Addr) (n c n' c' : Nat) (rows : List (List Nat)) (sk : List Int) (w : World) (h : RowsR f32v w w.heap.size A n rows) (h' : Reads w w.heap.size 1 A' n' (sk.map i64v)) (hn : n ≤ maxLen) (hn' : n' ≤ maxLen) :
    Calls Tryz.prog 42 #[.slice A n c, .slice A' n' c'] w fun e w' => e = .returned (.int .i64 (recE rows sk)) ∧ Below w.heap.size w w' := by
  unfold maxLen at hn hn'
  have hl := h.1
  have hl' := h'.lenM
  by_cases hz : n = 0
  · have hv : Hid (recE rows sk = 12) := by unfold Hid recE; rw [if_pos (by omega)]
    have hd : ((n : Int) == 0) = true := by rw [beq_iff_eq]; omega
    clear hl hl' hz
    go_enter Tryz.func42, Tryz.ntmps42
    go_wp2
    go_ret
    exact ⟨by rw [hv.out]; rfl, Below.refl _ _⟩
  · have hd0 : ((n : Int) == 0) = false := by rw [beq_eq_false_iff_ne]; omega
    by_cases h8 : 8 < n
    · have hv : Hid (recE rows sk = 5) := by unfold Hid recE; rw [if_neg (by omega), if_pos (by omega)]
      have hd : decide (8 < n) = true := by simpa using h8
      clear hl hl' hz
      go_enter Tryz.func42, Tryz.ntmps42
      go_wp2
      go_ret
      exact ⟨by rw [hv.out]; rfl, Below.refl _ _⟩
    · have hd8 : decide (8 < n) = false := by simpa using h8
      have HL := Lib.hid hl
      have HL' := Lib.hid hl'
      clear hl hl'
      go_enter Tryz.func42, Tryz.ntmps42
      go_wp2
      go_loopg [5] n (fun m s W => ∃ k : Nat, k ≤ n ∧ s = .int .i64 k ∧ n - k ≤ m ∧ Hid (firstE (rows.map smpE) = firstE ((rows.map smpE).drop k)) ∧ Below w.heap.size w W)
      case atStart => exact ⟨0, Nat.zero_le _, rfl, by omega, rfl, Below.refl _ _⟩
      case round =>
        obtain ⟨k, hk, rfl, hm, hf, hbel⟩ := hrel
        by_cases h0 : k < n
        · obtain ⟨ad, hkl, A1, c1, rfl, hbb, hcell, hlc, hcm, hrd⟩ := (h.below hbel).row h0
          have hkm : k < (rows.map smpE).length := by rw [List.length_map]; exact hkl
          have hf2 := hf.out
          rw [List.drop_eq_getElem_cons hkm, List.getElem_map] at hf2
          have hC := rCheckSamples_any A1 rows[k].length c1 rows[k] wr (hrd.more hbel.size) (by unfold maxLen at *; omega)
          generalize rows[k].length = L at *
          generalize smpE rows[k] = x at *
          have HC := Lib.hid hC
          by_cases hx : x = 0
          · subst hx
            have hf3 : Hid (firstE (rows.map smpE) = firstE ((rows.map smpE).drop (k + 1))) := by unfold Hid; rw [hf2]; rfl
            clear hf2 hC
            go_wp2_with fail
            refine HC.out.mono ?_
            rintro e w1 ⟨rfl, hb1⟩
            go_wp2_with fail
            go_roundg (n - (k + 1))
            case measure => omega
            case rel => exact ⟨k + 1, by omega, by go_num, Nat.le_refl _, hf3, hbel.trans (hb1.mono hbel.size)⟩
          · have hv : Hid (recE rows sk = x) := by
              have e : firstE (rows.map smpE) = x := by rw [hf2]; unfold firstE; rw [if_pos hx]
              unfold Hid recE
              rw [if_neg (by have := HL.out; omega), if_neg (by have := HL.out; omega), if_pos (by rw [e]; exact hx), e]
            have hx1 : (x != 0) = true := by simpa using hx
            clear hf2 hC hx
            go_wp2_with fail
            refine HC.out.mono ?_
            rintro e w1 ⟨rfl, hb1⟩
            go_wp2_with fail
            go_ret
            exact ⟨by rw [hv.out]; rfl, hbel.trans (hb1.mono hbel.size)⟩
        · have hff : firstE (rows.map smpE) = 0 := by
            rw [hf.out, List.drop_eq_nil_of_le (by rw [List.length_map]; have := HL.out; omega)]; rfl
          have HFF := Lib.hid hff
          clear hff
          by_cases hnn : n' = n
          · have hde : ((n' : Int) != (n : Int)) = false := by rw [hnn]; simp
            have hrE : recE rows sk = if sk.all smallS = true then 0 else 3 := by
              unfold recE
              rw [if_neg (by have := HL.out; omega), if_neg (by have := HL.out; omega), if_neg (by rw [HFF.out]; exact fun h => h rfl), if_neg (by have := HL.out; have := HL'.out; omega)]
            have HRE := Lib.hid hrE
            clear hrE hnn
            go_wp2
            go_loopg [7] n' (fun m s W => ∃ j : Nat, j ≤ n' ∧ s = .int .i64 j ∧ n' - j ≤ m ∧ Hid ((sk.take j).all smallS = true) ∧ Below w.heap.size w W)
            case atStart => exact ⟨0, Nat.zero_le _, rfl, by omega, by simp [Hid], hbel⟩
            case round =>
              obtain ⟨j, hj, rfl, hm2, ha, hbel2⟩ := hrel
              by_cases hjn : j < n'
              · obtain ⟨ad, hjl, rfl, hbb, hcell⟩ := (h'.below hbel2).cellM hjn
                have hs : (sk.take (j + 1)).all smallS = ((sk.take j).all smallS && smallS sk[j]) := by
                  rw [List.take_succ_eq_append_getElem hjl, List.all_append]; simp
                have hsa : sk.all smallS = true → smallS sk[j] = true := fun hal => List.all_eq_true.1 hal _ (List.getElem_mem hjl)
                unfold i64v at hcell
                generalize sk[j] = x at *
                rw [ha.out, Bool.true_and] at hs
                by_cases hx1 : x < -1000
                · have hv : Hid (recE rows sk = 3) := by
                    unfold Hid
                    rw [HRE.out, if_neg (fun h => by have := hsa h; unfold smallS at this; simp at this; omega)]
                  have hd : decide (x < -1000) = true := by simpa using hx1
                  clear hs hsa
                  go_wp2
                  go_ret
                  exact ⟨by rw [hv.out]; rfl, hbel2⟩
                · have hd1 : decide (x < -1000) = false := by simpa using hx1
                  by_cases hx2 : 1000 < x
                  · have hv : Hid (recE rows sk = 3) := by
                      unfold Hid
                      rw [HRE.out, if_neg (fun h => by have := hsa h; unfold smallS at this; simp at this; omega)]
                    have hd : decide (1000 < x) = true := by simpa using hx2
                    clear hs hsa
                    go_wp2
                    go_ret
                    exact ⟨by rw [hv.out]; rfl, hbel2⟩
                  · have hd2 : decide (1000 < x) = false := by simpa using hx2
                    have hs2 : Hid ((sk.take (j + 1)).all smallS = true) := by
                      unfold Hid
                      rw [hs]; unfold smallS; simp; omega
                    clear hs hsa
                    go_wp2
                    go_roundg (n' - (j + 1))
                    case measure => omega
                    case rel => exact ⟨j + 1, by omega, by go_num, Nat.le_refl _, hs2, hbel2⟩
              · have hv : Hid (recE rows sk = 0) := by
                  have ha2 := ha.out
                  rw [List.take_of_length_le (by have := HL'.out; omega)] at ha2
                  unfold Hid
                  rw [HRE.out, if_pos ha2]
                go_wp2
                go_ret
                exact ⟨by rw [hv.out]; rfl, hbel2⟩
          · have hde : ((n' : Int) != (n : Int)) = true := by rw [bne_iff_ne]; omega
            have hv : Hid (recE rows sk = 2) := by
              unfold Hid recE
              rw [if_neg (by have := HL.out; omega), if_neg (by have := HL.out; omega), if_neg (by rw [HFF.out]; exact fun h => h rfl), if_pos (by have := HL.out; have := HL'.out; omega)]
            clear hnn
            go_wp2
            go_ret
            exact ⟨by rw [hv.out]; rfl, hbel⟩

end Go.Proofs.YtboaojkblmddkaaGreatDoor

/- Contracts of probe's checkTimes and FromChanges, of the changes of a line. -/
namespace Go.Proofs.YtboaojkblmddkaaGreatDoor
open Go.RowKit

theorem range_ok {n a b : Int} (h1 : a ≤ n) (h2 : n ≤ b) : rangeE n a b = 0 := by unfold rangeE; rw [if_neg (by omega)]

set_option maxHeartbeats 1000000 in
theorem checkTimes_ok (A : Option Addr) (N c n : Nat) (ts : List Nat) (w : World) (h : Reads w w.heap.size 1 A N (ts.map natv)) (hlt : ∀ i t : Nat, ts[i]? = some t → t < n) (hs : ∀ i j s t : Nat, i < j → ts[i]? = some s → ts[j]? = some t → s < t) (hn : n ≤ 4096) (hN : N ≤ 4096) :
    Calls Tryz.prog 65 #[.slice A N c, .int .i64 n] w fun e w' => e = .returned (.int .i64 0) ∧ w = w' := by
  have HLT := Lib.hid hlt
  have HS := Lib.hid hs
  clear hlt hs
  go_enter Tryz.func65, Tryz.ntmps65
  go_wp2
  go_loop [5, 11] (fun p s => ∃ k : Nat, k ≤ N ∧ s = .int .i64 k ∧ ∃ last : Int, p = .int .i64 last ∧ -1 ≤ last ∧ last < n ∧ Hid (∀ t, ts[k]? = some t → last < (t : Int))) (fun _ s => N - (intOf s).toNat)
  case atStart => exact ⟨0, Nat.zero_le _, rfl, -1, rfl, by omega, by omega, fun t _ => by omega⟩
  case round =>
    obtain ⟨k, hk, rfl, last, rfl, hl1, hl2, hl3⟩ := hrel
    by_cases h0 : k < N
    · obtain ⟨ad, hkl, rfl, hbb, hcell⟩ := h.cellM h0
      have hg : ts[k]? = some ts[k] := List.getElem?_eq_getElem hkl
      have h4 := HLT.out k _ hg
      have h5 := hl3.out _ hg
      have h6 : ∀ t, ts[k + 1]? = some t → ((ts[k] : Nat) : Int) < (t : Int) := fun t ht => by
        have := HS.out k (k + 1) _ t (by omega) hg ht
        omega
      have H6 := Lib.hid h6
      unfold natv at hcell
      clear h6 hg
      generalize ts[k] = t at *
      have hw1 : wrap64 ((n : Int) - 1) = (n : Int) - 1 := IntWalk.wrap64_in _ (by omega)
      have hd : decide ((t : Int) ≤ last) = false := by simpa using (show ¬ ((t : Int) ≤ last) from by omega)
      have hR := cinRange_any (t : Int) 0 ((n : Int) - 1) w
      rw [range_ok (by omega) (by omega)] at hR
      have HR := Lib.hid hR
      clear hR
      go_wp2_with fail
      refine HR.out.mono ?_
      rintro e w1 ⟨rfl, rfl⟩
      go_wp2
      go_round
      case rel => exact ⟨k + 1, by omega, by go_num, (t : Int), rfl, by omega, by omega, H6.out⟩
      case measure => simp [intOf]; omega
    · go_wp2
      go_ret
      exact ⟨rfl, rfl⟩

/-- the line while it is laid -/
def lnRow (l : List Bool) (n k : Nat) : List Value := (l.take k).map boolv ++ List.replicate (n - k) (.bool false)

set_option maxHeartbeats 2000000 in
set_option maxRecDepth 100000 in
theorem fromChanges_ok (A : Option Addr) (c n : Nat) (b : Bool) (l : List Bool) (w : World) (h : Reads w w.heap.size 1 A (chg b l n).length ((chg b l n).map natv)) (hl : l.length = n) (hn : n ≤ 4096) :
    Calls Tryz.prog 24 #[.slice A (chg b l n).length c, .bool b, .int .i64 n] w fun e w' => ∃ g, e = .returned (.tuple #[.slice (some ⟨g, 0, none⟩) n n, .int .i64 0]) ∧ w'.ownsRow w.heap.size 4 1 (.slice (some ⟨g, 0, none⟩) n n) n (l.map boolv) ∧ Below w.heap.size w w' := by
  obtain ⟨i0, hi0, hz0, hz1, hz2⟩ := info_parts info_bool
  have hN := chg_len b l n
  have e1 : (if (4096 : Int) < ((chg b l n).length : Int) then (5 : Int) else 0) = 0 := if_neg (by omega)
  have H1 := catMost_int A (chg b l n).length c 4096 w
  rw [e1] at H1
  have H2 := cinRange_any (n : Int) 0 4096 w
  rw [range_ok (by omega) (by omega)] at H2
  have H3 := checkTimes_ok A (chg b l n).length c n (chg b l n) w h (fun i t ht => chg_mem (List.mem_of_getElem? ht)) (fun i j s t hij hi hj => chg_lt b l n i j s t hij hi hj) hn (by omega)
  have K1 := Lib.hid H1
  have K2 := Lib.hid H2
  have K3 := Lib.hid H3
  have HL := Lib.hid hl
  clear H1 H2 H3 e1 hl
  generalize hT : chg b l n = T at *
  have HT := Lib.hid hT
  clear hT
  generalize hTN : T.length = N at *
  have HTN := Lib.hid hTN
  clear hTN
  go_enter Tryz.func24, Tryz.ntmps24
  go_wp2_with fail
  refine K1.out.mono ?_
  rintro e w1 ⟨rfl, rfl⟩
  go_wp2_with fail
  refine K2.out.mono ?_
  rintro e w1 ⟨rfl, rfl⟩
  go_wp2_with fail
  refine K3.out.mono ?_
  rintro e w1 ⟨rfl, rfl⟩
  go_wp2_with fail
  refine (cfirst_three w 29 w.heap.size rfl).mono ?_
  rintro e w1 ⟨rfl, rfl⟩
  have hb1 : Below w.heap.size w (w.alloc (.cells #[.int .i64 0, .int .i64 0, .int .i64 0] 29)) := (Below.refl _ _).alloc (Nat.le_refl _) _
  generalize w.alloc (.cells #[.int .i64 0, .int .i64 0, .int .i64 0] 29) = w1 at *
  go_wp2_with (at_make; refine wpList_make_full _ rfl _ _ 26 rfl w1.heap.size 4 i0 (.bool false) 1 Tryz.underlying26 hi0 hz0 hz1 _ _ _ _ n rfl rfl (by omega) (by omega) ?b2 ?b3 (Nat.le_refl _) ?_)
  case b2 => rw [hz2]; omega
  case b3 => unfold maxLen; omega
  intro w2 hown0 hgrow0
  rw [toList_madeCells_one] at hown0
  have hB2 : Below w.heap.size w w2 := hb1.trans ((gnone hgrow0 (Nat.le_refl _)).mono hb1.size)
  have hle := hb1.size
  have hown1 : w2.ownsRow w1.heap.size 4 1 (.slice (some ⟨w1.heap.size, 0, none⟩) n n) n (lnRow l n 0) := by
    unfold lnRow
    rw [set_start]
    simpa using hown0
  clear hown0 hgrow0
  generalize w1.heap.size = G at *
  go_wp2
  go_loopg [10, 11, 30] n (fun q p s5 s W => ∃ k : Nat, k ≤ n ∧ s = .int .i64 k ∧ n - k ≤ q ∧ p = .bool (prv b l k) ∧ (∃ j : Nat, s5 = .int .i64 j ∧ j ≤ k ∧ Hid (j = (chg b l k).length)) ∧ W.ownsRow G 4 1 (.slice (some ⟨G, 0, none⟩) n n) n (lnRow l n k) ∧ Below w.heap.size w W)
  case atStart => exact ⟨0, Nat.zero_le _, rfl, by omega, rfl, ⟨0, rfl, Nat.le_refl _, rfl⟩, hown1, hB2⟩
  case round =>
    obtain ⟨k, hk, rfl, hq, rfl, ⟨j, rfl, hjk, hj⟩, hown, hbel⟩ := hrel
    by_cases h0 : k < n
    · have hkl : k < l.length := by have := HL.out; omega
      have hcb := chgB_prv b l k hkl
      have hnx := prv_next b l k hkl
      have hsu := chg_succ b l k
      have hnt := chg_next b l n k h0
      have hss := set_step boolv l (.bool false) n k hkl HL.out
      have hcl := chg_len b l (k + 1)
      rw [hcb] at hsu hnt
      rw [← hj.out, HT.out] at hnt
      generalize l[k] = x at *
      generalize prv b l k = p at *
      have HN := Lib.hid hnx
      have HSS := Lib.hid hss
      clear hcb hnx hss
      obtain ⟨v0, hc0⟩ := own_cell hown k h0
      have hf0 := own_free hown k
      have hrd := h.below hbel
      by_cases hxp : (x != p) = true
      · rw [hxp, if_pos rfl] at hsu
        have hjt := hnt.1 hxp
        have hjN : j < N := by
          have := (List.getElem?_eq_some_iff.1 hjt).1
          have := HTN.out
          omega
        obtain ⟨ad, hjl, rfl, hbb, hcell⟩ := hrd.cellM hjN
        have hjv : T[j] = k := by
          rw [List.getElem?_eq_getElem hjl] at hjt
          injection hjt
        rw [hjv] at hcell
        unfold natv at hcell
        have hj2 : Hid (j + 1 = (chg b l (k + 1)).length) := by
          unfold Hid
          rw [hsu, List.length_append, ← hj.out]; rfl
        clear hsu hnt hjt hjv hrd
        cases x <;> cases p <;> first | exact absurd hxp (by decide) | clear hxp
        all_goals
          go_wp2
          go_roundg (n - (k + 1))
          case measure => omega
          case rel => exact ⟨k + 1, by omega, by go_num, Nat.le_refl _, by rw [HN.out], ⟨j + 1, by go_num, by omega, hj2⟩, by first | (have h9 := own_set hown k (boolv true); unfold lnRow at h9; rw [HSS.out] at h9; exact h9) | (have h9 := own_set hown k (boolv false); unfold lnRow at h9; rw [HSS.out] at h9; exact h9), hbel.setCell (p := ⟨G, k, none⟩) hle _⟩
      · have hxp' : (x != p) = false := by simpa using hxp
        rw [hxp', if_neg (by decide), List.append_nil] at hsu
        have hj2 : Hid (j = (chg b l (k + 1)).length) := by
          unfold Hid
          rw [hsu]; exact hj.out
        have hnt2 := hnt.2 hxp'
        clear hsu hnt hxp
        by_cases hjN : j < N
        · obtain ⟨ad, hjl, rfl, hbb, hcell⟩ := hrd.cellM hjN
          have hkt := hnt2 T[j] (List.getElem?_eq_getElem hjl)
          unfold natv at hcell
          generalize T[j] = t at *
          have htk : ((t : Int) == (k : Int)) = false := by rw [beq_eq_false_iff_ne]; omega
          clear hnt2 hrd
          cases x <;> cases p <;> first | exact absurd hxp' (by decide) | clear hxp'
          all_goals
            go_wp2
            go_roundg (n - (k + 1))
            case measure => omega
            case rel => exact ⟨k + 1, by omega, by go_num, Nat.le_refl _, by rw [HN.out], ⟨j, by go_num, by omega, hj2⟩, by first | (have h9 := own_set hown k (boolv true); unfold lnRow at h9; rw [HSS.out] at h9; exact h9) | (have h9 := own_set hown k (boolv false); unfold lnRow at h9; rw [HSS.out] at h9; exact h9), hbel.setCell (p := ⟨G, k, none⟩) hle _⟩
        · have hd : decide (j < N) = false := by simpa using hjN
          clear hnt2 hrd
          cases x <;> cases p <;> first | exact absurd hxp' (by decide) | clear hxp'
          all_goals
            go_wp2
            go_roundg (n - (k + 1))
            case measure => omega
            case rel => exact ⟨k + 1, by omega, by go_num, Nat.le_refl _, by rw [HN.out], ⟨j, by go_num, by omega, hj2⟩, by first | (have h9 := own_set hown k (boolv true); unfold lnRow at h9; rw [HSS.out] at h9; exact h9) | (have h9 := own_set hown k (boolv false); unfold lnRow at h9; rw [HSS.out] at h9; exact h9), hbel.setCell (p := ⟨G, k, none⟩) hle _⟩
    · obtain rfl : k = n := by omega
      unfold lnRow at hown
      rw [set_stop boolv l _ k HL.out] at hown
      go_wp2
      go_ret2
      exact ⟨_, rfl, own_mono hown hle, hbel⟩

end Go.Proofs.YtboaojkblmddkaaGreatDoor

/- ProbeToggles: copies of samples; where a guard of the law strikes. -/
namespace Go.Proofs.YtboaojkblmddkaaGreatDoor
open Go.RowKit Bn
open Flt

theorem Reads.cellsAll {w : World} {B n : Nat} {a : Addr} {xs : List Value} (h : Reads w B 1 (some a) n xs) : ∀ j u, xs[j]? = some u → w.cell? (a.add j) = some u := by
  intro j u hu
  have hl := h.1
  have hj : j < xs.length := by
    rcases Nat.lt_or_ge j xs.length with h1 | h1
    · exact h1
    · rw [List.getElem?_eq_none h1] at hu; cases hu
  obtain ⟨ad, e, _, hc⟩ := h.2 (by omega)
  injection e with e
  subst e
  exact hc j u hu

set_option maxHeartbeats 2000000 in
theorem floats_ok (A : Option Addr) (n c : Nat) (l : List Nat) (w : World) (h : Reads w w.heap.size 1 A n (l.map f32v)) (hn : n ≤ 140737488355328 / 8) (hc : A = none → c = 0) :
    Calls Tryz.prog 14 #[.slice A n c] w fun e w' => ∃ A' c', e = .returned (.slice A' n c') ∧ n ≤ c' ∧ c' ≤ maxLen ∧ Reads w' w'.heap.size 1 A' n (l.map f32v) ∧ Below w.heap.size w w' := by
  have hL := h.lenM
  have hbA : Below w.heap.size w (w.alloc (.cells #[] 23)) := (Below.refl _ _).alloc (Nat.le_refl _) _
  cases A with
  | none =>
    obtain rfl := hc rfl
    have hl : l = [] := by
      cases l with
      | nil => rfl
      | cons x t =>
        obtain ⟨ad9, e9, _⟩ := h.2 (by simp at hL; omega)
        cases e9
    subst hl
    obtain rfl : 0 = n := hL
    clear h hc
    go_enter Tryz.func14, Tryz.ntmps14
    go_wp2
    go_ret
    exact ⟨_, _, rfl, Nat.le_refl _, Nat.zero_le _, ⟨rfl, fun h0 => absurd h0 (by omega)⟩, hbA⟩
  | some a1 =>
    obtain ⟨i0, hi0, hz0, hz1, hz2⟩ := info_parts info_f32
    have hone : ∀ u ∈ l.map f32v, u.oneCell' = true := f32v_one l
    have HONE := Lib.hid hone
    have HRD := Lib.hid h
    clear h hone hc
    go_enter Tryz.func14, Tryz.ntmps14
    go_wp2_with (at_builtin; refine wpList_append_own _ rfl _ _ 22 rfl w.heap.size 23 i0 (.float .f32 0) 1 4 Tryz.underlying22 hi0 hz0 hz1 hz2 rfl (by decide) _ _ _ rfl (own_empty w w.heap.size 23 (Nat.le_refl _)) a1 n c (l.map f32v) rfl ?c0 ?c1 ?c2 ?c3 ?c4 ?c5 ?_)
    case c0 => rw [List.length_map]; omega
    case c1 => exact (HRD.out.below ((Below.refl _ _).alloc (Nat.le_refl _) _)).cellsAll
    case c2 => exact HONE.out
    case c3 => unfold maxLen; omega
    case c4 => omega
    case c5 => simp
    intro v1 w3 hown1 hgrow1 _
    have hb3 : Below w.heap.size w w3 := hbA.grown hgrow1 (by simp) (fun g hg => by simp [Value.ownBlock] at hg; omega)
    obtain ⟨A3, c3, rfl, hlc3, hcm3, hr3⟩ := own_slice hown1
    clear hgrow1 hown1 hbA
    go_wp2
    go_ret
    exact ⟨A3, c3, rfl, hlc3, hcm3, hr3, hb3⟩

set_option maxHeartbeats 2000000 in
set_option maxRecDepth 100000 in
/-- a guard of the law turns the input away: the chapter's examples answer -/
theorem tog_turned (A : Option Addr) (n c lo hi : Nat) (l : List Nat) (w : World) (hT : Tabs w) (h : Reads w w.heap.size 1 A n (l.map f32v)) (hn : n ≤ maxLen)
    (hg : 64 < n ∨ smpE l ≠ 0 ∨ levE lo hi ≠ 0) :
    Calls Tryz.prog 8 #[.slice A n c, .agg #[.float .f32 lo, .float .f32 hi]] w fun e w' => e = .returned (.bool true) ∧ Below w.heap.size w w' := by
  have hb0 : Below w.heap.size w (w.alloc (.cells #[.float .f32 lo, .float .f32 hi] 25)) := (Below.refl _ _).alloc (Nat.le_refl _) _
  have q0 : CBlk (w.alloc (.cells #[.float .f32 lo, .float .f32 hi] 25)) w.heap.size #[.float .f32 lo, .float .f32 hi] 25 := CBlk.new w _ _ _ rfl
  have K1 := Lib.hid (rCheckSamples_any A n c l _ (h.later hb0) hn)
  have K2 := Lib.hid (fun W => rCheckLevels_any lo hi W)
  have KV := Lib.hid (fun W hT => awake_ok W hT)
  have hT1 := hT.later hb0
  unfold maxLen at hn
  clear h
  by_cases h1 : 64 < n
  · have d1 : decide ((64 : Int) < (n : Int)) = true := by simpa using (show (64 : Int) < n from by omega)
    clear hg
    go_enter Tryz.func8, Tryz.ntmps8
    go_wp2_with fail
    refine (KV.out _ hT1).mono ?_
    rintro e w2 ⟨rfl, hb2⟩
    go_wp2_with fail
    go_ret
    exact ⟨rfl, hb0.trans (hb2.mono hb0.size)⟩
  · have d1 : decide ((64 : Int) < (n : Int)) = false := by simpa using (show ¬ ((64 : Int) < n) from by omega)
    by_cases h2 : smpE l = 0
    · have h3 : levE lo hi ≠ 0 := (hg.resolve_left h1).resolve_left (fun h => h h2)
      generalize smpE l = r at *
      generalize levE lo hi = v at *
      subst h2
      have d3 : (v == 0) = false := by simpa using h3
      have d4 : (v != 0) = true := by simpa using h3
      have d5 : decide (v = 0) = false := by simpa using h3
      clear hg h1 h3
      go_enter Tryz.func8, Tryz.ntmps8
      go_wp2_with fail
      refine K1.out.mono ?_
      rintro e w1 ⟨rfl, hb1⟩
      have hB1 := hb0.trans (hb1.mono hb0.size)
      have q1 := q0.below hb1 q0.lt
      have x0 := q1.cell 0
      have x1 := q1.cell 1
      go_wp2_with fail
      refine (K2.out w1).mono ?_
      rintro e w2 ⟨rfl, hb2⟩
      have hB2 := hB1.trans (hb2.mono hB1.size)
      have hT2 := hT.later hB2
      go_wp2_with fail
      refine (KV.out w2 hT2).mono ?_
      rintro e w3 ⟨rfl, hb3⟩
      go_wp2_with fail
      go_ret
      exact ⟨rfl, hB2.trans (hb3.mono hB2.size)⟩
    · generalize smpE l = r at *
      have d3 : (r == 0) = false := by simpa using h2
      have d4 : (r != 0) = true := by simpa using h2
      have d5 : decide (r = 0) = false := by simpa using h2
      have d6 : decide (r ≠ 0) = true := by simpa using h2
      clear hg h1 h2
      go_enter Tryz.func8, Tryz.ntmps8
      go_wp2_with fail
      refine K1.out.mono ?_
      rintro e w1 ⟨rfl, hb1⟩
      have hB1 := hb0.trans (hb1.mono hb0.size)
      have hT2 := hT.later hB1
      go_wp2_with fail
      refine (KV.out w1 hT2).mono ?_
      rintro e w3 ⟨rfl, hb3⟩
      go_wp2_with fail
      go_ret
      exact ⟨rfl, hB1.trans (hb3.mono hB1.size)⟩

end Go.Proofs.YtboaojkblmddkaaGreatDoor
