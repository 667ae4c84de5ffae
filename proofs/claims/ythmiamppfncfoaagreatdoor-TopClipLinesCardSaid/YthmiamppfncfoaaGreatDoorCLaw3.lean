/- The law of lines, from its guards on: own copies, the aligned records. -/
import Derived.Test.YthmiamppfncfoaaGreatDoorCVolt
import Derived.Test.YthmiamppfncfoaaGreatDoorCAlg
import Derived.Test.YthmiamppfncfoaaGreatDoorCLin
import Derived.Test.YthmiamppfncfoaaGreatDoorCChg
import Derived.Test.YthmiamppfncfoaaGreatDoorCPl2
import Derived.Test.YthmiamppfncfoaaGreatDoorCWd2
import Derived.Test.YthmiamppfncfoaaGreatDoorCUnp
import Derived.Deep.RegionHeld3
import Derived.BigQuiet
namespace Go.Proofs.YthmiamppfncfoaaGreatDoor
open Go.RowKit Bn
open Flt

theorem Reads.cellsAt {w : World} {B n : Nat} {a : Addr} {xs : List Value} (h : Reads w B 1 (some a) n xs) : ∀ j u, xs[j]? = some u → w.cell? (a.add j) = some u := by
  intro j u hu
  have hl := h.1
  have hj : j < xs.length := by
    rcases Nat.lt_or_ge j xs.length with h1 | h1
    · exact h1
    · rw [List.getElem?_eq_none h1] at hu; cases hu
  obtain ⟨ad, e, _, hc⟩ := h.2 (by omega)
  injection e with e
  subst e
  exact hc j u hu
theorem info_bls : (Tryz.prog.info? 35).map (fun i => (i.zero, i.size, i.bytes)) = some (some (.slice none 0 0), 1, 24) := by kernel_rfl
theorem algR_get (rows : List (List Nat)) (sk : List Int) (i : Nat) (h : i < (algR rows sk).length) (h1 : i < rows.length) (h2 : i < sk.length) : (algR rows sk)[i] = alg1 (frT sk) (toT rows sk) rows[i] sk[i] := by
  simp only [algR, List.getElem_zipWith]
theorem algR_len (rows : List (List Nat)) (sk : List Int) (n : Nat) (h1 : rows.length = n) (h2 : sk.length = n) : (algR rows sk).length = n := by
  unfold algR; rw [List.length_zipWith]; omega
theorem info_int2 : (Tryz.prog.info? 3).map (fun i => (i.zero, i.size, i.bytes)) = some (some (.int .i64 0), 1, 8) := by kernel_rfl

set_option maxHeartbeats 4000000 in
set_option maxRecDepth 100000 in
/-- records that fit the law -/
theorem law_main (A A' : Option Addr) (n c n' c' lo hi : Nat) (rows : List (List Nat)) (sk : List Int) (w : World) (hT : Tabs w) (h : RowsR f32v w w.heap.size A n rows) (h' : Reads w w.heap.size 1 A' n' (sk.map i64v)) (hn : n ≤ maxLen) (hn' : n' ≤ maxLen)
    (hz : ∀ (ad : Addr) (k L c2 : Nat), A = some ad → k < n → w.cell? (ad.add k) = some (.slice none L c2) → c2 = 0)
    (h1 : n ≤ 4) (h2 : recE rows sk = 0) (h3 : levE lo hi = 0) (hg : ∀ (k : Nat) (hk : k < rows.length), rows[k].length ≤ 30) :
    Calls Tryz.prog 3 #[.slice A n c, .slice A' n' c', .agg #[.float .f32 lo, .float .f32 hi]] w fun e w' => e = .returned (.bool true) ∧ Below w.heap.size w w' := by
  obtain ⟨i0, hi0, hz0, hz1', hz2⟩ := info_parts info_f32
  obtain ⟨i1, hi1, hy0, hy1, hy2⟩ := info_parts info_fls
  obtain ⟨i2, hi2, hx0, hx1, hx2⟩ := info_parts info_int2
  have hb0 : Below w.heap.size w (w.alloc (.cells #[.float .f32 lo, .float .f32 hi] 26)) := (Below.refl _ _).alloc (Nat.le_refl _) _
  have q0 : CBlk (w.alloc (.cells #[.float .f32 lo, .float .f32 hi] 26)) w.heap.size #[.float .f32 lo, .float .f32 hi] 26 := CBlk.new w _ _ _ rfl
  have k1 := rCheckRecords_any A A' n c n' c' rows sk _ (h.later hb0) (h'.later hb0) hn hn'
  have k2 := fun W => rCheckLevels_any lo hi W
  have hV := recE_valid rows sk h2
  have hE := levE_ok lo hi h3
  rw [h2] at k1
  rw [h3] at k2
  have K1 := Lib.hid k1
  have K2 := Lib.hid k2
  have HG := Lib.hid hg
  have HV := Lib.hid hV
  have HE := Lib.hid hE
  have HZ := Lib.hid hz
  have KV := Lib.hid (fun W hT => clipVolt_ok W hT)
  have d1 : decide ((4 : Int) < (n : Int)) = false := by simpa using (show ¬ ((4 : Int) < n) from by omega)
  have hl := Lib.hid h.1
  have hnn : n' = n := by have := hV.same; have := h'.lenM; have := h.1; omega
  subst hnn
  have hn1 : 1 ≤ n' := by have := hV.some_; have := h.1; omega
  clear h2 h3 k1 k2 hg hV hE hz hn hn'
  go_enter Tryz.func3, Tryz.ntmps3
  go_wp2_with fail
  refine K1.out.mono ?_
  rintro e w1 ⟨rfl, hb1⟩
  have hB1 := hb0.trans (hb1.mono hb0.size)
  have q1 := q0.below hb1 q0.lt
  have x0 := q1.cell 0
  have x1 := q1.cell 1
  go_wp2_with fail
  refine (K2.out w1).mono ?_
  rintro e w2 ⟨rfl, hb2⟩
  have hB2 := hB1.trans (hb2.mono hB1.size)
  have q2 := q1.below hb2 q1.lt
  clear x0 x1
  go_wp2
  go_loopg [61] n' (fun q s W => ∃ k : Nat, k ≤ n' ∧ s = .int .i64 k ∧ n' - k ≤ q ∧ W = w2)
  case atStart => exact ⟨0, Nat.zero_le _, rfl, by omega, rfl⟩
  case round =>
    obtain ⟨k, hk, rfl, hq, hW⟩ := hrel
    obtain rfl : w2 = wr := hW.symm
    clear hW
    by_cases h0 : k < n'
    · obtain ⟨ad, hkl, A1, c1, rfl, hbb, hcell, hlc, hcm, hrd⟩ := (h.below hB2).row h0
      have hL := HG.out k hkl
      generalize rows[k].length = L at *
      have d2 : decide ((30 : Int) < (L : Int)) = false := by simpa using (show ¬ ((30 : Int) < L) from by omega)
      go_wp2_with fail
      go_roundg (n' - (k + 1))
      case measure => omega
      case rel => exact ⟨k + 1, by omega, by go_num, Nat.le_refl _, rfl⟩
    · obtain rfl : n' = k := by omega
      clear h0 hk hq
      go_wp2
      go_loopg [9, 72] n' (fun q v s W => ∃ j : Nat, j ≤ n' ∧ s = .int .i64 j ∧ n' - j ≤ q ∧ Grow f32v 30 24 W w2.heap.size v j (rows.take j) ∧ Below w2.heap.size w2 W)
      case atStart => exact ⟨0, Nat.zero_le _, rfl, by omega, Grow.nil, Below.refl _ _⟩
      case round =>
        obtain ⟨j, hj, rfl, hq2, hgrow, hbel⟩ := hrel
        have hB3 := hB2.trans (hbel.mono hB2.size)
        by_cases h0 : j < n'
        · obtain ⟨ad, hkl, A1, c1, rfl, hbb, hcell0, hlc, hcm, hrd0⟩ := h.row h0
          have hcell := (hB3.cell (by rw [block_of_add]; exact hbb)).trans hcell0
          have hrd := hrd0.below hB3
          have hL := HG.out j hkl
          obtain ⟨hgl, vs, hown, hin⟩ := hgrow
          have hts : rows.take (j + 1) = rows.take j ++ [rows[j]] := List.take_succ_eq_append_getElem hkl
          have HTS := Lib.hid hts
          have HIN := Lib.hid hin
          have HGL := Lib.hid hgl
          have hz1 := HZ.out ad j rows[j].length c1 rfl h0
          generalize rows[j] = R at *
          have hone : ∀ u ∈ R.map f32v, u.oneCell' = true := by
            intro u hu
            obtain ⟨x, _, rfl⟩ := List.mem_map.1 hu
            rfl
          have HONE := Lib.hid hone
          have HRD := Lib.hid hrd
          have hle := hbel.size
          have hszw := hB3.size
          have hbA : Below wr.heap.size wr (wr.alloc (.cells #[] 24)) := (Below.refl _ _).alloc (Nat.le_refl _) _
          clear hts hin hgl hone hrd hrd0
          cases A1 with
          | none =>
            obtain rfl := hz1 hcell0
            have hR0 : R = [] := by
              cases R with
              | nil => rfl
              | cons x t =>
                obtain ⟨ad9, e9, _⟩ := HRD.out.2 (by simp)
                cases e9
            subst hR0
            clear hz1
            have hown1 := own_empty wr w2.heap.size 24 hle
            have hown3 := own_belw hown hbA
            clear hown
            go_wp2_with (at_builtin; refine wpList_append_own _ rfl _ _ 22 rfl w2.heap.size 30 i1 (.slice none 0 0) 1 24 Tryz.underlying22 hi1 hy0 hy1 hy2 rfl (by decide) _ _ _ rfl (hown3.alloc _) ⟨wr.heap.size + 1, 0, none⟩ 1 1 [.slice (some ⟨wr.heap.size, 0, none⟩) 0 0] rfl rfl ?e1 ?e2 ?e3 ?e4 ?e5 ?_)
            case e1 => rw [← show (wr.alloc (.cells #[] 24)).heap.size = wr.heap.size + 1 from by simp]; exact cell_one_new _ _ _
            case e2 => intro u hu; simp at hu; subst hu; rfl
            case e3 => unfold maxLen; omega
            case e4 => omega
            case e5 => have := hbA.size; simp; omega
            intro v2 w4 hown2 hgrow2 _
            have hb34 : Below (wr.alloc (.cells #[] 24)).heap.size (wr.alloc (.cells #[] 24)) ((wr.alloc (.cells #[] 24)).alloc (.cells #[.slice (some ⟨wr.heap.size, 0, none⟩) 0 0] 30)) := (Below.refl _ _).alloc (Nat.le_refl _) _
            have hG : Grow f32v 30 24 w4 w2.heap.size v2 (j + 1) (rows.take (j + 1)) := by
              rw [HTS.out]
              exact Grow.snoc HGL.out (hown3.alloc _) (fun i hi => (HIN.out i hi).imp fun u hu => ⟨hu.1, own_belw (own_belw hu.2 hbA) hb34⟩) (own_belw hown1 hb34) (by decide) hgrow2 hown2
            have hle3 := Nat.le_trans hle hbA.size
            have hb4 : Below w2.heap.size w2 w4 := ((hbel.trans (hbA.mono hle)).trans (hb34.mono hle3)).grown hgrow2 (by simp; omega) (fun g hg => (World.ownsRow.lt hown3 g hg).1)
            clear hgrow2 hown2 hown3 hown1 HIN
            go_wp2
            go_roundg (n' - (j + 1))
            case measure => omega
            case rel => exact ⟨j + 1, by omega, by go_num, Nat.le_refl _, hG, hb4⟩
          | some a1 =>
            clear hz1
            go_wp2_with (at_builtin; refine wpList_append_own _ rfl _ _ 30 rfl w2.heap.size 24 i0 (.float .f32 0) 1 4 Tryz.underlying30 hi0 hz0 hz1' hz2 rfl (by decide) _ _ _ rfl (own_empty wr w2.heap.size 24 hle) a1 R.length c1 (R.map f32v) rfl ?c0 ?c1 ?c2 ?c3 ?c4 ?c5 ?_)
            case c0 => rw [List.length_map]; omega
            case c1 => exact (HRD.out.below ((Below.refl _ _).alloc hszw _)).cellsAt
            case c2 => exact HONE.out
            case c3 => unfold maxLen; omega
            case c4 => omega
            case c5 => simp; omega
            intro v1 w3 hown1 hgrow1 _
            have hb3 : Below wr.heap.size wr w3 := hbA.grown hgrow1 (by simp) (fun g hg => by simp [Value.ownBlock] at hg; omega)
            obtain ⟨A3, c3, rfl, hlc3, hcm3, _⟩ := own_slice hown1
            have hown3 := own_belw hown hb3
            clear hgrow1 hown hbA
            go_wp2_with (at_builtin; refine wpList_append_own _ rfl _ _ 22 rfl w2.heap.size 30 i1 (.slice none 0 0) 1 24 Tryz.underlying22 hi1 hy0 hy1 hy2 rfl (by decide) _ _ _ rfl (hown3.alloc _) ⟨w3.heap.size, 0, none⟩ 1 1 [.slice A3 R.length c3] rfl rfl ?d1 ?d2 ?d3 ?d4 ?d5 ?_)
            case d1 => exact cell_one_new _ _ _
            case d2 => intro u hu; simp at hu; subst hu; rfl
            case d3 => unfold maxLen; omega
            case d4 => omega
            case d5 => have := hb3.size; simp; omega
            intro v2 w4 hown2 hgrow2 _
            have hb34 : Below w3.heap.size w3 (w3.alloc (.cells #[.slice A3 R.length c3] 30)) := (Below.refl _ _).alloc (Nat.le_refl _) _
            have hG : Grow f32v 30 24 w4 w2.heap.size v2 (j + 1) (rows.take (j + 1)) := by
              rw [HTS.out]
              exact Grow.snoc HGL.out (hown3.alloc _) (fun i hi => (HIN.out i hi).imp fun u hu => ⟨hu.1, own_belw (own_belw hu.2 hb3) hb34⟩) (own_belw hown1 hb34) (by decide) hgrow2 hown2
            have hle3 := Nat.le_trans hle hb3.size
            have hb4 : Below w2.heap.size w2 w4 := ((hbel.trans (hb3.mono hle)).trans (hb34.mono hle3)).grown hgrow2 (by simp; omega) (fun g hg => (World.ownsRow.lt hown3 g hg).1)
            clear hgrow2 hown2 hown3 hown1 HIN
            go_wp2
            go_roundg (n' - (j + 1))
            case measure => omega
            case rel => exact ⟨j + 1, by omega, by go_num, Nat.le_refl _, hG, hb4⟩
        · obtain rfl : n' = j := by omega
          rw [List.take_of_length_le (by have := hl.out; omega)] at hgrow
          have hskl := h'.lenM
          have hrd' := h'.below hB3
          obtain ⟨ad', rfl, hbb', _⟩ := hrd'.2 hn1
          obtain ⟨Ao, co, rfl, hoc, hom, hro⟩ := hgrow.rowsR
          have hszw := hB3.size
          have hle := hbel.size
          have hbA : Below wr.heap.size wr (wr.alloc (.cells #[] 3)) := (Below.refl _ _).alloc (Nat.le_refl _) _
          have hone : ∀ u ∈ sk.map i64v, u.oneCell' = true := by
            intro u hu
            obtain ⟨x, _, rfl⟩ := List.mem_map.1 hu
            rfl
          have HONE := Lib.hid hone
          have HRD := Lib.hid hrd'
          have HSKL := Lib.hid hskl
          have HGROW := Lib.hid hgrow
          have HRO := Lib.hid hro
          clear hone hrd' hskl h0 hj hq2 hgrow hro
          go_wp2_with (at_builtin; refine wpList_append_own _ rfl _ _ 23 rfl w2.heap.size 3 i2 (.int .i64 0) 1 8 Tryz.underlying23 hi2 hx0 hx1 hx2 rfl (by decide) _ _ _ rfl (own_empty wr w2.heap.size 3 hle) ad' n' c' (sk.map i64v) rfl ?f0 ?f1 ?f2 ?f3 ?f4 ?f5 ?_)
          case f0 => rw [List.length_map, HSKL.out]; omega
          case f1 => exact (HRD.out.below ((Below.refl _ _).alloc hszw _)).cellsAt
          case f2 => exact HONE.out
          case f3 => unfold maxLen; omega
          case f4 => omega
          case f5 => simp; omega
          intro v1 w3 hown1 hgrow1 _
          have hb3 : Below wr.heap.size wr w3 := hbA.grown hgrow1 (by simp) (fun g hg => by simp [Value.ownBlock] at hg; omega)
          obtain ⟨A3, c3, rfl, hlc3, hcm3, hrd3⟩ := own_slice hown1
          have hro3 := HRO.out.later hb3
          have hB4 := hB3.trans (hb3.mono hszw)
          have q4 := q2.below (hbel.trans (hb3.mono hle)) q2.lt
          clear hgrow1 hown1 hbA HRD HONE
          by_cases hsh : toT rows sk ≤ frT sk
          · have hA := aligned_short Ao A3 n' co c3 rows sk w3 hro3 hrd3 HV.out hsh
            have HA := Lib.hid hA
            clear hA hro3 hrd3 hsh
            go_wp2_with fail
            refine HA.out.mono ?_
            rintro e w5 ⟨rfl, hb5⟩
            have hB5 := hB4.trans (hb5.mono hB4.size)
            have hT5 := hT.later hB5
            go_wp2_with fail
            refine (KV.out w5 hT5).mono ?_
            rintro e w6 ⟨rfl, hb6⟩
            go_wp2_with fail
            go_ret
            exact ⟨rfl, hB5.trans (hb6.mono hB5.size)⟩
          · obtain ⟨m, hm⟩ : ∃ m : Nat, (m : Int) = toT rows sk - frT sk := ⟨(toT rows sk - frT sk).toNat, by omega⟩
            have hA := aligned_ok Ao A3 n' co c3 m rows sk w3 hro3 hrd3 HV.out (by omega) hm
            have HA := Lib.hid hA
            clear hA
            go_wp2_with fail
            refine HA.out.mono ?_
            rintro e w5 ⟨G, gs, rfl, hlaid, hownG, hb5⟩
            have hB5 := hB4.trans (hb5.mono hB4.size)
            have hal := algR_len rows sk n' hl.out HSKL.out
            have hra := hlaid.rowsR hal hownG (by have := toT_bd rows sk; have := frT_bd sk HV.out.small; have := toT_le rows sk HV.out.same 0 (by have := HV.out.some_; omega) (by have := HV.out.some_; have := HV.out.same; omega); have := HG.out 0 (by have := HV.out.some_; omega); have := frT_ge sk (sk[0]'(by have := HV.out.some_; have := HV.out.same; omega)) (List.getElem_mem _); omega)
            have hro5 := hro3.later hb5
            have hsk5 := h'.later hB5
            have q5 := q4.below hb5 q4.lt
            have k5 := q5.lt
            have hml : ∀ (i : Nat) (h : i < (algR rows sk).length), (algR rows sk)[i].length = m := fun i h => by
              obtain ⟨_, h4, _⟩ := hlaid.2 i h (by rw [hlaid.1]; exact h)
              exact h4
            have hm4 : m ≤ 30 := by have := toT_le rows sk HV.out.same 0 (by have := HV.out.some_; omega) (by have := HV.out.some_; have := HV.out.same; omega); have := HG.out 0 (by have := HV.out.some_; omega); have := frT_ge sk (sk[0]'(by have := HV.out.some_; have := HV.out.same; omega)) (List.getElem_mem _); omega
            have hm1 : 1 ≤ m := by omega
            have HML := Lib.hid hml
            have HAL := Lib.hid hal
            have hft : frT sk ≤ toT rows sk := by omega
            clear hml hal hlaid hownG hm hsh HA hb5 hro3 hrd3 HRO HGROW
            generalize hLS : (algR rows sk).map (digL lo hi false) = LS
            have HLS := Lib.hid hLS
            clear hLS
            go_wp2_with fail
            go_loopg [14, 105] n' (fun q v s W => ∃ i : Nat, i ≤ n' ∧ s = .int .i64 i ∧ n' - i ≤ q ∧ Grow boolv 35 4 W w5.heap.size v i (LS.take i) ∧ Below w5.heap.size w5 W)
            case atStart => exact ⟨0, Nat.zero_le _, rfl, by omega, Grow.nil, Below.refl _ _⟩
            case round =>
              obtain ⟨i, hii, rfl, hq5, hgr, hbel5⟩ := hrel
              by_cases h0 : i < n'
              · obtain ⟨adr, hir, A1, c1, har, hbr, hcr, hlr, hmr, hdr⟩ := (hra.later hbel5).row h0
                injection har with har
                subst har
                rw [show (⟨G, 0, none⟩ : Addr).add i = ⟨G, i, none⟩ from by simp [Addr.add]; try (intro h; exact h.symm)] at hcr
                obtain ⟨ado, hio, A2, c2, rfl, hbo, hco, hlo2, hmo, hdo⟩ := (hro5.later hbel5).row h0
                have his : i < sk.length := by have := HSKL.out; omega
                have hF2 := HV.out.fin rows[i] (List.getElem_mem hio)
                have hag := fun (b : Nat) (hb : (b : Int) = frT sk + sk[i]) => lines_agree lo hi b (frT sk) (toT rows sk) sk[i] rows[i] hF2 HE.out.1 HE.out.2.1 HE.out.2.2 hb hft (by have := toT_le rows sk HV.out.same i hio his; omega)
                have hF1 := alg1_fin (frT sk) (toT rows sk) sk[i] rows[i] hF2
                have hrm := HML.out i hir
                have hL30 := HG.out i hio
                have hls : LS.take (i + 1) = LS.take i ++ [digL lo hi false (algR rows sk)[i]] := by
                  rw [← HLS.out, List.take_succ_eq_append_getElem (by rw [List.length_map]; exact hir), List.getElem_map]
                have hgel := algR_get rows sk i hir hio his
                rw [← hgel] at hag hF1
                generalize (algR rows sk)[i] = r at *
                generalize rows[i] = R at *
                have HF1 := Lib.hid hF1
                have HF2 := Lib.hid hF2
                have HAG := Lib.hid hag
                have HSN := Lib.hid hls
                have hr30 : r.length ≤ 4096 := by
                  rcases Nat.lt_or_ge 0 r.length with hp | hp
                  · obtain ⟨b, hb⟩ : ∃ b : Nat, (b : Int) = frT sk + sk[i] := ⟨(frT sk + sk[i]).toNat, by have := frT_ge sk sk[i] (List.getElem_mem his); omega⟩
                    have := (hag b hb (r.length - 1) (by omega)).1
                    omega
                  · omega
                clear hF1 hF2 hag hls hgel
                rw [hrm] at hcr hlr hdr hr30
                have HRM := Lib.hid hrm
                clear hrm
                have HD1 := Lib.hid (digital_ok A1 m c1 lo hi false r wr hdr HF1.out hr30 HE.out.1 HE.out.2.1 HE.out.2.2)
                have q6 := q5.below hbel5 q5.lt
                have x0 := q6.cell 0
                have x1 := q6.cell 1
                go_wp2_with fail
                refine HD1.out.mono ?_
                rintro e w7 ⟨g1, rfl, ho7, hb7⟩
                have q7 := q6.below hb7 q6.lt
                clear x0 x1
                have x0 := q7.cell 0
                have x1 := q7.cell 1
                have k6 := q6.lt
                have hco7 := (hb7.cell (by rw [block_of_add]; exact hbo)).trans hco
                have hdo7 := (hdo.later hb7)
                have HD2 := Lib.hid (digital_ok A2 R.length c2 lo hi false R w7.drew hdo7 HF2.out (by omega) HE.out.1 HE.out.2.1 HE.out.2.2)
                have q7' := q7.lt
                go_upto_region 25 with (fail)
                go_region_held3 (fun w' => w'.cell? (ado.add i) = some (.slice A2 R.length c2) ∧ w'.cell? ⟨w.heap.size, 0, none⟩ = some (.float .f32 lo) ∧ w'.cell? ⟨w.heap.size, 1, none⟩ = some (.float .f32 hi))
                  ((first | exact ⟨hco7, x0, x1⟩ | exact ⟨hco8, z0, z1⟩))
                  ((go_at_call 8; refine (HD2.out).mono ?_; rintro e w8 ⟨g2, rfl, ho8, hb8'⟩; have hb8 : Below w7.heap.size w7 w8 := ⟨hb8'.os, hb8'.tape, hb8'.output, hb8'.size, hb8'.block⟩; clear hb8'; have q8 := q7.below hb8 q7'; have z0 := q8.cell 0; have z1 := q8.cell 1; have hco8 := (hb8.cell (by rw [block_of_add]; exact Nat.lt_of_lt_of_le hbo hb7.size)).trans hco7))
                have hB8 := hb7.trans (hb8.mono hb7.size)
                have hsk8 := (hsk5.later hbel5).later hB8
                obtain ⟨adS, hisx, hadS, hbbS, hcS⟩ := hsk8.cellM h0
                injection hadS with hadS
                subst hadS
                have hrgS := HV.out.small sk[i] (List.getElem_mem his)
                have hgeS := frT_ge sk sk[i] (List.getElem_mem his)
                have hbdS := frT_bd sk HV.out.small
                have h0s : 0 < sk.length := by omega
                have hbeg : ∀ b : Int, b ≤ frT sk + sk[i] → (∀ j (h : j < sk.length), sk[i] - sk[j] ≤ b) → b = frT sk + sk[i] := fun b h1 h2 => beg_eq sk HV.out.small h0s (sk[i]'his) b h1 h2
                have hBEG := Lib.hid hbeg
                clear hbeg
                generalize sk[i] = si at *
                have hSK8 := Lib.hid hsk8
                clear x0 x1 hsk8
                have hkk : ((m : Int) != (m : Int)) = false := by simp
                have hkk2 : ((R.length : Int) != (R.length : Int)) = false := by simp
                unfold i64v at hcS
                go_wp2_with fail
                go_loopg [21, 150] n' (fun q b s W => ∃ (k : Nat) (x : Int), k ≤ n' ∧ s = .int .i64 k ∧ b = .int .i64 x ∧ n' - k ≤ q ∧ 0 ≤ x ∧ x ≤ frT sk + si ∧ Hid (∀ j (h : j < sk.length), j < k → si - sk[j] ≤ x) ∧ Below w8.heap.size w8 W)
                case atStart => exact ⟨0, 0, Nat.zero_le _, rfl, rfl, by omega, by omega, by omega, fun j _ hj => absurd hj (by omega), Below.refl _ _⟩
                case round =>
                  obtain ⟨k, x, hk, rfl, rfl, hq9, hx0', hx1', hall, hbel9⟩ := hrel
                  by_cases hkn : k < n'
                  · obtain ⟨adT, hkx, hadT, hbbT, hcT⟩ := (hSK8.out.later hbel9).cellM hkn
                    injection hadT with hadT
                    subst hadT
                    have hcS9 := (hbel9.cell (by rw [block_of_add]; exact hbbS)).trans hcS
                    have hrgT := HV.out.small sk[k] (List.getElem_mem hkx)
                    have hgeT := frT_ge sk sk[k] (List.getElem_mem hkx)
                    have hstep : ∀ j (h : j < sk.length), j < k + 1 → si - sk[j] ≤ max x (si - sk[k]) := by
                      intro j hj hjk
                      rcases Nat.lt_or_ge j k with hlt | hge
                      · have := hall.out j hj hlt; omega
                      · obtain rfl : j = k := by omega
                        omega
                    have HSTEP := Lib.hid hstep
                    clear hstep hall
                    unfold i64v at hcT
                    generalize sk[k] = sj at *
                    have hwr : IntKind.i64.wrap (si - sj) = si - sj := IntWalk.i64_in _ (by omega)
                    go_upto_region 32 with (fail)
                    go_region
                    go_wp2
                    go_roundg (n' - (k + 1))
                    case measure => omega
                    case rel => exact ⟨k + 1, max x (si - sj), by omega, by go_num, rfl, Nat.le_refl _, by omega, by omega, HSTEP.out, hbel9.drew⟩
                  · obtain rfl : n' = k := by omega
                    have hxx : x = frT sk + si := hBEG.out x hx1' (fun j h => hall.out j h (by have := HSKL.out; omega))
                    obtain ⟨b, hb⟩ : ∃ b : Nat, (b : Int) = x := ⟨x.toNat, by omega⟩
                    have hag := HAG.out b (by omega)
                    subst hb
                    have HAG2 := Lib.hid hag
                    have hb30 : b ≤ 2000 := by omega
                    have HR8 := Lib.hid (Reads.of_own ho8)
                    have HO7 := Lib.hid ho7
                    have HDR := Lib.hid (hdr.later hB8)
                    have hl7 := digL_len lo hi false r
                    have hl8 := digL_len lo hi false R
                    have HL7 := Lib.hid hl7
                    have HL8 := Lib.hid hl8
                    clear hag hall hxx hl7 hl8 hcS
                    go_wp2
                    go_loopg [23, 167] m (fun q d s W => ∃ (k : Nat) (dv : Bool), k ≤ m ∧ s = .int .i64 k ∧ d = .bool dv ∧ m - k ≤ q ∧ Hid (dv = decd lo hi (r.take k)) ∧ Below w8.heap.size w8 W)
                    case atStart => exact ⟨0, false, Nat.zero_le _, rfl, rfl, by omega, rfl, hbel9⟩
                    case round =>
                      obtain ⟨k, dv, hk9, rfl, rfl, hq10, hdv, hbelX⟩ := hrel
                      by_cases hkm : k < m
                      · obtain ⟨a1, hkr, rfl, hb1, hcF⟩ := (HDR.out.later hbelX).cellM hkm
                        unfold f32v at hcF
                        have hag := HAG2.out k (by have := HRM.out; omega)
                        have hdn := decd_succ lo hi r k (by have := HRM.out; omega)
                        obtain ⟨hgl, hagr⟩ := hag
                        obtain ⟨ad8, hi8, e8, _, c8⟩ := (HR8.out.later hbelX).cellM hgl
                        injection e8 with e8
                        subst e8
                        obtain ⟨ad7, hi7, e7, _, c7⟩ := (((Reads.of_own HO7.out).later hb8).later hbelX).cellM hkm
                        injection e7 with e7
                        subst e7
                        have v8 : (digL lo hi false R)[b + k] = digS lo hi false (R.take (b + k + 1)) := by
                          have h := digL_at lo hi false R (b + k) hgl
                          rw [List.getElem?_eq_getElem hi8] at h
                          injection h
                        have v7 : (digL lo hi false r)[k] = digS lo hi false (r.take (k + 1)) := by
                          have h := digL_at lo hi false r k (by have := HRM.out; omega)
                          rw [List.getElem?_eq_getElem hi7] at h
                          injection h
                        rw [v8, show (⟨g2, 0, none⟩ : Addr).add (b + k) = ⟨g2, b + k, none⟩ from by simp [Addr.add]; try omega] at c8
                        rw [v7, show (⟨g1, 0, none⟩ : Addr).add k = ⟨g1, k, none⟩ from by simp [Addr.add]; try omega] at c7
                        generalize digS lo hi false (R.take (b + k + 1)) = Y2 at *
                        generalize digS lo hi false (r.take (k + 1)) = Y1 at *
                        unfold boolv at c7 c8
                        generalize hD : decd lo hi (r.take (k + 1)) = D at *
                        generalize r[k] = f at *
                        obtain ⟨p, hp⟩ : ∃ p : Nat, p = b + k := ⟨_, rfl⟩
                        rw [← hp] at c8
                        have hwr : IntKind.i64.wrap ((b : Int) + (k : Int)) = (p : Int) := by rw [IntWalk.i64_in _ (by omega)]; omega
                        have hp1 : (0 : Int) ≤ (p : Int) := by omega
                        have hp2 : (p : Int) < (R.length : Int) := by omega
                        have hp3 : (0 : Int) ≤ (k : Int) := by omega
                        have hp4 : (k : Int) < (m : Int) := by omega
                        have hge : decide ((R.length : Int) ≤ (p : Int)) = false := by
                          have : ¬ ((R.length : Int) ≤ (p : Int)) := by omega
                          simpa using this
                        have hge2 : decide (R.length ≤ p) = false := by
                          have : ¬ (R.length ≤ p) := by omega
                          simpa using this
                        have HP := Lib.hid hp
                        clear hp
                        have HD := Lib.hid hD
                        have hpart : (dv = true ∧ D = true) ∨ (dv = false ∧ fge f hi = true ∧ D = true) ∨ (dv = false ∧ fge f hi = false ∧ fle f lo = true ∧ D = true) ∨ (dv = false ∧ fge f hi = false ∧ fle f lo = false ∧ D = false) := by
                          rw [← hdv.out] at hdn
                          rw [hdn]
                          cases dv <;> cases fge f hi <;> cases fle f lo <;> simp
                        have q9 := q8.below hbelX q8.lt
                        have y0 := q9.cell 0
                        have y1 := q9.cell 1
                        clear hD hdn v7 v8 z0 z1 hco8
                        rcases hpart with ⟨rfl, rfl⟩ | ⟨rfl, t1, rfl⟩ | ⟨rfl, t1, t2, rfl⟩ | ⟨rfl, t1, t2, rfl⟩
                        · obtain rfl := hagr rfl
                          clear hagr
                          cases Y2
                          all_goals
                            go_upto_region 39 with (fail)
                            go_quiet (fail)
                            go_wp2
                            go_roundg (m - (k + 1))
                            case measure => omega
                            case rel => exact ⟨k + 1, true, by omega, by go_num, rfl, Nat.le_refl _, HD.out.symm, below_drewN hbelX _⟩
                        · have s1 : (FloatKind.f32.format.order f hi == some .gt || FloatKind.f32.format.order f hi == some .eq) = true := t1
                          clear t1
                          obtain rfl := hagr rfl
                          clear hagr
                          cases Y2
                          all_goals
                            go_upto_region 39 with (fail)
                            go_quiet (fail)
                            go_wp2
                            go_roundg (m - (k + 1))
                            case measure => omega
                            case rel => exact ⟨k + 1, true, by omega, by go_num, rfl, Nat.le_refl _, HD.out.symm, below_drewN hbelX _⟩
                        · have s1 : (FloatKind.f32.format.order f hi == some .gt || FloatKind.f32.format.order f hi == some .eq) = false := t1
                          have s2 : (FloatKind.f32.format.order f lo == some .lt || FloatKind.f32.format.order f lo == some .eq) = true := t2
                          clear t1 t2
                          obtain rfl := hagr rfl
                          clear hagr
                          cases Y2
                          all_goals
                            go_upto_region 39 with (fail)
                            go_quiet (fail)
                            go_wp2
                            go_roundg (m - (k + 1))
                            case measure => omega
                            case rel => exact ⟨k + 1, true, by omega, by go_num, rfl, Nat.le_refl _, HD.out.symm, below_drewN hbelX _⟩
                        · have s1 : (FloatKind.f32.format.order f hi == some .gt || FloatKind.f32.format.order f hi == some .eq) = false := t1
                          have s2 : (FloatKind.f32.format.order f lo == some .lt || FloatKind.f32.format.order f lo == some .eq) = false := t2
                          clear t1 t2
                          clear hagr
                          go_upto_region 39 with (fail)
                          go_quiet (fail)
                          go_wp2
                          go_roundg (m - (k + 1))
                          case measure => omega
                          case rel => exact ⟨k + 1, false, by omega, by go_num, rfl, Nat.le_refl _, HD.out.symm, below_drewN hbelX _⟩
                      · obtain rfl : m = k := by omega
                        clear hkm
                        obtain ⟨i3, hi3, hw0, hw1, hw2⟩ := info_parts info_bls
                        have hB8X := hB8.trans (hbelX.mono hB8.size)
                        have hszX := hbel5.size
                        have hszY := hB8X.size
                        obtain ⟨hgl, vs, hown, hin⟩ := hgr.below hB8X
                        have hl78 : (digL lo hi false r).length = m := HL7.out.trans HRM.out
                        have hown1 := own_belw (own_belw (own_mono HO7.out hbel5.size) hb8) hbelX
                        have HIN := Lib.hid hin
                        have HGL := Lib.hid hgl
                        have HL78 := Lib.hid hl78
                        have hB5X : Below w5.heap.size w5 wr := hbel5.trans (hB8X.mono hbel5.size)
                        clear hin hgl hl78 hgr
                        go_wp2_with (at_builtin; refine wpList_append_own _ rfl _ _ 34 rfl w5.heap.size 35 i3 (.slice none 0 0) 1 24 Tryz.underlying34 hi3 hw0 hw1 hw2 rfl (by decide) _ _ _ rfl (hown.alloc _) ⟨wr.heap.size, 0, none⟩ 1 1 [.slice (some ⟨g1, 0, none⟩) m m] rfl rfl ?g1 ?g2 ?g3 ?g4 ?g5 ?_)
                        case g1 => exact cell_one_new _ _ _
                        case g2 => intro u hu; simp at hu; subst hu; rfl
                        case g3 => unfold maxLen; omega
                        case g4 => omega
                        case g5 => simp; omega
                        intro v2 w4 hown2 hgrow2 _
                        have hb34 : Below wr.heap.size wr (wr.alloc (.cells #[.slice (some ⟨g1, 0, none⟩) m m] 35)) := (Below.refl _ _).alloc (Nat.le_refl _) _
                        have hG : Grow boolv 35 4 w4 w5.heap.size v2 (i + 1) (LS.take (i + 1)) := by
                          rw [HSN.out]
                          exact Grow.snoc HGL.out (hown.alloc _) (fun i hi => (HIN.out i hi).imp fun u hu => ⟨hu.1, own_belw hu.2 hb34⟩) (by rw [HL78.out]; exact own_belw hown1 hb34) (by decide) hgrow2 hown2
                        have hb4 : Below w5.heap.size w5 w4 := (hB5X.trans (hb34.mono hB5X.size)).grown hgrow2 (by simp; omega) (fun g hg => (World.ownsRow.lt hown g hg).1)
                        clear hgrow2 hown2 hown hown1 HIN
                        go_wp2
                        go_roundg (n' - (i + 1))
                        case measure => omega
                        case rel => exact ⟨i + 1, by omega, by go_num, Nat.le_refl _, hG, hb4⟩
              · obtain rfl : n' = i := by omega
                have hlsl : LS.length = n' := by rw [← HLS.out, List.length_map]; exact HAL.out
                rw [List.take_of_length_le (by omega)] at hgr
                obtain ⟨Al, cl, rfl, hlc, hlm, hrl⟩ := hgr.rowsR
                obtain ⟨adl, _, _, _, rfl, hbl, _, _, _, _⟩ := hrl.row (k := 0) (by omega)
                have hmr : ∀ r ∈ LS, r.length = m := by
                  intro r hr
                  rw [← HLS.out] at hr
                  obtain ⟨x, hx, rfl⟩ := List.mem_map.1 hr
                  rw [digL_len]
                  obtain ⟨i, hi, rfl⟩ := List.mem_iff_getElem.1 hx
                  exact HML.out i hi
                have HMR := Lib.hid hmr
                have HLSL := Lib.hid hlsl
                have q6 := q5.below hbel5 q5.lt
                have HW := Lib.hid (words_ok (some adl) n' cl m LS wr hrl hn1 (by omega) hmr (by omega))
                have HWL := Lib.hid (wlist_len LS m)
                have HWT := Lib.hid (wlist_lt LS m (by omega))
                have HWB := Lib.hid (fun i h => wlist_bit LS m hmr i h)
                have HRL := Lib.hid hrl
                clear hmr hlsl h0 hrl hgr hii hq5
                generalize (List.range m).map (wd LS) = ws at *
                go_wp2_with fail
                refine HW.out.mono ?_
                rintro e w6 ⟨gw, rfl, how, hb6⟩
                have HB := Lib.hid (blocks_ok (some ⟨gw, 0, none⟩) m m ws w6 (Reads.of_own how) (by omega) (Nat.le_refl _) (by unfold maxLen; omega))
                go_wp2_with fail
                refine HB.out.mono ?_
                rintro e w7 ⟨gb, rfl, hob, hb7⟩
                have HU := Lib.hid (unpack_ok gb m ((m + 15) / 16) ws _ w7 (own_block hob) rfl HWL.out hm1 (by omega))
                clear hob
                go_wp2_with fail
                refine HU.out.mono ?_
                rintro e w8 ⟨Au, rfl, hru, hb8⟩
                have HS := Lib.hid (sameWords_eq Au (some ⟨gw, 0, none⟩) m m m ws w8 hru (((Reads.of_own how).later hb7).later hb8) (by unfold maxLen; omega))
                clear how
                go_wp2_with fail
                refine HS.out.mono ?_
                rintro e w9 ⟨rfl, hb9⟩
                have hb69 : Below wr.heap.size wr w9 := ((hb6.trans (hb7.mono hb6.size)).trans (hb8.mono (Nat.le_trans hb6.size hb7.size))).trans (hb9.mono (Nat.le_trans (Nat.le_trans hb6.size hb7.size) hb8.size))
                have hb59 : Below w5.heap.size w5 w9 := hbel5.trans (hb69.mono hbel5.size)
                have hB9 := hB5.trans (hb59.mono hB5.size)
                have q9 := q5.below hb59 q5.lt
                have hru9 := Lib.hid (hru.later hb9)
                have hrl9 := Lib.hid (HRL.out.later hb69)
                have hra9 := Lib.hid (hra.later hb59)
                clear hru hb6 hb7 hb8 hb9 hra hsk5
                go_wp2
                go_loopg [244] n' (fun q s W => ∃ i : Nat, i ≤ n' ∧ s = .int .i64 i ∧ n' - i ≤ q ∧ Below w9.heap.size w9 W)
                case atStart => exact ⟨0, Nat.zero_le _, rfl, by omega, Below.refl _ _⟩
                case round =>
                  obtain ⟨i, hii6, rfl, hq6, hbel9⟩ := hrel
                  by_cases h6 : i < n'
                  · skip
                    obtain ⟨adx, hil, A1, c1, hax, hbx, hcx, hlx, hmx, hdx⟩ := (hrl9.out.later hbel9).row h6
                    injection hax with hax
                    subst hax
                    have hlen := HMR.out LS[i] (List.getElem_mem hil)
                    have hbt := HWB.out i hil
                    generalize LS[i] = ln at *
                    rw [hlen] at hcx hlx hdx
                    have HLEN := Lib.hid hlen
                    have HBT := Lib.hid hbt
                    clear hlen hbt
                    have HL := Lib.hid (line_ok Au m m i ws wr (hru9.out.later hbel9) HWT.out (by omega) (by omega))
                    go_wp2_with fail
                    refine HL.out.mono ?_
                    rintro e wa ⟨v, rfl, hov, hba⟩
                    rw [HBT.out] at hov
                    obtain ⟨Av, cv, rfl, hvc, hvm, hrv⟩ := own_slice hov
                    have HC := Lib.hid (changes_ok Av m cv false ln wa hrv (by omega))
                    clear hov
                    go_wp2_with fail
                    refine HC.out.mono ?_
                    rintro e wb ⟨Ac, cc, rfl, hrc, hbb⟩
                    have HF := Lib.hid (fromChanges_ok Ac cc m false ln wb hrc HLEN.out (by omega))
                    clear hrc
                    generalize (chg false ln m).length = nc at *
                    go_wp2_with fail
                    refine HF.out.mono ?_
                    rintro e wc ⟨gf, rfl, hof, hbc⟩
                    have hdx3 := ((hdx.later hba).later hbb).later hbc
                    have hbac : Below wr.heap.size wr wc := (hba.trans (hbb.mono hba.size)).trans (hbc.mono (Nat.le_trans hba.size hbb.size))
                    have HS1 := Lib.hid (sameBools_eq Av A1 m cv c1 ln wc ((hrv.later hbb).later hbc) hdx3 (by unfold maxLen; omega))
                    clear hba hbb hbc hrv
                    go_wp2_with fail
                    refine HS1.out.mono ?_
                    rintro e wd1 ⟨rfl, hbd⟩
                    have HS2 := Lib.hid (sameBools_eq (some ⟨gf, 0, none⟩) A1 m m c1 ln wd1 ((Reads.of_own hof).later hbd) (hdx3.later hbd) (by unfold maxLen; omega))
                    clear hof hdx3
                    go_wp2_with fail
                    refine HS2.out.mono ?_
                    rintro e we ⟨rfl, hbe⟩
                    have hbel10 : Below w9.heap.size w9 we := ((hbel9.trans (hbac.mono hbel9.size)).trans (hbd.mono (Nat.le_trans hbel9.size hbac.size))).trans (hbe.mono (Nat.le_trans (Nat.le_trans hbel9.size hbac.size) hbd.size))
                    clear hbac hbd hbe hdx
                    go_wp2
                    go_roundg (n' - (i + 1))
                    case measure => omega
                    case rel => exact ⟨i + 1, by omega, by go_num, Nat.le_refl _, hbel10⟩
                  · obtain rfl : n' = i := by omega
                    clear h6 hii6 hq6
                    go_wp2
                    go_loopg [288] n' (fun q s W => ∃ i : Nat, i ≤ n' ∧ s = .int .i64 i ∧ n' - i ≤ q ∧ Below w9.heap.size w9 W)
                    case atStart => exact ⟨0, Nat.zero_le _, rfl, by omega, hbel9⟩
                    case round =>
                      obtain ⟨i, hii7, rfl, hq7, hbel7⟩ := hrel
                      by_cases h7 : i < n'
                      · obtain ⟨adr, hir, A2, c2, har, hbr, hcr, hlr, hmr2, hdr⟩ := (hra9.out.later hbel7).row h7
                        injection har with har
                        subst har
                        rw [show (⟨G, 0, none⟩ : Addr).add i = ⟨G, i, none⟩ from by simp [Addr.add]; try (intro h; exact h.symm)] at hcr
                        obtain ⟨adx, hil, A1, c1, hax, hbx, hcx, hlx, hmx, hdx⟩ := (hrl9.out.later hbel7).row h7
                        injection hax with hax
                        subst hax
                        have hli : LS[i] = digL lo hi false (algR rows sk)[i] := by
                          have e := HLS.out
                          subst e
                          rw [List.getElem_map]
                        have hlen := HMR.out LS[i] (List.getElem_mem hil)
                        rw [hlen] at hcx hlx hdx
                        rw [hli] at hdx
                        have hrm := HML.out i hir
                        have his : i < sk.length := by have := HSKL.out; omega
                        have hio : i < rows.length := by have := hl.out; omega
                        have hfin := alg1_fin (frT sk) (toT rows sk) sk[i] rows[i] (HV.out.fin rows[i] (List.getElem_mem hio))
                        rw [← algR_get rows sk i hir hio his] at hfin
                        have hsd := fun (k : Nat) (hk : k < ((algR rows sk)[i]).length) => line_sound lo hi (algR rows sk)[i] hfin HE.out.1 HE.out.2.1 HE.out.2.2 false k hk
                        clear hfin hlen hli
                        generalize (algR rows sk)[i] = r at *
                        rw [hrm] at hcr hlr hdr
                        have HRM := Lib.hid hrm
                        have HSD := Lib.hid hsd
                        have HDX := Lib.hid hdx
                        have HDR := Lib.hid hdr
                        clear hrm hsd hdx hdr
                        go_wp2
                        go_loopg [295] m (fun q s W => ∃ k : Nat, k ≤ m ∧ s = .int .i64 k ∧ m - k ≤ q ∧ Below wr.heap.size wr W)
                        case atStart => exact ⟨0, Nat.zero_le _, rfl, by omega, Below.refl _ _⟩
                        case round =>
                          obtain ⟨k, hk8, rfl, hq8, hbel8⟩ := hrel
                          by_cases hkm : k < m
                          · have hkr : k < r.length := by have := HRM.out; omega
                            obtain ⟨a1, hk1, rfl, hb1, hcF⟩ := (HDR.out.later hbel8).cellM hkm
                            obtain ⟨a2, hk2, rfl, hb2, hcB⟩ := (HDX.out.later hbel8).cellM hkm
                            unfold f32v at hcF
                            have v7 : (digL lo hi false r)[k] = digS lo hi false (r.take (k + 1)) := by
                              have h := digL_at lo hi false r k hkr
                              rw [List.getElem?_eq_getElem hk2] at h
                              injection h
                            rw [v7] at hcB
                            unfold boolv at hcB
                            obtain ⟨hs1, hs2⟩ := HSD.out k hkr
                            generalize digS lo hi false (r.take (k + 1)) = Y at *
                            generalize r[k] = f at *
                            have q8 := (q9.below hbel7 q9.lt).below hbel8 (q9.below hbel7 q9.lt).lt
                            have y0 := q8.cell 0
                            have y1 := q8.cell 1
                            have hcr8 := (hbel8.cell (by simp; omega)).trans hcr
                            have hcx8 := (hbel8.cell (by rw [block_of_add]; exact hbx)).trans hcx
                            clear v7 hcr hcx
                            cases Y
                            · have s1 : (FloatKind.f32.format.order f hi == some .gt || FloatKind.f32.format.order f hi == some .eq) = false := hs2 rfl
                              clear hs1 hs2
                              go_wp2
                              go_roundg (m - (k + 1))
                              case measure => omega
                              case rel => exact ⟨k + 1, by omega, by go_num, Nat.le_refl _, hbel8⟩
                            · have s1 : (FloatKind.f32.format.order f lo == some .lt || FloatKind.f32.format.order f lo == some .eq) = false := hs1 rfl
                              clear hs1 hs2
                              go_wp2
                              go_roundg (m - (k + 1))
                              case measure => omega
                              case rel => exact ⟨k + 1, by omega, by go_num, Nat.le_refl _, hbel8⟩
                          · obtain rfl : m = k := by omega
                            have hbel11 := hbel7.trans (hbel8.mono hbel7.size)
                            go_wp2
                            go_roundg (n' - (i + 1))
                            case measure => omega
                            case rel => exact ⟨i + 1, by omega, by go_num, Nat.le_refl _, hbel11⟩
                      · obtain rfl : n' = i := by omega
                        have hB12 := hB9.trans (hbel7.mono hB9.size)
                        have hT12 := hT.later hB12
                        go_wp2_with fail
                        refine (KV.out _ hT12).mono ?_
                        rintro e w13 ⟨rfl, hb13⟩
                        go_wp2_with fail
                        go_ret
                        exact ⟨rfl, hB12.trans (hb13.mono hB12.size)⟩

end Go.Proofs.YthmiamppfncfoaaGreatDoor

/- The law of lines: for all records, skews and levels it returns true. -/
namespace Go.Proofs.YthmiamppfncfoaaGreatDoor
open Go.RowKit

/-- every input: true; nothing that was there has changed -/
theorem law_any (A A' : Option Addr) (n c n' c' lo hi : Nat) (rows : List (List Nat)) (sk : List Int) (w : World) (hT : Tabs w) (h : RowsR f32v w w.heap.size A n rows) (h' : Reads w w.heap.size 1 A' n' (sk.map i64v)) (hn : n ≤ maxLen) (hn' : n' ≤ maxLen)
    (hz : ∀ (ad : Addr) (k L c2 : Nat), A = some ad → k < n → w.cell? (ad.add k) = some (.slice none L c2) → c2 = 0) :
    Calls Tryz.prog 3 #[.slice A n c, .slice A' n' c', .agg #[.float .f32 lo, .float .f32 hi]] w fun e w' => e = .returned (.bool true) ∧ Below w.heap.size w w' := by
  by_cases h1 : n ≤ 4
  · by_cases h2 : recE rows sk = 0
    · by_cases h3 : levE lo hi = 0
      · by_cases h4 : ∃ (k : Nat) (hk : k < rows.length), 30 < rows[k].length
        · exact law_long A A' n c n' c' lo hi rows sk w hT h h' hn hn' h1 h2 h3 h4
        · exact law_main A A' n c n' c' lo hi rows sk w hT h h' hn hn' hz h1 h2 h3 (fun k hk => by
            rcases Nat.lt_or_ge 30 rows[k].length with h5 | h5
            · exact absurd ⟨k, hk, h5⟩ h4
            · exact h5)
      · exact law_turned A A' n c n' c' lo hi rows sk w hT h h' hn hn' (.inr (.inr h3))
    · exact law_turned A A' n c n' c' lo hi rows sk w hT h h' hn hn' (.inr (.inl h2))
  · exact law_turned A A' n c n' c' lo hi rows sk w hT h h' hn hn' (.inl (by omega))
end Go.Proofs.YthmiamppfncfoaaGreatDoor
