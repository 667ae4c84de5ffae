/- ProbeAligns: where a guard strikes; the law. -/
import Derived.Test.YtboaojkblmddkaaGreatDoorSkCxWr1
import Derived.Test.YtboaojkblmddkaaGreatDoorSkCxOpn
import Derived.Test.YtboaojkblmddkaaGreatDoorSkCxPk1
import Derived.Maps.AppendAt
namespace Go.Proofs.YtboaojkblmddkaaGreatDoor
open Go.RowKit Bn
open Flt

theorem RowsR.nilF (f : Nat → Value) (W : World) : RowsR f W W.heap.size none 0 ([] : List (List Nat)) := ⟨rfl, [], Reads.none_, fun i hi => absurd hi (by simp)⟩

set_option maxHeartbeats 8000000 in
set_option maxRecDepth 100000 in
theorem aligns_main (A A' : Option Addr) (n c n' c' : Nat) (rows : List (List Nat)) (sk : List Int) (w : World) (KV : AwakeOk) (hT : Tabs w) (h : RowsR f32v w w.heap.size A n rows) (h' : Reads w w.heap.size 1 A' n' (sk.map i64v)) (hac' : A' = none → c' = 0)
    (hz : ∀ (ad : Addr) (k L c2 : Nat), A = some ad → k < n → w.cell? (ad.add k) = some (.slice none L c2) → c2 = 0) (hn : n ≤ 10) (hn' : n' ≤ 12) (hall : (∀ r ∈ rows, LenOk r.length 64) ∨ ¬ (∀ r ∈ rows, LenOk r.length 64)) :
    Calls Tryz.prog 7 #[.slice A n c, .slice A' n' c'] w fun e w' => e = .returned (.bool true) ∧ Below w.heap.size w w' := by
  obtain ⟨i1, hi1, hw0, hw1, hw2⟩ := info_parts info_fls
  obtain ⟨i2, hi2, hv0, hv1, hv2⟩ := info_parts info_int
  have HL4 := Lib.hid (fun (k : Nat) W => rLength_any k 64 W)
  have KV := Lib.hid KV
  have d1 : decide ((10 : Int) < (n : Int)) = false := by simpa using (show ¬ ((10 : Int) < n) from by omega)
  have d2 : decide ((12 : Int) < (n' : Int)) = false := by simpa using (show ¬ ((12 : Int) < n') from by omega)
  have HLN := Lib.hid h.1
  have HR := Lib.hid h
  have HR' := Lib.hid h'
  have HZ := Lib.hid hz
  have HAC := Lib.hid hac'
  have HALL := Lib.hid hall
  have HT := Lib.hid hT
  clear hz h h' hac' hall hT
  go_enter Tryz.func7, Tryz.ntmps7
  go_wp2
  go_loopg [5, 24] n (fun q v s W => ∃ j : Nat, j ≤ n ∧ s = .int .i64 j ∧ n - j ≤ q ∧ Grow f32v 22 23 W w.heap.size v j (rows.take j) ∧ Hid (∀ (i : Nat) (hi : i < rows.length), i < j → LenOk rows[i].length 64) ∧ Below w.heap.size w W)
  case atStart => exact ⟨0, Nat.zero_le _, rfl, by omega, Grow.nil, fun i hi h => absurd h (by omega), Below.refl _ _⟩
  case round =>
    obtain ⟨j, hj, rfl, hq, hgrow, hf, hbel⟩ := hrel
    by_cases h0 : j < n
    · obtain ⟨ad, hkl, A1, c1, rfl, hbb, hcell0, hlc, hcm, hrd0⟩ := HR.out.row h0
      have hcell := (hbel.cell (by rw [block_of_add]; exact hbb)).trans hcell0
      have hrd := (hrd0.below hbel).more hbel.size
      have HNX := Lib.hid (fun (e : LenOk rows[j].length 64) => show ∀ (i : Nat) (hi : i < rows.length), i < j + 1 → LenOk rows[i].length 64 from fun i hi hik => by
        rcases Nat.lt_or_ge i j with h9 | h9
        · exact hf.out i hi h9
        · obtain rfl : i = j := by omega
          exact e)
      obtain ⟨hgl, vs, hown, hin⟩ := hgrow
      have hts : rows.take (j + 1) = rows.take j ++ [rows[j]] := List.take_succ_eq_append_getElem hkl
      have HTS := Lib.hid hts
      have HIN := Lib.hid hin
      have HGL := Lib.hid hgl
      have hz1 : A1 = none → c1 = 0 := fun e => by subst e; exact HZ.out ad j rows[j].length c1 rfl h0 hcell0
      generalize rows[j] = R at *
      have hle := hbel.size
      have HC := HL4.out R.length wr
      by_cases he : LenOk R.length 64
      · have HN2 := Lib.hid (HNX.out he)
        have HB := Lib.hid (floats_own A1 R.length c1 R wr hrd (by unfold LenOk at he; omega) hz1)
        unfold LenOk at he
        rw [decide_eq_true he] at HC
        have HC := Lib.hid HC
        clear hts hin hgl hrd hrd0 hz1 hcell0 he HNX hf
        generalize hRL : R.length = RL at *
        have HRLE := Lib.hid hRL
        clear hRL
        go_wp2_with fail
        refine HC.out.mono ?_
        rintro e w1 ⟨rfl, rfl⟩
        go_wp2_with fail
        refine HB.out.mono ?_
        rintro e w3 ⟨v3, rfl, ho3, hb3⟩
        have hown3 := own_belw hown hb3
        obtain ⟨A3, c3, rfl, _, _, _⟩ := own_slice ho3
        clear hown HB HC
        go_wp2_with (at_builtin; refine wpList_append_own _ rfl _ _ 75 rfl w.heap.size 22 i1 (.slice none 0 0) 1 24 Tryz.underlying75 hi1 hw0 hw1 hw2 rfl (by decide) _ _ _ rfl (hown3.alloc _) ⟨w3.heap.size, 0, none⟩ 1 1 [.slice A3 RL c3] rfl rfl ?d1 ?d2 ?d3 ?d4 ?d5 ?_)
        case d1 => exact cell_one_new _ _ _
        case d2 => intro u hu; simp at hu; subst hu; rfl
        case d3 => unfold maxLen; omega
        case d4 => omega
        case d5 => have := hb3.size; simp; omega
        intro v2 w4 hown2 hgrow2 _
        have hb34 : Below w3.heap.size w3 (w3.alloc (.cells #[.slice A3 RL c3] 22)) := (Below.refl _ _).alloc (Nat.le_refl _) _
        have hG : Grow f32v 22 23 w4 w.heap.size v2 (j + 1) (rows.take (j + 1)) := by
          rw [HTS.out]
          exact Grow.snoc HGL.out (hown3.alloc _) (fun i hi => (HIN.out i hi).imp fun u hu => ⟨hu.1, own_belw (own_belw hu.2 hb3) hb34⟩) (by rw [HRLE.out]; exact own_belw (own_mono ho3 hle) hb34) (by decide) hgrow2 hown2
        have hle3 := Nat.le_trans hle hb3.size
        have hb4 : Below w.heap.size w w4 := ((hbel.trans (hb3.mono hle)).trans (hb34.mono hle3)).grown hgrow2 (by simp; omega) (fun g hg => (World.ownsRow.lt hown3 g hg).1)
        clear hgrow2 hown2 hown3 HIN
        go_wp2
        go_roundg (n - (j + 1))
        case measure => omega
        case rel => exact ⟨j + 1, by omega, by go_num, Nat.le_refl _, hG, HN2.out, hb4⟩
      · unfold LenOk at he
        rw [decide_eq_false he] at HC
        have HC := Lib.hid HC
        clear hts hin hgl hrd hrd0 hz1 hcell0 he HNX hf hown
        generalize R.length = RL at *
        go_wp2_with fail
        refine HC.out.mono ?_
        rintro e w1 ⟨rfl, rfl⟩
        go_wp2_with fail
        refine (KV.out _ (HT.out.later hbel)).mono ?_
        rintro e w2 ⟨rfl, hb2⟩
        go_wp2_with fail
        go_ret
        exact ⟨rfl, hbel.trans (hb2.mono hbel.size)⟩
    · obtain rfl : n = j := by omega
      rw [List.take_of_length_le (by have := HLN.out; omega)] at hgrow
      obtain ⟨Ao, co, rfl, hoc, hom, hro⟩ := hgrow.rowsR
      have hrd' := HR'.out.later hbel
      have HRO := Lib.hid hro
      have HRD := Lib.hid hrd'
      clear hgrow hro hrd' hf hj hq h0
      cases A' with
      | none =>
        obtain rfl := HAC.out rfl
        have hn0 : n' = 0 := by
          rcases Nat.eq_zero_or_pos n' with h0 | h0
          · exact h0
          · obtain ⟨ad, e, _⟩ := HRD.out.2 h0
            cases e
        subst hn0
        have hb3 : Below wr.heap.size wr (wr.alloc (.cells #[] 3)) := (Below.refl _ _).alloc (Nat.le_refl _) _
        have hrd3 : Reads (wr.alloc (.cells #[] 3)) (wr.alloc (.cells #[] 3)).heap.size 1 (some ⟨wr.heap.size, 0, none⟩) 0 (sk.map i64v) := ⟨HRD.out.1, fun h0 => absurd h0 (by omega)⟩
        go_wp2_with fail
        generalize wr.alloc (.cells #[] 3) = w3 at *
        have hro3 := HRO.out.later hb3
        have hB3 := hbel.trans (hb3.mono hbel.size)
        clear HRO HRD hb3
        have HCASE : ∃ (N : Nat) (E : Int) (RW : List (List Nat)), (recE rows sk ≠ 0 ∧ E = recE rows sk ∧ RW = [] ∧ N = 0) ∨ (recE rows sk = 0 ∧ ((toT rows sk ≤ frT sk ∧ E = 16 ∧ RW = [] ∧ N = 0) ∨ (¬ toT rows sk ≤ frT sk ∧ E = 0 ∧ RW = algW rows sk ∧ N = n))) := by
          by_cases h1 : recE rows sk = 0
          · by_cases h2 : toT rows sk ≤ frT sk
            · exact ⟨0, 16, [], .inr ⟨h1, .inl ⟨h2, rfl, rfl, rfl⟩⟩⟩
            · exact ⟨n, 0, algW rows sk, .inr ⟨h1, .inr ⟨h2, rfl, rfl, rfl⟩⟩⟩
          · exact ⟨0, recE rows sk, [], .inl ⟨h1, rfl, rfl, rfl⟩⟩
        obtain ⟨N, E, RW, hcase⟩ := HCASE
        have HA := Lib.hid (aligned_all Ao (some ⟨wr.heap.size, 0, none⟩) n co 0 0 N E RW rows sk w3 hro3 hrd3 (by omega) (by omega) hcase)
        have HCK := Lib.hid (fun (W : World) hW hW' => rCheckRecords_any A none n c 0 0 rows sk W hW hW' (by unfold maxLen; omega) (by unfold maxLen; omega))
        have hN10 : N ≤ 10 := by rcases hcase with ⟨_, _, _, h⟩ | ⟨_, ⟨_, _, _, h⟩ | ⟨_, _, _, h⟩⟩ <;> omega
        have hfin : ∀ r ∈ RW, ∀ x ∈ r, fin Ieee.single x = true := by
          rcases hcase with ⟨_, _, h, _⟩ | ⟨h1, ⟨_, _, h, _⟩ | ⟨_, _, h, _⟩⟩
          · rw [h]; intro r hr; cases hr
          · rw [h]; intro r hr; cases hr
          · rw [h]; exact algW_fin rows sk (recE_val rows sk h1).fin
        have hrlen : ∀ r ∈ RW, r.length ≤ maxLen := by
          rcases hcase with ⟨_, _, h, _⟩ | ⟨h1, ⟨_, _, h, _⟩ | ⟨_, _, h, _⟩⟩
          · rw [h]; intro r hr; cases hr
          · rw [h]; intro r hr; cases hr
          · rw [h]; exact algW_short rows sk (recE_val rows sk h1).len
        have HFIN := Lib.hid hfin
        have HRLN := Lib.hid hrlen
        have HCA := Lib.hid hcase
        clear hro3 hrd3 hcase hfin hrlen
        go_wp2_with fail
        refine HA.out.mono ?_
        rintro e w4 ⟨A4, c4, rfl, hr4, hb4⟩
        have hB4 := hB3.trans (hb4.mono hB3.size)
        have HCK4 := Lib.hid (HCK.out w4 (HR.out.later hB4) (HR'.out.later hB4))
        clear HA HCK hb4 hB3
        go_wp2_with fail
        refine HCK4.out.mono ?_
        rintro e w5 ⟨rfl, hb5⟩
        have hB5 := hB4.trans (hb5.mono hB4.size)
        have hr5 := hr4.later hb5
        clear HCK4 hb5 hB4 hr4
        by_cases hE : recE rows sk = 0
        · have hv := recE_val rows sk hE
          have e1 := hv.same
          have e2 := hv.some_
          have e3 := HLN.out
          have e4 := HR'.out.lenM
          omega
        · obtain ⟨_, hE2, hRW, hN0⟩ := HCA.out.resolve_right (fun h => hE h.1)
          subst hRW hN0
          have hr6 : RowsR f32v w5 w5.heap.size none 0 ([] : List (List Nat)) := RowsR.nilF _ _
          generalize recE rows sk = RE at *
          subst hE2
          have e1 : (E == 0) = false := by simpa using hE
          have e2 : decide (E = 0) = false := by simpa using hE
          clear hE HCA hr5
          have eE : ((E : Int) != E) = false := by simp
          go_wp2
          go_loopg [70] 0 (fun q s W => s = .int .i64 0 ∧ W = w5)
          case atStart => exact ⟨rfl, rfl⟩
          case round =>
            obtain ⟨rfl, hW⟩ := hrel
            subst hW
            go_wp2_with fail
            refine (KV.out _ (HT.out.later hB5)).mono ?_
            rintro e w9 ⟨rfl, hb9⟩
            go_wp2_with fail
            go_ret
            exact ⟨rfl, hB5.trans (hb9.mono hB5.size)⟩
      | some a1 =>
        have hone : ∀ u ∈ sk.map i64v, u.oneCell' = true := i64v_one sk
        have HONE := Lib.hid hone
        have hle := hbel.size
        have hbA : Below wr.heap.size wr (wr.alloc (.cells #[] 3)) := (Below.refl _ _).alloc (Nat.le_refl _) _
        clear hone
        go_wp2_with (at_builtin; refine wpList_append_own _ rfl _ _ 34 rfl w.heap.size 3 i2 (.int .i64 0) 1 8 Tryz.underlying34 hi2 hv0 hv1 hv2 rfl (by decide) _ _ _ rfl (own_empty wr w.heap.size 3 hle) a1 n' c' (sk.map i64v) rfl ?f0 ?f1 ?f2 ?f3 ?f4 ?f5 ?_)
        case f0 => rw [HRD.out.1]
        case f1 => exact (HRD.out.later hbA).cellsOver
        case f2 => exact HONE.out
        case f3 => unfold maxLen; omega
        case f4 => omega
        case f5 => have := hbA.size; simp; omega
        intro v1 w3 hown1 hgrow1 _
        have hb3 : Below wr.heap.size wr w3 := hbA.grown hgrow1 (by simp) (fun g hg => by simp [Value.ownBlock] at hg; omega)
        obtain ⟨A3, c3, rfl, hlc3, hcm3, hrd3⟩ := own_slice hown1
        clear hgrow1 hown1 hbA HONE
        have hro3 := HRO.out.later hb3
        have hB3 := hbel.trans (hb3.mono hbel.size)
        clear HRO HRD hb3
        have HCASE : ∃ (N : Nat) (E : Int) (RW : List (List Nat)), (recE rows sk ≠ 0 ∧ E = recE rows sk ∧ RW = [] ∧ N = 0) ∨ (recE rows sk = 0 ∧ ((toT rows sk ≤ frT sk ∧ E = 16 ∧ RW = [] ∧ N = 0) ∨ (¬ toT rows sk ≤ frT sk ∧ E = 0 ∧ RW = algW rows sk ∧ N = n))) := by
          by_cases h1 : recE rows sk = 0
          · by_cases h2 : toT rows sk ≤ frT sk
            · exact ⟨0, 16, [], .inr ⟨h1, .inl ⟨h2, rfl, rfl, rfl⟩⟩⟩
            · exact ⟨n, 0, algW rows sk, .inr ⟨h1, .inr ⟨h2, rfl, rfl, rfl⟩⟩⟩
          · exact ⟨0, recE rows sk, [], .inl ⟨h1, rfl, rfl, rfl⟩⟩
        obtain ⟨N, E, RW, hcase⟩ := HCASE
        have HA := Lib.hid (aligned_all Ao A3 n co n' c3 N E RW rows sk w3 hro3 hrd3 (by omega) (by omega) hcase)
        have HCK := Lib.hid (fun (W : World) hW hW' => rCheckRecords_any A (some a1) n c n' c' rows sk W hW hW' (by unfold maxLen; omega) (by unfold maxLen; omega))
        have hN10 : N ≤ 10 := by rcases hcase with ⟨_, _, _, h⟩ | ⟨_, ⟨_, _, _, h⟩ | ⟨_, _, _, h⟩⟩ <;> omega
        have hfin : ∀ r ∈ RW, ∀ x ∈ r, fin Ieee.single x = true := by
          rcases hcase with ⟨_, _, h, _⟩ | ⟨h1, ⟨_, _, h, _⟩ | ⟨_, _, h, _⟩⟩
          · rw [h]; intro r hr; cases hr
          · rw [h]; intro r hr; cases hr
          · rw [h]; exact algW_fin rows sk (recE_val rows sk h1).fin
        have hrlen : ∀ r ∈ RW, r.length ≤ maxLen := by
          rcases hcase with ⟨_, _, h, _⟩ | ⟨h1, ⟨_, _, h, _⟩ | ⟨_, _, h, _⟩⟩
          · rw [h]; intro r hr; cases hr
          · rw [h]; intro r hr; cases hr
          · rw [h]; exact algW_short rows sk (recE_val rows sk h1).len
        have HFIN := Lib.hid hfin
        have HRLN := Lib.hid hrlen
        have HCA := Lib.hid hcase
        clear hro3 hrd3 hcase hfin hrlen
        go_wp2_with fail
        refine HA.out.mono ?_
        rintro e w4 ⟨A4, c4, rfl, hr4, hb4⟩
        have hB4 := hB3.trans (hb4.mono hB3.size)
        have HCK4 := Lib.hid (HCK.out w4 (HR.out.later hB4) (HR'.out.later hB4))
        clear HA HCK hb4 hB3
        go_wp2_with fail
        refine HCK4.out.mono ?_
        rintro e w5 ⟨rfl, hb5⟩
        have hB5 := hB4.trans (hb5.mono hB4.size)
        have hr5 := hr4.later hb5
        clear HCK4 hb5 hB4 hr4
        by_cases hE : recE rows sk = 0
        · have hv := recE_val rows sk hE
          have hcz := HCA.out
          have hc2 := (hcz.resolve_left (fun h => h.1 hE)).2
          have hc3 : (toT rows sk ≤ frT sk ∧ E = 16 ∧ RW = [] ∧ N = 0) ∨ (¬ toT rows sk ≤ frT sk ∧ E = 0 ∧ RW = algW rows sk ∧ N = n) := by
            rcases hc2 with h | h
            · exact .inl h
            · exact .inr ⟨by omega, h.2⟩
          obtain rfl : n' = n := by have := hv.same; have := HLN.out; have := HR'.out.lenM; omega
          have HRA := Lib.hid (rAligned_any A (some a1) n' c c' N rows sk E RW w5 (HR.out.later hB5) (HR'.out.later hB5) hv hc3)
          generalize recE rows sk = RE at *
          subst hE
          clear hv hcz hc2 hc3 HCA
          go_wp2_with fail
          refine HRA.out.mono ?_
          rintro e w6 ⟨v6, rfl, hgr6, hb6⟩
          obtain ⟨A6, c6, rfl, _, _, hr6⟩ := hgr6.rowsR
          have hB6 := hB5.trans (hb6.mono hB5.size)
          have hr56 := hr5.later hb6
          clear HRA hgr6 hb6 hr5 hB5
          have HRL := Lib.hid hr56
          have HRW := Lib.hid hr6
          have eN : ((N : Int) != (N : Int)) = false := by simp
          have eE : ((E : Int) != E) = false := by simp
          clear hr56 hr6
          go_wp2
          go_loopg [70] N (fun q s W => ∃ i : Nat, i ≤ N ∧ s = .int .i64 i ∧ N - i ≤ q ∧ Below w6.heap.size w6 W)
          case atStart => exact ⟨0, Nat.zero_le _, rfl, by omega, Below.refl _ _⟩
          case round =>
            obtain ⟨i, hi, rfl, hq, hbelx⟩ := hrel
            by_cases h0 : i < N
            · obtain ⟨ad1, hil1, B1, d1', rfl, hbb1, hcell1, _, _, hrd1⟩ := (HRL.out.later hbelx).row h0
              obtain ⟨ad2, hil2, B2, d2', e2, hbb2, hcell2, _, _, hrd2⟩ := (HRW.out.later hbelx).row h0
              subst e2
              rw [List.getElem_map] at hcell1 hrd1
              rw [List.length_map] at hcell1 hrd1
              have HSF := Lib.hid (fun (W : World) (hb : Below wr.heap.size wr W) => sameFloats_posz B1 B2 RW[i].length d1' d2' RW[i] W (hrd1.later hb) (hrd2.later hb) (HRLN.out _ (List.getElem_mem hil2)) (HFIN.out _ (List.getElem_mem hil2)))
              generalize RW[i] = R at *
              generalize R.length = RL at *
              have hblt1 : (ad1.add i).block < wr.heap.size := by rw [block_of_add]; exact hbb1
              have hblt2 : (ad2.add i).block < wr.heap.size := by rw [block_of_add]; exact hbb2
              clear hrd1 hrd2
              go_wp2_with fail
              go_region_held3 (fun w' => w'.cell? (ad1.add i) = some (.slice B1 RL d1') ∧ w'.cell? (ad2.add i) = some (.slice B2 RL d2'))
                ((first | exact ⟨hcell1, hcell2⟩ | exact ⟨y1, y2⟩))
                ((go_at_call 44; refine (HSF.out wr.drew (Below.refl _ _).drew).mono ?_; rintro e w8 ⟨rfl, hb8'⟩; have hb8 : Below wr.heap.size wr w8 := ⟨hb8'.os, hb8'.tape, hb8'.output, hb8'.size, hb8'.block⟩; clear hb8'; have y1 := (hb8.cell hblt1).trans hcell1; have y2 := (hb8.cell hblt2).trans hcell2))
              go_wp2
              go_roundg (N - (i + 1))
              case measure => omega
              case rel => exact ⟨i + 1, by omega, by go_num, Nat.le_refl _, hbelx.trans (hb8.mono hbelx.size)⟩
            · obtain rfl : N = i := by omega
              have hB9 := hB6.trans (hbelx.mono hB6.size)
              go_wp2_with fail
              refine (KV.out _ (HT.out.later hB9)).mono ?_
              rintro e w9 ⟨rfl, hb9⟩
              go_wp2_with fail
              go_ret
              exact ⟨rfl, hB9.trans (hb9.mono hB9.size)⟩
        · obtain ⟨_, hE2, hRW, hN0⟩ := HCA.out.resolve_right (fun h => hE h.1)
          subst hRW hN0
          have hr6 : RowsR f32v w5 w5.heap.size none 0 ([] : List (List Nat)) := RowsR.nilF _ _
          generalize recE rows sk = RE at *
          subst hE2
          have e1 : (E == 0) = false := by simpa using hE
          have e2 : decide (E = 0) = false := by simpa using hE
          clear hE HCA hr5
          have eE : ((E : Int) != E) = false := by simp
          go_wp2
          go_loopg [70] 0 (fun q s W => s = .int .i64 0 ∧ W = w5)
          case atStart => exact ⟨rfl, rfl⟩
          case round =>
            obtain ⟨rfl, hW⟩ := hrel
            subst hW
            go_wp2_with fail
            refine (KV.out _ (HT.out.later hB5)).mono ?_
            rintro e w9 ⟨rfl, hb9⟩
            go_wp2_with fail
            go_ret
            exact ⟨rfl, hB5.trans (hb9.mono hB5.size)⟩

end Go.Proofs.YtboaojkblmddkaaGreatDoor

/- ProbeSkews: plain facts; where a guard strikes. -/
namespace Go.Proofs.YtboaojkblmddkaaGreatDoor
open Go.RowKit Bn

/-- does the law take these arguments -/
def SkOk (l : List Nat) (n : Nat) (m : Int) : Prop := l.length ≤ 64 ∧ smpE l = 0 ∧ 1 ≤ n ∧ n ≤ 6 ∧ -100 ≤ m ∧ m ≤ 100

set_option maxHeartbeats 2000000 in
set_option maxRecDepth 100000 in
theorem skews_turned (A A' : Option Addr) (N c n c' : Nat) (m : Int) (l : List Nat) (w : World) (KV : AwakeOk) (hT : Tabs w) (h : Reads w w.heap.size 1 A N (l.map f32v)) (hN : N ≤ maxLen) (hn : n ≤ maxLen)
    (hg : ¬ SkOk l n m) :
    Calls Tryz.prog 10 #[.slice A N c, .slice A' n c', .int .i64 m] w fun e w' => e = .returned (.bool true) ∧ Below w.heap.size w w' := by
  have hl := h.lenM
  have HCS := Lib.hid (rCheckSamples_any A N c l w h hN)
  have KV := Lib.hid KV
  unfold SkOk at hg
  unfold maxLen at hn hN
  rw [hl] at hg
  by_cases h1 : N ≤ 64
  · have d1 : decide ((64 : Int) < (N : Int)) = false := by simpa using (show ¬ (64 : Int) < N from by omega)
    by_cases h2 : smpE l = 0
    · rw [h2] at HCS
      by_cases h3 : n = 0
      · subst h3
        clear hg h h1 h2 hl
        go_enter Tryz.func10, Tryz.ntmps10
        go_wp2_with fail
        refine HCS.out.mono ?_
        rintro e w1 ⟨rfl, hb1⟩
        go_wp2_with fail
        refine (KV.out _ (hT.later hb1)).mono ?_
        rintro e w2 ⟨rfl, hb2⟩
        go_wp2_with fail
        go_ret
        exact ⟨rfl, hb1.trans (hb2.mono hb1.size)⟩
      · have d3 : ((n : Int) == 0) = false := by rw [beq_eq_false_iff_ne]; omega
        by_cases h4 : n ≤ 6
        · have d4 : decide ((6 : Int) < (n : Int)) = false := by simpa using (show ¬ (6 : Int) < n from by omega)
          by_cases h5 : m < -100
          · have d5 : decide (m < -100) = true := by simpa using h5
            clear hg h h1 h2 h3 h4 h5 hl
            go_enter Tryz.func10, Tryz.ntmps10
            go_wp2_with fail
            refine HCS.out.mono ?_
            rintro e w1 ⟨rfl, hb1⟩
            go_wp2_with fail
            refine (KV.out _ (hT.later hb1)).mono ?_
            rintro e w2 ⟨rfl, hb2⟩
            go_wp2_with fail
            go_ret
            exact ⟨rfl, hb1.trans (hb2.mono hb1.size)⟩
          · have d5 : decide (m < -100) = false := by simpa using h5
            have d6 : decide (100 < m) = true := by
              simp only [decide_eq_true_eq]
              rcases Int.lt_or_le 100 m with h | h
              · exact h
              · exact absurd ⟨h1, h2, by omega, h4, by omega, h⟩ hg
            clear hg h h1 h2 h3 h4 h5 hl
            go_enter Tryz.func10, Tryz.ntmps10
            go_wp2_with fail
            refine HCS.out.mono ?_
            rintro e w1 ⟨rfl, hb1⟩
            go_wp2_with fail
            refine (KV.out _ (hT.later hb1)).mono ?_
            rintro e w2 ⟨rfl, hb2⟩
            go_wp2_with fail
            go_ret
            exact ⟨rfl, hb1.trans (hb2.mono hb1.size)⟩
        · have d4 : decide ((6 : Int) < (n : Int)) = true := by simpa using (show (6 : Int) < n from by omega)
          clear hg h h1 h2 h3 h4 hl
          go_enter Tryz.func10, Tryz.ntmps10
          go_wp2_with fail
          refine HCS.out.mono ?_
          rintro e w1 ⟨rfl, hb1⟩
          go_wp2_with fail
          refine (KV.out _ (hT.later hb1)).mono ?_
          rintro e w2 ⟨rfl, hb2⟩
          go_wp2_with fail
          go_ret
          exact ⟨rfl, hb1.trans (hb2.mono hb1.size)⟩
    · have d2 : (smpE l != 0) = true := by rw [bne_iff_ne]; exact h2
      generalize smpE l = E at *
      clear hg h h1 h2 hl
      go_enter Tryz.func10, Tryz.ntmps10
      go_wp2_with fail
      refine HCS.out.mono ?_
      rintro e w1 ⟨rfl, hb1⟩
      go_wp2_with fail
      refine (KV.out _ (hT.later hb1)).mono ?_
      rintro e w2 ⟨rfl, hb2⟩
      go_wp2_with fail
      go_ret
      exact ⟨rfl, hb1.trans (hb2.mono hb1.size)⟩
  · have d1 : decide ((64 : Int) < (N : Int)) = true := by simpa using (show (64 : Int) < N from by omega)
    clear hg h h1 hl HCS
    go_enter Tryz.func10, Tryz.ntmps10
    go_wp2_with fail
    refine (KV.out _ hT).mono ?_
    rintro e w2 ⟨rfl, hb2⟩
    go_wp2_with fail
    go_ret
    exact ⟨rfl, hb2⟩

end Go.Proofs.YtboaojkblmddkaaGreatDoor

/- ProbeSkews: plain facts of cuts. -/
namespace Go.Proofs.YtboaojkblmddkaaGreatDoor
open Go.RowKit Bn
open Flt

def cutOk (N : Nat) (p : Int × Int) : Prop := 0 ≤ p.1 ∧ p.1 ≤ p.2 ∧ p.2 ≤ (N : Int)
def cutR (l : List Nat) (p : Int × Int) : List Nat := (l.drop p.1.toNat).take (p.2 - p.1).toNat
def frC (C : List (Int × Int)) : Int := C.foldl (fun a p => max a p.1) 0
def toC (N : Nat) (C : List (Int × Int)) : Int := C.foldl (fun a p => min a p.2) (N : Int)

theorem frC_snoc (C : List (Int × Int)) (p : Int × Int) : frC (C ++ [p]) = max (frC C) p.1 := by simp [frC, List.foldl_append]
theorem toC_snoc (N : Nat) (C : List (Int × Int)) (p : Int × Int) : toC N (C ++ [p]) = min (toC N C) p.2 := by simp [toC, List.foldl_append]

theorem cutR_len (l : List Nat) (p : Int × Int) (h : cutOk l.length p) : (cutR l p).length = (p.2 - p.1).toNat := by
  obtain ⟨h1, h2, h3⟩ := h
  unfold cutR
  rw [List.length_take, List.length_drop]
  omega

theorem fr_shift (m : Int) : ∀ (C : List (Int × Int)) (a : Int), (C.map fun p => m - p.1).foldl (fun a s => max a (-s)) (a - m) = C.foldl (fun a p => max a p.1) a - m
  | [], a => rfl
  | p :: t, a => by
    rw [List.map_cons, List.foldl_cons, List.foldl_cons, ← fr_shift m t (max a p.1)]
    congr 1
    omega
theorem to_shift (l : List Nat) (m : Int) : ∀ (C : List (Int × Int)) (a : Int), (∀ p ∈ C, cutOk l.length p) → ((C.map (cutR l)).zip (C.map fun p => m - p.1)).foldl (fun a p => min a ((p.1.length : Int) - p.2)) (a - m) = C.foldl (fun a p => min a p.2) a - m
  | [], a, _ => rfl
  | p :: t, a, h => by
    have hp := h p (List.mem_cons_self ..)
    rw [List.map_cons, List.map_cons, List.zip_cons_cons, List.foldl_cons, List.foldl_cons, ← to_shift l m t (min a p.2) (fun q hq => h q (List.mem_cons_of_mem _ hq))]
    congr 1
    dsimp only
    rw [cutR_len l p hp]
    obtain ⟨h1, h2, h3⟩ := hp
    omega

theorem frT_cuts (N : Nat) (m : Int) (C : List (Int × Int)) (h : ∀ p ∈ C, cutOk N p) (h0 : 0 < C.length) (_hN : N ≤ 64) (hm : -100 ≤ m ∧ m ≤ 100) : frT (C.map fun p => m - p.1) = frC C - m := by
  cases C with
  | nil => simp at h0
  | cons p t =>
    obtain ⟨h1, h2, h3⟩ := h p (List.mem_cons_self ..)
    unfold frT frC
    rw [List.map_cons, List.foldl_cons, List.foldl_cons, show max (-1000) (-(m - p.1)) = p.1 - m from by omega, fr_shift, show max 0 p.1 = p.1 from by omega]
theorem toT_cuts (l : List Nat) (m : Int) (C : List (Int × Int)) (h : ∀ p ∈ C, cutOk l.length p) (h0 : 0 < C.length) (hN : l.length ≤ 64) (hm : -100 ≤ m ∧ m ≤ 100) : toT (C.map (cutR l)) (C.map fun p => m - p.1) = toC l.length C - m := by
  cases C with
  | nil => simp at h0
  | cons p t =>
    have hp := h p (List.mem_cons_self ..)
    unfold toT toC
    rw [List.map_cons, List.map_cons, List.zip_cons_cons, List.foldl_cons, List.foldl_cons]
    dsimp only
    rw [cutR_len l p hp]
    obtain ⟨h1, h2, h3⟩ := hp
    rw [show min (5096 : Int) ((((p.2 - p.1).toNat : Nat) : Int) - (m - p.1)) = p.2 - m from by omega, to_shift l m t p.2 (fun q hq => h q (List.mem_cons_of_mem _ hq)), show min (l.length : Int) p.2 = p.2 from by omega]

theorem frC_le (C : List (Int × Int)) : ∀ a, (a ≤ C.foldl (fun a p => max a p.1) a) ∧ ∀ p ∈ C, p.1 ≤ C.foldl (fun a p => max a p.1) a := by
  induction C with
  | nil => exact fun a => ⟨Int.le_refl _, fun p hp => by cases hp⟩
  | cons q t ih =>
    intro a
    obtain ⟨h1, h2⟩ := ih (max a q.1)
    rw [List.foldl_cons]
    refine ⟨by omega, fun p hp => ?_⟩
    rcases List.mem_cons.1 hp with rfl | hp
    · omega
    · exact h2 p hp
theorem toC_le (C : List (Int × Int)) : ∀ a : Int, (C.foldl (fun a p => min a p.2) a ≤ a) ∧ ∀ p ∈ C, C.foldl (fun a p => min a p.2) a ≤ p.2 := by
  induction C with
  | nil => exact fun a => ⟨Int.le_refl _, fun p hp => by cases hp⟩
  | cons q t ih =>
    intro a
    obtain ⟨h1, h2⟩ := ih (min a q.2)
    rw [List.foldl_cons]
    refine ⟨by omega, fun p hp => ?_⟩
    rcases List.mem_cons.1 hp with rfl | hp
    · omega
    · exact h2 p hp

/-- the common part -/
def midL (l : List Nat) (C : List (Int × Int)) : List Nat := (l.drop (frC C).toNat).take (toC l.length C - frC C).toNat

theorem algw_cut (l : List Nat) (m F T : Int) (p : Int × Int) (h : cutOk l.length p) (h1 : p.1 ≤ F) (h2 : T ≤ p.2) (h3 : F ≤ T) : algw (F - m) (T - m) (cutR l p) (m - p.1) = (l.drop F.toNat).take (T - F).toNat := by
  obtain ⟨g1, g2, g3⟩ := h
  unfold algw cutR
  rw [List.drop_take, List.take_take, List.drop_drop, show T - m - (F - m) = T - F from by omega, show p.1.toNat + (F - m + (m - p.1)).toNat = F.toNat from by omega]
  congr 1
  omega

theorem algW_cuts (l : List Nat) (m : Int) (C : List (Int × Int)) (h : ∀ p ∈ C, cutOk l.length p) (h0 : 0 < C.length) (hN : l.length ≤ 64) (hm : -100 ≤ m ∧ m ≤ 100) (hft : frC C ≤ toC l.length C) :
    algW (C.map (cutR l)) (C.map fun p => m - p.1) = List.replicate C.length (midL l C) := by
  unfold algW
  rw [frT_cuts l.length m C h h0 hN hm, toT_cuts l m C h h0 hN hm]
  apply List.ext_getElem
  · simp
  · intro i h1 h2
    simp only [List.getElem_zipWith, List.getElem_map, List.getElem_replicate]
    have hi : i < C.length := by simpa using h2
    have hm2 := List.getElem_mem hi
    exact algw_cut l m _ _ C[i] (h _ hm2) ((frC_le C 0).2 _ hm2) ((toC_le C (l.length : Int)).2 _ hm2) hft

theorem recE_cuts (l : List Nat) (m : Int) (C : List (Int × Int)) (h : ∀ p ∈ C, cutOk l.length p) (h0 : 0 < C.length) (h6 : C.length ≤ 6) (hN : l.length ≤ 64) (hm : -100 ≤ m ∧ m ≤ 100) (hl : smpE l = 0) :
    recE (C.map (cutR l)) (C.map fun p => m - p.1) = 0 := by
  have hall : l.all (fin Ieee.single) = true := by
    unfold smpE at hl
    rw [if_neg (by omega)] at hl
    by_cases h : l.all (fin Ieee.single) = true
    · exact h
    · rw [if_neg h] at hl; cases hl
  have hs : ∀ p ∈ C, smpE (cutR l p) = 0 := by
    intro p hp
    have hlen := cutR_len l p (h p hp)
    obtain ⟨h1, h2, h3⟩ := h p hp
    unfold smpE
    rw [if_neg (by omega), if_pos]
    rw [List.all_eq_true] at hall ⊢
    exact fun x hx => hall x (List.mem_of_mem_drop (List.mem_of_mem_take hx))
  have hf : firstE ((C.map (cutR l)).map smpE) = 0 := by
    rw [List.map_map]
    have : ∀ D : List (Int × Int), (∀ p ∈ D, smpE (cutR l p) = 0) → firstE (D.map (smpE ∘ cutR l)) = 0 := by
      intro D
      induction D with
      | nil => intro _; rfl
      | cons p t ih =>
        intro hD
        have e : firstE (smpE (cutR l p) :: t.map (smpE ∘ cutR l)) = if smpE (cutR l p) ≠ 0 then smpE (cutR l p) else firstE (t.map (smpE ∘ cutR l)) := rfl
        show firstE (smpE (cutR l p) :: t.map (smpE ∘ cutR l)) = 0
        rw [e, hD p (List.mem_cons_self ..), if_neg (by simp)]
        exact ih fun q hq => hD q (List.mem_cons_of_mem _ hq)
    exact this C hs
  unfold recE
  rw [List.length_map, List.length_map, if_neg (by omega), if_neg (by omega), hf, if_neg (by simp), if_neg (by simp), if_pos]
  rw [List.all_eq_true]
  intro s hs
  obtain ⟨p, hp, rfl⟩ := List.mem_map.1 hs
  obtain ⟨h1, h2, h3⟩ := h p hp
  unfold smallS
  simp
  omega

end Go.Proofs.YtboaojkblmddkaaGreatDoor

/- ProbeSkews: a copy of samples, as a row of one's own. -/
namespace Go.Proofs.YtboaojkblmddkaaGreatDoor
open Go.RowKit Bn

set_option maxHeartbeats 2000000 in
/-- a copy of samples -/
theorem floats_ownK (A : Option Addr) (n c : Nat) (l : List Nat) (w : World) (h : Reads w w.heap.size 1 A n (l.map f32v)) (hn : n ≤ 140737488355328 / 8) (hc : A = none → c = 0) :
    Calls Tryz.prog 14 #[.slice A n c] w fun e w' => ∃ v, e = .returned v ∧ w'.ownsRow w.heap.size 23 1 v n (l.map f32v) ∧ Below w.heap.size w w' := by
  have hL := h.lenM
  have hbA : Below w.heap.size w (w.alloc (.cells #[] 23)) := (Below.refl _ _).alloc (Nat.le_refl _) _
  cases A with
  | none =>
    obtain rfl := hc rfl
    have hl : l = [] := by
      cases l with
      | nil => rfl
      | cons x t =>
        obtain ⟨ad9, e9, _⟩ := h.2 (by simp at hL; omega)
        cases e9
    subst hl
    obtain rfl : 0 = n := hL
    have ho := own_empty w w.heap.size 23 (Nat.le_refl _)
    clear h hc
    go_enter Tryz.func14, Tryz.ntmps14
    go_wp2
    go_ret
    exact ⟨_, rfl, ho, hbA⟩
  | some a1 =>
    obtain ⟨i0, hi0, hz0, hz1, hz2⟩ := info_parts info_f32
    have hone : ∀ u ∈ l.map f32v, u.oneCell' = true := f32v_one l
    have HONE := Lib.hid hone
    have HRD := Lib.hid h
    clear h hone hc
    go_enter Tryz.func14, Tryz.ntmps14
    go_wp2_with (at_builtin; refine wpList_append_own _ rfl _ _ 22 rfl w.heap.size 23 i0 (.float .f32 0) 1 4 Tryz.underlying22 hi0 hz0 hz1 hz2 rfl (by decide) _ _ _ rfl (own_empty w w.heap.size 23 (Nat.le_refl _)) a1 n c (l.map f32v) rfl ?c0 ?c1 ?c2 ?c3 ?c4 ?c5 ?_)
    case c0 => rw [List.length_map]; omega
    case c1 => exact (HRD.out.below ((Below.refl _ _).alloc (Nat.le_refl _) _)).cellsOver
    case c2 => exact HONE.out
    case c3 => unfold maxLen; omega
    case c4 => omega
    case c5 => simp
    intro v1 w3 hown1 hgrow1 _
    have hb3 : Below w.heap.size w w3 := hbA.grown hgrow1 (by simp) (fun g hg => by simp [Value.ownBlock] at hg; omega)
    clear hgrow1 hbA
    go_wp2
    go_ret
    exact ⟨v1, rfl, hown1, hb3⟩

/-- a block of another type is no row's block -/
theorem CBlk.apart {w : World} {g B n : Nat} {c : Array Value} {t e : TypeId} {v : Value} {xs : List Value} (h : CBlk w g c t) (ho : w.ownsRow B e 1 v n xs) (hne : t ≠ e) : v.ownBlock ≠ some g := by
  rcases ho.2 with ⟨rfl, _⟩ | ⟨g', cap, cur, rfl, hb, hg, _⟩
  · simp [Value.ownBlock]
  · intro e1
    have e2 : g' = g := by simpa [Value.ownBlock] using e1
    subst e2
    unfold CBlk at h
    rw [h] at hg
    injection hg with hg
    injection hg with _ h3
    exact hne h3

/-- an append to a row of another type leaves a growing slice of rows as it is -/
theorem Grow.grownBy {α : Type} {f : α → Value} {tS tE te : TypeId} {W W' : World} {B B' n m : Nat} {v x : Value} {rows : List (List α)} {xs : List Value} (h : Grow f tS tE W B v n rows)
    (ho : W.ownsRow B' te 1 x m xs) (h1 : tS ≠ te) (h2 : tE ≠ te) (hg : W.grownBy W' x.ownBlock) : Grow f tS tE W' B v n rows := by
  obtain ⟨hl, vs, hown, hin⟩ := h
  refine ⟨hl, vs, hown.kept hg (own_apart hown ho h1), fun i hi => ?_⟩
  obtain ⟨u, h3, h4⟩ := hin i hi
  exact ⟨u, h3, h4.kept hg (own_apart h4 ho h2)⟩

/-- append at an operation that is handed its continuation; where the new row lies -/
theorem wp_append_own_at {P : Program} {w : World} {o : Oper} {a : Act} {K : Act → World → Prop} {Q : Exit → Act → World → Prop} (s x : Operand) (t : TypeId)
    (ho : o.op = .call { callee := .builtin .append, args := #[s, x], argTypes := #[t, t] })
    (base : Nat) (e : TypeId) (i : TypeInfo) (z : Value) (size bytes : Nat) (ht : P.underlying t = some (.slice e)) (hi : P.info? e = some i) (hz : i.zero = some z)
    (hsize : i.size = size) (hby : i.bytes = bytes) (hzs : z.cells.size = size) (hsz : 0 < size)
    (v : Value) (n : Nat) (xs : List Value) (hs : a.eval s = v) (hown : w.ownsRow base e size v n xs)
    (ad : Addr) (m c : Nat) (news : List Value) (hx : a.eval x = .slice (some ad) m c) (hl : news.length = m * size) (hnews : ∀ j u, news[j]? = some u → w.cell? (ad.add j) = some u) (h1 : ∀ u ∈ news, u.oneCell' = true)
    (h63 : n + m ≤ maxLen) (hbytes : (n + m) * bytes ≤ 140737488355328) (hbase : base ≤ w.heap.size)
    (h : ∀ v' w', w'.ownsRow base e size v' (n + m) (xs ++ news) → w.grownBy w' v.ownBlock → (v'.ownBlock = v.ownBlock ∨ v'.ownBlock = some w.heap.size) → K (a.put o.dst v') w') : o.wp P a w K Q := by
  obtain ⟨v', w', hr, h2, h3, _, h5⟩ := run_append_own_at (P := P) w base t o.type e i z size bytes ht hi hz hsize hby hzs hsz v n xs hown ad m c news hl hnews h1 h63 hbytes hbase
  unfold Oper.wp execOp
  simp only [ho, resolve, invoke, builtin, Sem.run_bind, Sem.run_pure, Result.andThen_ok, List.map_toArray, List.map_cons, List.map_nil, hs, hx, hr]
  exact h v' w' h2 h3 h5

/-- one row is appended to; another one, apart from it, stays apart -/
theorem apart_app {y8 y9 y' : Value} {g : Nat} (h : y8.ownBlock = none ∨ y8.ownBlock ≠ y9.ownBlock) (hl : ∀ k, y9.ownBlock = some k → k < g) (hat : y'.ownBlock = y8.ownBlock ∨ y'.ownBlock = some g) : y'.ownBlock = none ∨ y'.ownBlock ≠ y9.ownBlock := by
  rcases hat with h1 | h1
  · rw [h1]; exact h
  · right
    rw [h1]
    intro e
    exact Nat.lt_irrefl _ (hl g e.symm)
theorem apart_symm {y8 y9 : Value} (h : y8.ownBlock = none ∨ y8.ownBlock ≠ y9.ownBlock) : y9.ownBlock = none ∨ y9.ownBlock ≠ y8.ownBlock := by
  rcases h with h | h
  · rw [h]
    cases y9.ownBlock <;> simp
  · exact .inr (fun e => h e.symm)
/-- appended to: where the row lies below a mark, or new -/
theorem block_app {y y' : Value} {g j : Nat} (h : y.ownBlock ≠ some j) (hj : j < g) (hat : y'.ownBlock = y.ownBlock ∨ y'.ownBlock = some g) : y'.ownBlock ≠ some j := by
  rcases hat with h1 | h1
  · rw [h1]; exact h
  · rw [h1]
    intro e
    injection e with e
    omega

end Go.Proofs.YtboaojkblmddkaaGreatDoor
