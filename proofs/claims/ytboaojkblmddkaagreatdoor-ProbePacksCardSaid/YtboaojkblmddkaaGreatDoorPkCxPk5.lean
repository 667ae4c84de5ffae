/- probe's Unpack of no blocks; where a guard of ProbePacks strikes. -/
import Derived.Test.YtboaojkblmddkaaGreatDoorPkCxPk2
import Derived.Test.YtboaojkblmddkaaGreatDoorCUnp
import Derived.BigQuiet
import Derived.Deep.LoopGhost
import Derived.Test.YtboaojkblmddkaaGreatDoorCAwj
namespace Go.Proofs.YtboaojkblmddkaaGreatDoor
open Go.RowKit Bn

/-- the chapter's examples answer -/
def AwakeOk : Prop := ∀ W : World, Tabs W → Calls Tryz.prog 12 #[] W fun e w' => e = .returned (.bool true) ∧ Below W.heap.size W w'

set_option maxHeartbeats 1000000 in
set_option maxRecDepth 100000 in
theorem unpack_nil (A : Option Addr) (c : Nat) (w : World) :
    Calls Tryz.prog 37 #[.slice A 0 c, .int .i64 0] w fun e w' => ∃ A', e = .returned (.tuple #[.slice A' 0 0, .int .i64 0]) ∧ Below w.heap.size w w' := by
  obtain ⟨i0, hi0, hz0, hz1, hz2⟩ := info_parts info_u16
  have H1 := catMost_block A 0 c 256 w
  have H2 := cinRange_any 0 0 4096 w
  have hr : rangeE 0 0 4096 = 0 := by decide
  rw [hr] at H2
  have H3 := fun W : World => blocksFor_any 0 W (by omega)
  have K1 := Lib.hid H1
  have K2 := Lib.hid H2
  have K3 := Lib.hid H3
  clear H1 H2 H3 hr
  go_enter Tryz.func37, Tryz.ntmps37
  go_wp2_with fail
  refine K1.out.mono ?_
  rintro e w1 ⟨rfl, rfl⟩
  go_wp2_with fail
  refine K2.out.mono ?_
  rintro e w1 ⟨rfl, rfl⟩
  go_wp2_with fail
  refine (cfirst_two 0 0 w 29 w.heap.size rfl).mono ?_
  rintro e w1 ⟨rfl, rfl⟩
  have hb1 : Below w.heap.size w (w.alloc (.cells #[.int .i64 0, .int .i64 0] 29)) := (Below.refl _ _).alloc (Nat.le_refl _) _
  generalize w.alloc (.cells #[.int .i64 0, .int .i64 0] 29) = w1 at *
  go_wp2_with fail
  refine (K3.out _).mono ?_
  rintro e w2 ⟨rfl, rfl⟩
  go_wp2_with (at_make; refine wpList_make_own _ rfl _ _ 51 rfl w1.heap.size 63 i0 (.int .u16 0) 1 Tryz.underlying51 hi0 hz0 hz1 _ _ _ 0 rfl rfl (by omega) ?b2 ?b3 (Nat.le_refl _) ?_)
  case b2 => rw [hz2]; omega
  case b3 => unfold maxLen; omega
  intro w2 hown0 hgrow0
  have hB2 : Below w.heap.size w w2 := hb1.trans ((gnone hgrow0 (Nat.le_refl _)).mono hb1.size)
  clear hgrow0 hown0
  go_wp2
  go_loopg [7, 30] 0 (fun q v s W => v = .slice (some ⟨w1.heap.size, 0, none⟩) 0 0 ∧ s = .int .i64 0 ∧ W = w2)
  case atStart => exact ⟨rfl, rfl, rfl⟩
  case round =>
    obtain ⟨rfl, rfl, hW⟩ := hrel
    obtain rfl : w2 = wr := hW.symm
    clear hW
    go_wp2_with fail
    refine (containsFunc_zero _ 0 _ w2 ⟨rfl, fun h0 => absurd h0 (by omega)⟩ (by omega)).mono ?_
    rintro e w4 ⟨rfl, rfl⟩
    go_wp2_with fail
    go_ret2
    exact ⟨_, rfl, hB2⟩

theorem unpack_all (g n c : Nat) (ws : List Nat) (F : List Value) (w : World) (hblk : w.heap[g]? = some (.cells F.toArray 64 (0, 0))) (hF : F = ws.map u16v ++ List.replicate (16 * ((n + 15) / 16) - n) (u16v 0)) (hl : ws.length = n) (hn : n ≤ 4096) :
    Calls Tryz.prog 37 #[.slice (some ⟨g, 0, none⟩) ((n + 15) / 16) c, .int .i64 n] w fun e w' => ∃ A', e = .returned (.tuple #[.slice A' n n, .int .i64 0]) ∧ Reads w' w'.heap.size 1 A' n (ws.map u16v) ∧ Below w.heap.size w w' := by
  by_cases h0 : 1 ≤ n
  · exact unpack_ok g n c ws F w hblk hF hl h0 hn
  · obtain rfl : n = 0 := by omega
    refine (unpack_nil (some ⟨g, 0, none⟩) c w).mono ?_
    rintro e w' ⟨A', he, hb⟩
    refine ⟨A', he, ⟨?_, fun h => absurd h (by omega)⟩, hb⟩
    rw [List.length_map, hl]

set_option maxHeartbeats 2000000 in
set_option maxRecDepth 100000 in
/-- a guard of the law turns the input away: the chapter's examples answer -/
theorem pack_turned (A : Option Addr) (n c : Nat) (rows : List (List Bool)) (w : World) (KV : AwakeOk) (hT : Tabs w) (h : RowsR boolv w w.heap.size A n rows) (hn : n ≤ maxLen)
    (hg : 16 < n ∨ linE rows ≠ 0 ∨ ∃ h0 : 0 < rows.length, 40 < rows[0].length) :
    Calls Tryz.prog 9 #[.slice A n c] w fun e w' => e = .returned (.bool true) ∧ Below w.heap.size w w' := by
  have K1 := Lib.hid (rCheckLines_any A n c rows w h hn)
  have KV := Lib.hid KV
  unfold maxLen at hn
  by_cases h1 : 16 < n
  · have d1 : decide ((16 : Int) < (n : Int)) = true := by simpa using (show (16 : Int) < n from by omega)
    clear hg K1 h
    go_enter Tryz.func9, Tryz.ntmps9
    go_wp2_with fail
    refine (KV.out _ hT).mono ?_
    rintro e w2 ⟨rfl, hb2⟩
    go_wp2_with fail
    go_ret
    exact ⟨rfl, hb2⟩
  · have d1 : decide ((16 : Int) < (n : Int)) = false := by simpa using (show ¬ ((16 : Int) < n) from by omega)
    by_cases h2 : linE rows = 0
    · obtain ⟨h3, h4⟩ := (hg.resolve_left h1).resolve_left (fun h => h h2)
      rw [h2] at K1
      have hrl := h.1
      obtain ⟨ad, hr0, A0, c0, rfl, hb0, hc0, _, _, _⟩ := h.row (k := 0) (by omega)
      have hzz : Addr.add ad 0 = ad := rfl
      rw [hzz] at hc0
      generalize rows[0].length = m at *
      have d2 : decide ((40 : Int) < (m : Int)) = true := by simpa using (show (40 : Int) < m from by omega)
      have hp0 : (0 : Int) < (n : Int) := by omega
      have hp1 : 0 < n := by omega
      clear hg h1 h2 hzz h hrl
      go_enter Tryz.func9, Tryz.ntmps9
      go_wp2_with fail
      refine K1.out.mono ?_
      rintro e w1 ⟨rfl, hb1⟩
      have hc1 := (hb1.cell hb0).trans hc0
      go_wp2_with fail
      refine (KV.out _ (hT.later hb1)).mono ?_
      rintro e w2 ⟨rfl, hb2⟩
      go_wp2_with fail
      go_ret
      exact ⟨rfl, hb1.trans (hb2.mono hb1.size)⟩
    · generalize linE rows = r at *
      have d3 : (r != 0) = true := by simpa using h2
      have d4 : (r == 0) = false := by simpa using h2
      have d5 : decide (r = 0) = false := by simpa using h2
      clear hg h1 h2 h
      go_enter Tryz.func9, Tryz.ntmps9
      go_wp2_with fail
      refine K1.out.mono ?_
      rintro e w1 ⟨rfl, hb1⟩
      go_wp2_with fail
      refine (KV.out _ (hT.later hb1)).mono ?_
      rintro e w2 ⟨rfl, hb2⟩
      go_wp2_with fail
      go_ret
      exact ⟨rfl, hb1.trans (hb2.mono hb1.size)⟩

end Go.Proofs.YtboaojkblmddkaaGreatDoor

/- ProbePacks: the main case. -/
namespace Go.Proofs.YtboaojkblmddkaaGreatDoor
open Go.RowKit Bn

theorem wd_high (rows : List (List Bool)) (m b : Nat) (h : rows.length ≤ b) : bitL ((List.range m).map (wd rows)) b = List.replicate m false := by
  apply List.ext_getElem
  · simp [bitL]
  · intro j h1 h2
    have hj : j < m := by simpa [bitL] using h1
    have hlt := wd_lt rows j
    have hp : 2 ^ rows.length ≤ 2 ^ b := Nat.pow_le_pow_right (by omega) h
    have e : wd rows j / 2 ^ b = 0 := Nat.div_eq_of_lt (by omega)
    simp [bitL, e]

/-- the word at place j of the blocks of ws -/
def blkW (ws : List Nat) (j : Nat) : Nat := ws.getD j 0
theorem blk_words (ws : List Nat) (n k : Nat) (hl : ws.length = n) (hk : n ≤ 16 * k) :
    ws.map u16v ++ List.replicate (16 * k - n) (u16v 0) = (ws ++ List.replicate (16 * k - n) 0).map u16v := by
  rw [List.map_append, List.map_replicate]

/-- a load of a row, guarded, where the guard says yes -/
theorem wpList_load_midG {P : Program} {ops : Array Oper} {rest : List Oper} {op : Oper} {a : Act} {w : World} {Q : Exit → Act → World → Prop} (hw : Region.wanted op (yielded ops a.tmps) = true) (ty : TypeId) (x : Operand) (ho : op.op = .load ty x)
    (b o : Nat) (hx : a.eval x = .pointer (some ⟨b, o, none⟩)) (cs : List Value) (d : TypeDesc) (hc : w.rangeAt b o cs)
    (hu : P.underlying ty = some d) (hd : d.isRow = true) (hi : (P.info? ty).map (·.size) = some cs.length)
    (h : wpList P ops Q rest (a.put op.dst (.agg cs.toArray)) w) : wpList P ops Q (op :: rest) a w :=
  BigFrame.wpList_want hw fun _ hK => wp_load_mid ty x ho b o hx cs d hc hu hd hi (hK _ _ h)

set_option maxHeartbeats 8000000 in
set_option maxRecDepth 100000 in
theorem pack_main (A : Option Addr) (n c m : Nat) (rows : List (List Bool)) (w : World) (KV : AwakeOk) (hT : Tabs w) (h : RowsR boolv w w.heap.size A n rows) (h1 : 1 ≤ n) (hn : n ≤ 16) (hm : ∀ r ∈ rows, r.length = m) (hm2 : m ≤ 40) (hE : linE rows = 0)
    (hz : ∀ (ad : Addr) (k L c2 : Nat), A = some ad → k < n → w.cell? (ad.add k) = some (.slice none L c2) → c2 = 0) :
    Calls Tryz.prog 9 #[.slice A n c] w fun e w' => e = .returned (.bool true) ∧ Below w.heap.size w w' := by
  have hrl := h.1
  obtain ⟨ad, hr0, A0, c0, rfl, hb0, hc0, _, _, _⟩ := h.row (k := 0) (by omega)
  have hzz : Addr.add ad 0 = ad := rfl
  rw [hzz, hm rows[0] (List.getElem_mem hr0)] at hc0
  have K1 := rCheckLines_any (some ad) n c rows w h (by unfold maxLen; omega)
  rw [hE] at K1
  have K1 := Lib.hid K1
  have HCP := Lib.hid (fun W hW hz => copied_ok (some ad) n c rows W hW (by omega) (fun r hr => by rw [hm r hr]; omega) hz)
  have HM := Lib.hid hm
  have HRL := Lib.hid hrl
  have HZ := Lib.hid hz
  have KV := Lib.hid KV
  have HR := Lib.hid h
  have hp0 : (0 : Int) < (n : Int) := by omega
  have hp1 : 0 < n := by omega
  have d1 : decide ((16 : Int) < (n : Int)) = false := by simpa using (show ¬ ((16 : Int) < n) from by omega)
  have d2 : decide ((40 : Int) < (m : Int)) = false := by simpa using (show ¬ ((40 : Int) < m) from by omega)
  clear hE hm hz hrl hzz h
  go_enter Tryz.func9, Tryz.ntmps9
  go_wp2_with fail
  refine K1.out.mono ?_
  rintro e w1 ⟨rfl, hb1⟩
  have hc1 := (hb1.cell hb0).trans hc0
  have HCP1 := Lib.hid (HCP.out w1 (HR.out.later hb1) (fun a k L c2 e hk hc => HZ.out a k L c2 e hk (by rw [← hc]; exact (hb1.cell (by cases e; rw [block_of_add]; exact hb0)).symm)))
  clear HCP K1
  go_wp2_with fail
  refine HCP1.out.mono ?_
  rintro e w2 ⟨v2, rfl, hgr, hb2⟩
  obtain ⟨A2, c2, rfl, _, _, hr2⟩ := hgr.rowsR
  have hB2 := hb1.trans (hb2.mono hb1.size)
  have HW := Lib.hid (words_ok A2 n c2 m rows w2 hr2 h1 hn HM.out (by omega))
  have HWL := Lib.hid (wlist_len rows m)
  have HWT := Lib.hid (wlist_lt rows m (by have := HRL.out; omega))
  have HWB := Lib.hid (fun i h => wlist_bit rows m HM.out i h)
  have HWH := Lib.hid (fun b h => wd_high rows m b h)
  clear HCP1 hgr hr2 hb2
  generalize (List.range m).map (wd rows) = ws at *
  go_wp2_with fail
  refine HW.out.mono ?_
  rintro e w3 ⟨gw, rfl, how, hb3⟩
  have hB3 := hB2.trans (hb3.mono hB2.size)
  have HB := Lib.hid (blocks_ok (some ⟨gw, 0, none⟩) m m ws w3 (Reads.of_own how) (by omega) (Nat.le_refl _) (by unfold maxLen; omega))
  have hrw3 := Reads.of_own how
  clear how HW hb3
  have hk1 : m ≤ 16 * ((m + 15) / 16) := by omega
  have hk3 : (m + 15) / 16 ≤ 3 := by omega
  have HN := Lib.hid (fun W => rNeeded_any m W (by omega))
  have HU := Lib.hid (fun gb w4 h1 => unpack_all gb m ((m + 15) / 16) ws (ws.map u16v ++ List.replicate (16 * ((m + 15) / 16) - m) (u16v 0)) w4 h1 rfl HWL.out (by omega))
  go_wp2_with fail
  refine HB.out.mono ?_
  rintro e w4 ⟨gb, rfl, hob, hb4⟩
  have hB4 := hB3.trans (hb4.mono hB3.size)
  have hc4 := (hB4.cell hb0).trans hc0
  have HOB := Lib.hid (own_block hob)
  have hgb : gb < w4.heap.size := (own_lt hob).2
  have HU1 := Lib.hid (HU.out gb w4 HOB.out)
  have hrw4 := hrw3.later hb4
  clear HB HU hob hb4 hrw3
  have HF := Lib.hid (blk_words ws m ((m + 15) / 16) HWL.out hk1)
  generalize (m + 15) / 16 = k at *
  go_wp2_with fail
  refine HU1.out.mono ?_
  rintro e w5 ⟨Au, rfl, hru, hb5⟩
  have hB5 := hB4.trans (hb5.mono hB4.size)
  have hc5 := (hB5.cell hb0).trans hc0
  have hrw5 := hrw4.later hb5
  have HS := Lib.hid (sameWords_eq Au (some ⟨gw, 0, none⟩) m m m ws w5 hru hrw5 (by unfold maxLen; omega))
  clear HU1 hru hrw4 hc4
  go_wp2_with fail
  refine HS.out.mono ?_
  rintro e w6 ⟨rfl, hb6⟩
  have hB6 := hB5.trans (hb6.mono hB5.size)
  have hc6 := (hB6.cell hb0).trans hc0
  have hmm : ((m : Int) != (m : Int)) = false := by simp
  have hkk : ((k : Int) != (k : Int)) = false := by simp
  have hrw6 := hrw5.later hb6
  have hblk6 := (hb6.block gb (Nat.lt_of_lt_of_le hgb hb5.size)).trans ((hb5.block gb hgb).trans HOB.out)
  have hgb6 : gb < w6.heap.size := Nat.lt_of_lt_of_le hgb (Nat.le_trans hb5.size hb6.size)
  have hr6 := HR.out.later hB6
  clear HS hrw5 hb6 hb5 hgb HOB hc5
  go_wp2_with fail
  refine (HN.out w6).mono ?_
  rintro e w7 ⟨rfl, rfl⟩
  have HR6 := Lib.hid hr6
  have HRW := Lib.hid hrw6
  have HBLK := Lib.hid hblk6
  clear hr6 hrw6 hblk6
  go_wp2
  go_loopg [86] 16 (fun q s W => ∃ i : Nat, i ≤ 16 ∧ s = .int .i64 i ∧ 16 - i ≤ q ∧ Below w6.heap.size w6 W)
  case atStart => exact ⟨0, Nat.zero_le _, rfl, by omega, Below.refl _ _⟩
  case round =>
    obtain ⟨i, hi, rfl, hq, hbel⟩ := hrel
    by_cases h16 : i < 16
    · have HL := Lib.hid (line_ok (some ⟨gw, 0, none⟩) m m i ws wr (HRW.out.later hbel) HWT.out (by omega) (by omega))
      go_wp2_with fail
      refine HL.out.mono ?_
      rintro e w7 ⟨v, rfl, hov, hb7⟩
      have hbel7 := hbel.trans (hb7.mono hbel.size)
      obtain ⟨Av, cv, rfl, _, _, hrv⟩ := own_slice hov
      clear HL hov hb7 hbel
      by_cases hin : i < n
      · obtain ⟨adx, hil, A1, c1, hax, hbx, hcx, hlx, hmx, hdx⟩ := (HR6.out.later hbel7).row hin
        injection hax with hax
        subst hax
        have hlen := HM.out rows[i] (List.getElem_mem hil)
        rw [HWB.out i hil] at hrv
        generalize rows[i] = ln at *
        rw [hlen] at hcx hlx hdx
        have HS1 := Lib.hid (sameBools_eq Av A1 m cv c1 ln w7 hrv hdx (by unfold maxLen; omega))
        have HRV := Lib.hid hrv
        have dge : decide ((n : Int) ≤ (i : Int)) = false := by simpa using (show ¬ ((n : Int) ≤ (i : Int)) from by omega)
        have dge2 : decide (n ≤ i) = false := by simpa using (show ¬ (n ≤ i) from by omega)
        clear hrv hdx hlen
        go_wp2_with fail
        refine HS1.out.mono ?_
        rintro e w8 ⟨rfl, hb8⟩
        have HRV8 := Lib.hid (HRV.out.later hb8)
        have hbel8 := hbel7.trans (hb8.mono hbel7.size)
        clear HS1 HRV hbel7 hb8
        go_wp2
        go_loopg [121] m (fun q s W => ∃ j : Nat, j ≤ m ∧ s = .int .i64 j ∧ m - j ≤ q ∧ W = w8)
        case atStart => exact ⟨0, Nat.zero_le _, rfl, by omega, rfl⟩
        case round =>
          obtain ⟨j, hj, rfl, hq2, hW⟩ := hrel
          obtain rfl : w8 = wr := hW.symm
          clear hW
          by_cases hjm : j < m
          · obtain ⟨a1, hkl, rfl, hb1, hcell⟩ := HRV8.out.cellM hjm
            unfold boolv at hcell
            generalize ln[j] = x at *
            cases x
            · go_wp2
              go_roundg (m - (j + 1))
              case measure => omega
              case rel => exact ⟨j + 1, by omega, by go_num, Nat.le_refl _, rfl⟩
            · go_wp2
              go_roundg (m - (j + 1))
              case measure => omega
              case rel => exact ⟨j + 1, by omega, by go_num, Nat.le_refl _, rfl⟩
          · obtain rfl : m = j := by omega
            go_wp2
            go_roundg (16 - (i + 1))
            case measure => omega
            case rel => exact ⟨i + 1, by omega, by go_num, Nat.le_refl _, hbel8⟩
      · rw [HWH.out i (by have := HRL.out; omega)] at hrv
        have HRV := Lib.hid hrv
        have dlt : decide ((i : Int) < (n : Int)) = false := by simpa using (show ¬ ((i : Int) < (n : Int)) from by omega)
        clear hrv
        go_wp2
        go_loopg [121] m (fun q s W => ∃ j : Nat, j ≤ m ∧ s = .int .i64 j ∧ m - j ≤ q ∧ W = w7)
        case atStart => exact ⟨0, Nat.zero_le _, rfl, by omega, rfl⟩
        case round =>
          obtain ⟨j, hj, rfl, hq2, hW⟩ := hrel
          obtain rfl : w7 = wr := hW.symm
          clear hW
          by_cases hjm : j < m
          · obtain ⟨a1, hkl, rfl, hb1, hcell⟩ := HRV.out.cellM hjm
            rw [List.getElem_replicate] at hcell
            unfold boolv at hcell
            go_wp2
            go_roundg (m - (j + 1))
            case measure => omega
            case rel => exact ⟨j + 1, by omega, by go_num, Nat.le_refl _, rfl⟩
          · obtain rfl : m = j := by omega
            go_wp2
            go_roundg (16 - (i + 1))
            case measure => omega
            case rel => exact ⟨i + 1, by omega, by go_num, Nat.le_refl _, hbel7⟩
    · obtain rfl : i = 16 := by omega
      clear h16 hi hq
      rw [HF.out] at HBLK
      have HBL2 : Hid (wr.heap[gb]? = some (.cells ((ws ++ List.replicate (16 * k - m) 0).map u16v).toArray 64 (0, 0))) := (hbel.block gb hgb6).trans HBLK.out
      have hWS : (ws ++ List.replicate (16 * k - m) 0).length = 16 * k := by rw [List.length_append, List.length_replicate, HWL.out]; omega
      have HAT : Hid (∀ (j : Nat) (hj : j < (ws ++ List.replicate (16 * k - m) 0).length), (ws ++ List.replicate (16 * k - m) 0)[j] = ws.getD j 0) := by
        intro j hj
        rw [List.getElem_append]
        split
        · rename_i h; simp [List.getD, h]
        · rename_i h; simp [List.getD, show ws.length ≤ j by omega]
      have HRW2 := Lib.hid (HRW.out.later hbel)
      have hB7 := hB6.trans (hbel.mono hB6.size)
      have hgb7 := Nat.lt_of_lt_of_le hgb6 hbel.size
      clear HBLK HRW HR6 hbel hB6 hgb6
      generalize ws ++ List.replicate (16 * k - m) 0 = WS at *
      have HWSL := Lib.hid hWS
      clear hWS
      obtain ⟨wo, hwo⟩ : ∃ wo : World, wo = wr := ⟨_, rfl⟩
      subst hwo
      go_wp2
      go_loopg [136] k (fun q s W => ∃ i : Nat, i ≤ k ∧ s = .int .i64 i ∧ k - i ≤ q ∧ Below wo.heap.size wo W)
      case atStart => exact ⟨0, Nat.zero_le _, rfl, by omega, Below.refl _ _⟩
      case round =>
        obtain ⟨i, hi, rfl, hq, hbel⟩ := hrel
        by_cases hik : i < k
        · have hbl : ((WS.drop (16 * i)).take 16).length = 16 := by rw [List.length_take, List.length_drop, HWSL.out]; omega
          have hrg : wr.rangeAt gb (i * 16) (((WS.drop (16 * i)).take 16).map u16v) := by
            intro j v hj
            have hb9 : wr.heap[gb]? = some (.cells (WS.map u16v).toArray 64 (0, 0)) := (hbel.block gb hgb7).trans HBL2.out
            rw [cell_of_row wr gb (i * 16 + j) (WS.map u16v).toArray 64 (0, 0) hb9]
            rw [List.getElem?_map, List.getElem?_take] at hj
            split at hj
            · rw [List.getElem?_drop] at hj
              rw [List.getElem?_toArray, List.getElem?_map, Nat.mul_comm i 16]; exact hj
            · cases hj
          have hat : ∀ (j : Nat) (hj : j < ((WS.drop (16 * i)).take 16).length), ((WS.drop (16 * i)).take 16)[j] = ws.getD (16 * i + j) 0 := by
            intro j hj
            rw [List.getElem_take, List.getElem_drop]
            exact HAT.out _ _
          generalize (WS.drop (16 * i)).take 16 = bl at *
          have HRG := Lib.hid hrg
          have HBL := Lib.hid hbl
          have HTT := Lib.hid hat
          have hcl : (bl.map u16v).length = 16 := by rw [List.length_map]; exact hbl
          have HON := Lib.hid (u16v_one bl)
          have hi78 : (Tryz.prog.info? 64).map (·.size) = some (bl.map u16v).toArray.size := by
            rw [List.size_toArray, hcl]; kernel_rfl
          have hi78' : (Tryz.prog.info? 64).map (·.size) = some (bl.map u16v).length := by
            rw [hcl]; kernel_rfl
          have H78 := Lib.hid hi78
          have H78' := Lib.hid hi78'
          have HSZ := Lib.hid (show (16 : Nat) = (bl.map u16v).toArray.size by rw [List.size_toArray, hcl])
          have HCL := Lib.hid hcl
          have HX := Lib.hid (fun t old => range_setRow wr t old (bl.map u16v))
          have HBK := Lib.hid (fun (W : World) h hg => block_ok wr.heap.size 16 bl W h hbl hg)
          have HEQ := Lib.hid (fun W => eq_blk bl bl hbl hbl W)
          have HIX := Lib.hid (fun (j : Nat) hj W => index_blk bl j hj hbl W)
          have HLB := Lib.hid (fun g W h => load_blk g (bl.map u16v) hcl W h)
          have HB1 := Lib.hid (below_setRow_new (B := wo.heap.size) hbel hbel.size (.cells #[.int .u16 0, .int .u16 0, .int .u16 0, .int .u16 0, .int .u16 0, .int .u16 0, .int .u16 0, .int .u16 0, .int .u16 0, .int .u16 0, .int .u16 0, .int .u16 0, .int .u16 0, .int .u16 0, .int .u16 0, .int .u16 0] 64) (bl.map u16v).toArray)
          generalize hcs : (bl.map u16v) = cs at *
          clear hrg hbl hat hcl hi78 hi78' hcs
          go_wp2_with (first
            | (refine wpList_load_mid rfl 64 (.tmp 139) rfl gb (i * 16) rfl cs _ HRG.out Tryz.underlying64 rfl H78'.out ?_)
            | (refine wpList_store_row rfl 64 (.tmp 15) (.tmp 140) rfl wr.heap.size cs.toArray rfl rfl 64 _ (heap_alloc_new _ _) H78.out HSZ.out (all_oneCell_toArray HON.out) ?_))
          have hX1 := HX.out 64 #[.int .u16 0, .int .u16 0, .int .u16 0, .int .u16 0, .int .u16 0, .int .u16 0, .int .u16 0, .int .u16 0, .int .u16 0, .int .u16 0, .int .u16 0, .int .u16 0, .int .u16 0, .int .u16 0, .int .u16 0, .int .u16 0]
          have hlt : wr.heap.size < ((wr.alloc (.cells #[.int .u16 0, .int .u16 0, .int .u16 0, .int .u16 0, .int .u16 0, .int .u16 0, .int .u16 0, .int .u16 0, .int .u16 0, .int .u16 0, .int .u16 0, .int .u16 0, .int .u16 0, .int .u16 0, .int .u16 0, .int .u16 0] 64)).setRow wr.heap.size cs.toArray).heap.size := by simp [World.setRow]
          have hB1 := HB1.out
          generalize ((wr.alloc (.cells #[.int .u16 0, .int .u16 0, .int .u16 0, .int .u16 0, .int .u16 0, .int .u16 0, .int .u16 0, .int .u16 0, .int .u16 0, .int .u16 0, .int .u16 0, .int .u16 0, .int .u16 0, .int .u16 0, .int .u16 0, .int .u16 0] 64)).setRow wr.heap.size cs.toArray) = w7 at hX1 hlt hB1 ⊢
          have HBK7 := HBK.out w7 hX1 hlt
          clear HX HBK HB1
          generalize wr.heap.size = gx at *
          refine HBK7.mono ?_
          rintro e w8 ⟨rfl, hb8⟩
          have hx8 := range_below hX1 hb8 hlt
          have hlt8 := Nat.lt_of_lt_of_le hlt hb8.size
          have hB8 := hB1.trans (hb8.mono hB1.size)
          have ha9 := range_setRow w8 64 #[.int .u16 0, .int .u16 0, .int .u16 0, .int .u16 0, .int .u16 0, .int .u16 0, .int .u16 0, .int .u16 0, .int .u16 0, .int .u16 0, .int .u16 0, .int .u16 0, .int .u16 0, .int .u16 0, .int .u16 0, .int .u16 0] cs
          have hb9 := below_setRow_new (Below.refl w8.heap.size w8) (Nat.le_refl _) (.cells #[.int .u16 0, .int .u16 0, .int .u16 0, .int .u16 0, .int .u16 0, .int .u16 0, .int .u16 0, .int .u16 0, .int .u16 0, .int .u16 0, .int .u16 0, .int .u16 0, .int .u16 0, .int .u16 0, .int .u16 0, .int .u16 0] 64) cs.toArray
          have hx9 := range_below hx8 hb9 hlt8
          have hB9 := hB8.trans (hb9.mono hB8.size)
          have HA9 := Lib.hid ha9
          have HX9 := Lib.hid hx9
          have HB9 := Lib.hid hB9
          clear hX1 hlt hB1 hb8 hx8 hlt8 hB8 ha9 hb9 hx9 hB9 HBK7
          go_upto_region 25 with (refine wpList_store_row rfl 64 (.tmp 16) (.tmp 144) rfl w8.heap.size cs.toArray rfl rfl 64 _ (heap_alloc_new _ _) H78.out HSZ.out (all_oneCell_toArray HON.out) ?_)
          have ha9 := HA9.out
          have hx9 := HX9.out
          have hB9 := HB9.out
          clear HA9 HX9 HB9
          generalize ((w8.alloc (.cells #[.int .u16 0, .int .u16 0, .int .u16 0, .int .u16 0, .int .u16 0, .int .u16 0, .int .u16 0, .int .u16 0, .int .u16 0, .int .u16 0, .int .u16 0, .int .u16 0, .int .u16 0, .int .u16 0, .int .u16 0, .int .u16 0] 64)).setRow w8.heap.size cs.toArray) = w9 at *
          generalize w8.heap.size = ga at *
          have heq := HEQ.out w9
          rw [show (bl == bl) = true from by simp] at heq
          have HA9 := Lib.hid ha9
          have HX9 := Lib.hid hx9
          clear ha9 hx9
          go_wp2_with (first
            | (refine wpList_load_midG (by rfl) 64 (.tmp 16) rfl ga 0 rfl cs _ HA9.out Tryz.underlying64 rfl H78'.out ?_)
            | (refine wpList_load_midG (by rfl) 64 (.tmp 15) rfl gx 0 rfl cs _ HX9.out Tryz.underlying64 rfl H78'.out ?_)
            | (refine wpList_load_mid rfl 64 (.tmp 15) rfl gx 0 rfl cs _ HX9.out Tryz.underlying64 rfl H78'.out ?_))
          clear heq
          go_loopg [154] 16 (fun q s W => ∃ j : Nat, j ≤ 16 ∧ s = .int .i64 j ∧ 16 - j ≤ q ∧ W = w9)
          case atStart => exact ⟨0, Nat.zero_le _, rfl, by omega, rfl⟩
          case round =>
            obtain ⟨j, hj, rfl, hq3, hW⟩ := hrel
            subst hW
            by_cases hj16 : j < 16
            · have hjb : j < bl.length := by rw [HBL.out]; exact hj16
              have hix := HIX.out j hjb
              have hv := HTT.out j hjb
              generalize bl[j] = d at *
              obtain ⟨p, hp⟩ : ∃ p : Nat, p = 16 * i + j := ⟨_, rfl⟩
              rw [← hp] at hv
              have hpi : 16 * (i : Int) + (j : Int) = (p : Int) := by omega
              have hp64 : p < 64 := by omega
              have HP := Lib.hid hp
              clear hp
              by_cases hm5 : p < m
              · obtain ⟨a5, h5, e5, hb5x, hcell⟩ := (HRW2.out.later hB9).cellM hm5
                injection e5 with e5
                subst e5
                have hvv : ws[p] = d := by rw [hv]; simp [List.getD, h5]
                rw [hvv, show (⟨gw, 0, none⟩ : Addr).add p = ⟨gw, p, none⟩ from by simp [Addr.add]; try (intro h; exact h.symm)] at hcell
                unfold u16v at hcell
                have dge : decide ((m : Int) ≤ (p : Int)) = false := by simpa using (show ¬ ((m : Int) ≤ (p : Int)) from by omega)
                have dge2 : decide (m ≤ p) = false := by simpa using (show ¬ (m ≤ p) from by omega)
                have dlt : decide ((p : Int) < (m : Int)) = true := by simpa using (show ((p : Int) < (m : Int)) from by omega)
                have hp3 : (0 : Int) ≤ (p : Int) := by omega
                have hp4 : (p : Int) < (m : Int) := by omega
                clear hvv hv
                go_wp2
                go_roundg (16 - (j + 1))
                case measure => omega
                case rel => exact ⟨j + 1, by omega, by go_num, Nat.le_refl _, rfl⟩
              · have hd0 : d = 0 := by
                  rw [hv, List.getD, List.getElem?_eq_none (by rw [HWL.out]; omega)]; rfl
                subst hd0
                have dge : decide ((m : Int) ≤ (p : Int)) = true := by simpa using (show ((m : Int) ≤ (p : Int)) from by omega)
                have dge2 : decide (m ≤ p) = true := by simpa using (show (m ≤ p) from by omega)
                have dlt : decide ((p : Int) < (m : Int)) = false := by simpa using (show ¬ ((p : Int) < (m : Int)) from by omega)
                clear hv
                go_wp2
                go_roundg (16 - (j + 1))
                case measure => omega
                case rel => exact ⟨j + 1, by omega, by go_num, Nat.le_refl _, rfl⟩
            · obtain rfl : j = 16 := by omega
              go_wp2
              go_roundg (k - (i + 1))
              case measure => omega
              case rel => exact ⟨i + 1, by omega, by go_num, Nat.le_refl _, hB9⟩
        · obtain rfl : i = k := by omega
          have hB8 := hB7.trans (hbel.mono hB7.size)
          go_wp2_with fail
          refine (KV.out _ (hT.later hB8)).mono ?_
          rintro e w9 ⟨rfl, hb9⟩
          go_wp2_with fail
          go_ret
          exact ⟨rfl, hB8.trans (hb9.mono hB8.size)⟩

end Go.Proofs.YtboaojkblmddkaaGreatDoor

/- The law of packs: for all lines it returns true. -/
namespace Go.Proofs.YtboaojkblmddkaaGreatDoor
open Go.RowKit

/-- every input: true; nothing that was there has changed -/
theorem pack_any (A : Option Addr) (n c : Nat) (rows : List (List Bool)) (w : World) (hT : Tabs w) (h : RowsR boolv w w.heap.size A n rows) (hn : n ≤ maxLen)
    (hz : ∀ (ad : Addr) (k L c2 : Nat), A = some ad → k < n → w.cell? (ad.add k) = some (.slice none L c2) → c2 = 0) :
    Calls Tryz.prog 9 #[.slice A n c] w fun e w' => e = .returned (.bool true) ∧ Below w.heap.size w w' := by
  by_cases h1 : n ≤ 16
  · by_cases h2 : linE rows = 0
    · obtain ⟨a1, a2, h0, a3, a4⟩ := linE_valid rows h2
      by_cases h3 : rows[0].length ≤ 40
      · exact pack_main A n c rows[0].length rows w awake_ok hT h (by have := h.1; omega) h1 a4 h3 h2 hz
      · exact pack_turned A n c rows w awake_ok hT h hn (.inr (.inr ⟨h0, by omega⟩))
    · exact pack_turned A n c rows w awake_ok hT h hn (.inr (.inl h2))
  · exact pack_turned A n c rows w awake_ok hT h hn (.inl (by omega))
end Go.Proofs.YtboaojkblmddkaaGreatDoor
