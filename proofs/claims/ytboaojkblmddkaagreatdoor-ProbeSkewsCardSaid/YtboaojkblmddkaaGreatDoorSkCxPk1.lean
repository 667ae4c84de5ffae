/- Lines of a law: own copies of them, the reference's CheckLines. -/
import Derived.Test.YtboaojkblmddkaaGreatDoorSkCxOpn
import Derived.Test.YtboaojkblmddkaaGreatDoorCAwc
import Derived.Deep.LoopGhost
import Derived.Deep.AppendLies
import Derived.Deep.RegionHeld3
import Derived.BigQuiet
import Derived.Test.YtboaojkblmddkaaGreatDoorCWds
import Derived.RangeFuncBox
import Derived.RangeFuncLeaves
import Derived.Shelf.Abstract
import Derived.OwnWalkIn
import Derived.TacticsInMore
import Derived.LoopNIn
import Derived.LoopIn
import Derived.Maps.AppendAt
namespace Go.Proofs.YtboaojkblmddkaaGreatDoor
open Go.RowKit Bn

theorem Reads.cellsOver {w : World} {B n : Nat} {a : Addr} {xs : List Value} (h : Reads w B 1 (some a) n xs) : ∀ j u, xs[j]? = some u → w.cell? (a.add j) = some u := by
  intro j u hu
  have hl := h.1
  have hj : j < xs.length := by
    rcases Nat.lt_or_ge j xs.length with h1 | h1
    · exact h1
    · rw [List.getElem?_eq_none h1] at hu; cases hu
  obtain ⟨ad, e, _, hc⟩ := h.2 (by omega)
  injection e with e
  subst e
  exact hc j u hu
theorem info_bls2 : (Tryz.prog.info? 26).map (fun i => (i.zero, i.size, i.bytes)) = some (some (.slice none 0 0), 1, 24) := by kernel_rfl

set_option maxHeartbeats 2000000 in
/-- a copy of a line -/
theorem bools_own (A : Option Addr) (n c : Nat) (l : List Bool) (w : World) (h : Reads w w.heap.size 1 A n (l.map boolv)) (hn : n ≤ 140737488355328 / 8) (hc : A = none → c = 0) :
    Calls Tryz.prog 16 #[.slice A n c] w fun e w' => ∃ v, e = .returned v ∧ w'.ownsRow w.heap.size 4 1 v n (l.map boolv) ∧ Below w.heap.size w w' := by
  have hL := h.lenM
  have hbA : Below w.heap.size w (w.alloc (.cells #[] 4)) := (Below.refl _ _).alloc (Nat.le_refl _) _
  cases A with
  | none =>
    obtain rfl := hc rfl
    have hl : l = [] := by
      cases l with
      | nil => rfl
      | cons x t =>
        obtain ⟨ad9, e9, _⟩ := h.2 (by simp at hL; omega)
        cases e9
    subst hl
    obtain rfl : 0 = n := hL
    have ho := own_empty w w.heap.size 4 (Nat.le_refl _)
    clear h hc
    go_enter Tryz.func16, Tryz.ntmps16
    go_wp2
    go_ret
    exact ⟨_, rfl, ho, hbA⟩
  | some a1 =>
    obtain ⟨i0, hi0, hz0, hz1, hz2⟩ := info_parts info_bool
    have hone : ∀ u ∈ l.map boolv, u.oneCell' = true := boolv_one l
    have HONE := Lib.hid hone
    have HRD := Lib.hid h
    clear h hone hc
    go_enter Tryz.func16, Tryz.ntmps16
    go_wp2_with (at_builtin; refine wpList_append_own _ rfl _ _ 26 rfl w.heap.size 4 i0 (.bool false) 1 1 Tryz.underlying26 hi0 hz0 hz1 hz2 rfl (by decide) _ _ _ rfl (own_empty w w.heap.size 4 (Nat.le_refl _)) a1 n c (l.map boolv) rfl ?c0 ?c1 ?c2 ?c3 ?c4 ?c5 ?_)
    case c0 => rw [List.length_map]; omega
    case c1 => exact (HRD.out.below ((Below.refl _ _).alloc (Nat.le_refl _) _)).cellsOver
    case c2 => exact HONE.out
    case c3 => unfold maxLen; omega
    case c4 => omega
    case c5 => simp
    intro v1 w3 hown1 hgrow1 _
    have hb3 : Below w.heap.size w w3 := hbA.grown hgrow1 (by simp) (fun g hg => by simp [Value.ownBlock] at hg; omega)
    clear hgrow1 hbA
    go_wp2
    go_ret
    exact ⟨v1, rfl, hown1, hb3⟩

set_option maxHeartbeats 4000000 in
set_option maxRecDepth 100000 in
/-- copies of lines -/
theorem copied_ok (A : Option Addr) (n c : Nat) (rows : List (List Bool)) (w : World) (h : RowsR boolv w w.heap.size A n rows) (hn : n ≤ 4098) (hr : ∀ r ∈ rows, r.length ≤ 4098)
    (hz : ∀ (ad : Addr) (k L c2 : Nat), A = some ad → k < n → w.cell? (ad.add k) = some (.slice none L c2) → c2 = 0) :
    Calls Tryz.prog 28 #[.slice A n c] w fun e w' => ∃ v, e = .returned v ∧ Grow boolv 26 4 w' w.heap.size v n rows ∧ Below w.heap.size w w' := by
  obtain ⟨i1, hi1, hy0, hy1, hy2⟩ := info_parts info_bls2
  have HZ := Lib.hid hz
  have HR := Lib.hid hr
  have HL := Lib.hid h.1
  clear hz hr
  go_enter Tryz.func28, Tryz.ntmps28
  go_wp2
  go_loopg [3, 8] n (fun q v s W => ∃ j : Nat, j ≤ n ∧ s = .int .i64 j ∧ n - j ≤ q ∧ Grow boolv 26 4 W w.heap.size v j (rows.take j) ∧ Below w.heap.size w W)
  case atStart => exact ⟨0, Nat.zero_le _, rfl, by omega, Grow.nil, Below.refl _ _⟩
  case round =>
    obtain ⟨j, hj, rfl, hq, hgrow, hbel⟩ := hrel
    by_cases h0 : j < n
    · obtain ⟨ad, hkl, A1, c1, rfl, hbb, hcell0, hlc, hcm, hrd0⟩ := h.row h0
      have hcell := (hbel.cell (by rw [block_of_add]; exact hbb)).trans hcell0
      have hrd := (hrd0.below hbel).more hbel.size
      have hL := HR.out rows[j] (List.getElem_mem hkl)
      obtain ⟨hgl, vs, hown, hin⟩ := hgrow
      have hts : rows.take (j + 1) = rows.take j ++ [rows[j]] := List.take_succ_eq_append_getElem hkl
      have HTS := Lib.hid hts
      have HIN := Lib.hid hin
      have HGL := Lib.hid hgl
      have hz1 : A1 = none → c1 = 0 := fun e => by subst e; exact HZ.out ad j rows[j].length c1 rfl h0 hcell0
      generalize rows[j] = R at *
      have hle := hbel.size
      have HB := Lib.hid (bools_own A1 R.length c1 R wr hrd (by omega) hz1)
      clear hts hin hgl hrd hrd0 hz1 hcell0
      generalize hRL : R.length = RL at *
      have HRLE := Lib.hid hRL
      clear hRL
      go_wp2_with fail
      refine HB.out.mono ?_
      rintro e w3 ⟨v3, rfl, ho3, hb3⟩
      have hown3 := own_belw hown hb3
      obtain ⟨A3, c3, rfl, _, _, _⟩ := own_slice ho3
      clear hown HB
      go_wp2_with (at_builtin; refine wpList_append_own _ rfl _ _ 50 rfl w.heap.size 26 i1 (.slice none 0 0) 1 24 Tryz.underlying50 hi1 hy0 hy1 hy2 rfl (by decide) _ _ _ rfl (hown3.alloc _) ⟨w3.heap.size, 0, none⟩ 1 1 [.slice A3 RL c3] rfl rfl ?d1 ?d2 ?d3 ?d4 ?d5 ?_)
      case d1 => exact cell_one_new _ _ _
      case d2 => intro u hu; simp at hu; subst hu; rfl
      case d3 => unfold maxLen; omega
      case d4 => omega
      case d5 => have := hb3.size; simp; omega
      intro v2 w4 hown2 hgrow2 _
      have hb34 : Below w3.heap.size w3 (w3.alloc (.cells #[.slice A3 RL c3] 26)) := (Below.refl _ _).alloc (Nat.le_refl _) _
      have hG : Grow boolv 26 4 w4 w.heap.size v2 (j + 1) (rows.take (j + 1)) := by
        rw [HTS.out]
        exact Grow.snoc HGL.out (hown3.alloc _) (fun i hi => (HIN.out i hi).imp fun u hu => ⟨hu.1, own_belw (own_belw hu.2 hb3) hb34⟩) (by rw [HRLE.out]; exact own_belw (own_mono ho3 hle) hb34) (by decide) hgrow2 hown2
      have hle3 := Nat.le_trans hle hb3.size
      have hb4 : Below w.heap.size w w4 := ((hbel.trans (hb3.mono hle)).trans (hb34.mono hle3)).grown hgrow2 (by simp; omega) (fun g hg => (World.ownsRow.lt hown3 g hg).1)
      clear hgrow2 hown2 hown3 HIN
      go_wp2
      go_roundg (n - (j + 1))
      case measure => omega
      case rel => exact ⟨j + 1, by omega, by go_num, Nat.le_refl _, hG, hb4⟩
    · obtain rfl : n = j := by omega
      rw [List.take_of_length_le (by have := HL.out; omega)] at hgrow
      go_wp2
      go_ret
      exact ⟨_, rfl, hgrow, hbel⟩

/-- the error of lines -/
def linE (rows : List (List Bool)) : Int :=
  match rows with
  | [] => 12
  | r :: _ => if 16 < rows.length ∨ 4096 < r.length then 5 else if rows.all (fun x => decide (x.length = r.length)) = true then 0 else 2
theorem linE_nil (rows : List (List Bool)) (h : rows.length = 0) : linE rows = 12 := by
  cases rows with
  | nil => rfl
  | cons r t => simp at h
theorem linE_many (rows : List (List Bool)) (h : 0 < rows.length) (hh : 16 < rows.length ∨ 4096 < rows[0].length) : linE rows = 5 := by
  cases rows with
  | nil => simp at h
  | cons r t => exact if_pos hh
theorem linE_shape (rows : List (List Bool)) (h : 0 < rows.length) (h1 : rows.length ≤ 16) (h2 : rows[0].length ≤ 4096) (k : Nat) (hk : k < rows.length) (hne : rows[k].length ≠ rows[0].length) : linE rows = 2 := by
  cases rows with
  | nil => simp at h
  | cons r t =>
    have hr : (r :: t)[0].length = r.length := rfl
    rw [hr] at h2 hne
    have e : (r :: t).all (fun x => decide (x.length = r.length)) ≠ true := fun ha => hne (of_decide_eq_true (List.all_eq_true.1 ha _ (List.getElem_mem hk)))
    exact (if_neg (by omega)).trans (if_neg e)
theorem linE_ok (rows : List (List Bool)) (h : 0 < rows.length) (h1 : rows.length ≤ 16) (h2 : rows[0].length ≤ 4096) (ha : ∀ (k : Nat) (hk : k < rows.length), rows[k].length = rows[0].length) : linE rows = 0 := by
  cases rows with
  | nil => simp at h
  | cons r t =>
    have hr : (r :: t)[0].length = r.length := rfl
    rw [hr] at h2
    have e : (r :: t).all (fun x => decide (x.length = r.length)) = true := by
      refine List.all_eq_true.2 fun x hx => decide_eq_true ?_
      obtain ⟨i, hi, rfl⟩ := List.mem_iff_getElem.1 hx
      exact ha i hi
    exact (if_neg (by omega)).trans (if_pos e)
theorem linE_valid (rows : List (List Bool)) (h : linE rows = 0) : 1 ≤ rows.length ∧ rows.length ≤ 16 ∧ ∃ (h0 : 0 < rows.length), rows[0].length ≤ 4096 ∧ ∀ r ∈ rows, r.length = rows[0].length := by
  cases rows with
  | nil => cases h
  | cons r t =>
    unfold linE at h
    simp only at h
    split at h
    · cases h
    · split at h
      · rename_i h1 h2
        have e : (r :: t)[0].length = r.length := rfl
        exact ⟨by simp, by omega, by simp, by rw [e]; omega, fun x hx => by rw [e]; exact of_decide_eq_true (List.all_eq_true.1 h2 x hx)⟩
      · cases h

set_option maxHeartbeats 2000000 in
set_option maxRecDepth 100000 in
theorem rCheckLines_any (A : Option Addr) (n c : Nat) (rows : List (List Bool)) (w : World) (h : RowsR boolv w w.heap.size A n rows) (hn : n ≤ maxLen) :
    Calls Tryz.prog 31 #[.slice A n c] w fun e w' => e = .returned (.int .i64 (linE rows)) ∧ Below w.heap.size w w' := by
  unfold maxLen at hn
  have hl := h.1
  by_cases hz : n = 0
  · have hv : Hid (linE rows = 12) := linE_nil rows (by omega)
    have hd : ((n : Int) == 0) = true := by rw [beq_iff_eq]; omega
    clear hl hz
    go_enter Tryz.func31, Tryz.ntmps31
    go_wp2
    go_ret
    exact ⟨by rw [hv.out]; rfl, Below.refl _ _⟩
  · have hd0 : ((n : Int) == 0) = false := by rw [beq_eq_false_iff_ne]; omega
    have hn0 : 0 < n := by omega
    have hp0 : (0 : Int) < (n : Int) := by omega
    obtain ⟨ad, hr0, A0, c0, rfl, hb0, hc0, _, _, _⟩ := h.row (k := 0) hn0
    have hzz : Addr.add ad 0 = ad := rfl
    rw [hzz] at hc0
    by_cases h8 : 16 < n
    · have hv : Hid (linE rows = 5) := linE_many rows hr0 (.inl (by omega))
      have hd : decide (16 < n) = true := by simpa using h8
      have hd2 : decide ((16 : Int) < (n : Int)) = true := by simpa using (show (16 : Int) < n from by omega)
      clear hl hz
      go_enter Tryz.func31, Tryz.ntmps31
      go_wp2
      go_ret
      exact ⟨by rw [hv.out]; rfl, Below.refl _ _⟩
    · have hd8 : decide (16 < n) = false := by simpa using h8
      have hd82 : decide ((16 : Int) < (n : Int)) = false := by simpa using (show ¬ ((16 : Int) < n) from by omega)
      by_cases hm : 4096 < rows[0].length
      · have hv : Hid (linE rows = 5) := linE_many rows hr0 (.inr hm)
        generalize rows[0].length = m at *
        have hd : decide (4096 < m) = true := by simpa using hm
        have hd2 : decide ((4096 : Int) < (m : Int)) = true := by simpa using (show (4096 : Int) < m from by omega)
        clear hl hz
        go_enter Tryz.func31, Tryz.ntmps31
        go_wp2
        go_ret
        exact ⟨by rw [hv.out]; rfl, Below.refl _ _⟩
      · have HSH := Lib.hid (fun k hk hne => linE_shape rows hr0 (by omega) (by omega) k hk hne)
        have HOK := Lib.hid (fun ha => linE_ok rows hr0 (by omega) (by omega) ha)
        generalize hmm : rows[0].length = m at *
        have hd : decide (4096 < m) = false := by simpa using hm
        have hd2 : decide ((4096 : Int) < (m : Int)) = false := by simpa using (show ¬ ((4096 : Int) < m) from by omega)
        have HL := Lib.hid hl
        clear hl hz hmm
        go_enter Tryz.func31, Tryz.ntmps31
        go_wp2
        go_loopg [3] n (fun q s W => ∃ k : Nat, k ≤ n ∧ s = .int .i64 k ∧ n - k ≤ q ∧ Hid (∀ (i : Nat) (hi : i < rows.length), i < k → rows[i].length = m) ∧ Below w.heap.size w W)
        case atStart => exact ⟨0, Nat.zero_le _, rfl, by omega, fun i hi h => absurd h (by omega), Below.refl _ _⟩
        case round =>
          obtain ⟨k, hk, rfl, hq, hf, hbel⟩ := hrel
          by_cases h0 : k < n
          · obtain ⟨ad2, hkl, A1, c1, e1, hbb, hcell, hlc, hcm, hrd⟩ := (h.below hbel).row h0
            injection e1 with e1
            subst e1
            have hc02 := (hbel.cell hb0).trans hc0
            have HSK := Lib.hid (fun hne => HSH.out k hkl hne)
            have HNX := Lib.hid (fun (e : rows[k].length = m) => show ∀ (i : Nat) (hi : i < rows.length), i < k + 1 → rows[i].length = m from fun i hi hik => by
              rcases Nat.lt_or_ge i k with h9 | h9
              · exact hf.out i hi h9
              · obtain rfl : i = k := by omega
                exact e)
            clear hrd hf
            generalize rows[k].length = L at *
            by_cases he : L = m
            · subst he
              have hne : ((L : Int) != (L : Int)) = false := by simp
              have HN2 := Lib.hid (HNX.out rfl)
              go_wp2
              go_region
              go_wp2
              go_roundg (n - (k + 1))
              case measure => omega
              case rel => exact ⟨k + 1, by omega, by go_num, Nat.le_refl _, HN2.out, hbel.drew⟩
            · have hne : ((L : Int) != (m : Int)) = true := by rw [bne_iff_ne]; omega
              have HV := Lib.hid (HSK.out he)
              clear he
              go_wp2
              go_region
              go_wp2
              go_ret
              exact ⟨by rw [HV.out]; rfl, hbel.drew⟩
          · have HV := Lib.hid (HOK.out (fun k hk => hf.out k hk (by have := HL.out; omega)))
            go_wp2
            go_ret
            exact ⟨by rw [HV.out]; rfl, hbel⟩

end Go.Proofs.YtboaojkblmddkaaGreatDoor

/- The reference's Aligned of valid records. -/
namespace Go.Proofs.YtboaojkblmddkaaGreatDoor
open Go.RowKit Bn
open Flt

/-- an aligned record as it was laid: its zeros as they are -/
def algw (fr tt : Int) (r : List Nat) (s : Int) : List Nat := (r.drop (fr + s).toNat).take (tt - fr).toNat
def algW (rows : List (List Nat)) (sk : List Int) : List (List Nat) := List.zipWith (algw (frT sk) (toT rows sk)) rows sk
theorem alg1_w (fr tt : Int) (r : List Nat) (s : Int) : alg1 fr tt r s = (algw fr tt r s).map posz := rfl
theorem algW_succ (rows : List (List Nat)) (sk : List Int) (k : Nat) (h : k < rows.length) (h2 : k < sk.length) : (algW rows sk).take (k + 1) = (algW rows sk).take k ++ [algw (frT sk) (toT rows sk) rows[k] sk[k]] := by
  have hl : k < (algW rows sk).length := by unfold algW; rw [List.length_zipWith]; omega
  unfold algW at hl ⊢
  rw [List.take_succ_eq_append_getElem hl, List.getElem_zipWith]
theorem toT_snoc (rows : List (List Nat)) (sk : List Int) (k : Nat) (hkl : k < rows.length) (hkl' : k < sk.length) : toT (rows.take (k + 1)) (sk.take (k + 1)) = min (toT (rows.take k) (sk.take k)) ((rows[k].length : Int) - sk[k]) := by
  unfold toT
  rw [List.take_succ_eq_append_getElem hkl', List.take_succ_eq_append_getElem hkl, List.zip_append (by rw [List.length_take, List.length_take]; omega), List.foldl_append]; rfl
theorem frT_take (sk : List Int) (k : Nat) (hkl' : k < sk.length) : frT (sk.take (k + 1)) = max (frT (sk.take k)) (-sk[k]) := by
  rw [List.take_succ_eq_append_getElem hkl', frT_snoc]

set_option maxHeartbeats 4000000 in
set_option maxRecDepth 100000 in
theorem rAligned_any (A A' : Option Addr) (n c c' N : Nat) (rows : List (List Nat)) (sk : List Int) (z : Int) (RR : List (List Nat)) (w : World) (h : RowsR f32v w w.heap.size A n rows) (h' : Reads w w.heap.size 1 A' n (sk.map i64v)) (hv : Valid rows sk)
    (hz : (toT rows sk ≤ frT sk ∧ z = 16 ∧ RR = [] ∧ N = 0) ∨ (¬ toT rows sk ≤ frT sk ∧ z = 0 ∧ RR = algW rows sk ∧ N = n)) :
    Calls Tryz.prog 43 #[.slice A n c, .slice A' n c'] w fun e w' => ∃ v, e = .returned (.tuple #[v, .int .i64 z]) ∧ Grow f32v 22 23 w' w.heap.size v N RR ∧ Below w.heap.size w w' := by
  have HZ := Lib.hid hz
  clear hz
  obtain ⟨i0, hi0, hz0, hz1, hz2⟩ := info_parts info_f32
  obtain ⟨i1, hi1, hw0, hw1, hw2⟩ := info_parts info_fls
  have hl := h.1
  have hl' := h'.lenM
  have h1 := hv.some_
  have h8 := hv.few
  have hnp : 0 < n := by omega
  have hnp2 : (0 : Int) < (n : Int) := by omega
  obtain ⟨ad, hr0, A0, c0, rfl, hb0, hc0, _, _, _⟩ := h.row (k := 0) hnp
  have hzz : Addr.add ad 0 = ad := rfl
  rw [hzz] at hc0
  obtain ⟨ad', hs0, rfl, hb0', hcs0⟩ := h'.cellM hnp
  rw [show Addr.add ad' 0 = ad' from rfl] at hcs0
  have hL0 := hv.len rows[0] (List.getElem_mem hr0)
  have hS0 := hv.small sk[0] (List.getElem_mem hs0)
  have HGE := Lib.hid (frT_ge sk)
  have HLE := Lib.hid (toT_le rows sk hv.same)
  have hbd := frT_bd sk hv.small
  have hbt := toT_bd rows sk
  have HF0 := Lib.hid (frT_ge sk sk[0] (List.getElem_mem hs0))
  have HT0 := Lib.hid (toT_le rows sk hv.same 0 hr0 hs0)
  have HLEN := Lib.hid hv.len
  have HS := Lib.hid hv.small
  have HL := Lib.hid hl
  have HL' := Lib.hid hl'
  have HFT := Lib.hid (frT_take sk)
  have HTT := Lib.hid (toT_snoc rows sk)
  have HWS := Lib.hid (algW_succ rows sk)
  unfold i64v at hcs0
  generalize rows[0].length = L0 at *
  generalize sk[0] = s0 at *
  clear hl hl' hv hzz
  go_enter Tryz.func43, Tryz.ntmps43
  go_wp2
  go_region
  go_wp2
  go_loopg [6, 7, 8] n (fun q p r s W => ∃ (k : Nat) (a b : Int), k ≤ n ∧ s = .int .i64 k ∧ n - k ≤ q ∧ p = .int .i64 a ∧ r = .int .i64 b ∧ Hid (a = max (-s0) (frT (sk.take k))) ∧ Hid (b = min ((L0 : Int) - s0) (toT (rows.take k) (sk.take k))) ∧ -1000 ≤ a ∧ a ≤ 1000 ∧ -1000 ≤ b ∧ b ≤ 5096 ∧ Below w.heap.size w W)
  case atStart => exact ⟨0, -s0, (L0 : Int) - s0, Nat.zero_le _, rfl, by omega, by go_num, by go_num, by simp [Hid, frT]; omega, by simp [Hid, toT]; omega, by omega, by omega, by omega, by omega, (Below.refl _ _).drew⟩
  case round =>
    obtain ⟨k, a, b, hk, rfl, hq, rfl, rfl, ha, hb, a1, a2, b1, b2, hbel⟩ := hrel
    by_cases h0 : k < n
    · obtain ⟨ad2, hkl, A1, c1, e1, hbb, hcell, hlc, hcm, hrd⟩ := (h.below hbel).row h0
      injection e1 with e1
      subst e1
      obtain ⟨ad3, hkl', e3, hbb', hcell'⟩ := (h'.below hbel).cellM h0
      injection e3 with e3
      subst e3
      have hL := HLEN.out rows[k] (List.getElem_mem hkl)
      have hS := HS.out sk[k] (List.getElem_mem hkl')
      have hfa := HFT.out k hkl'
      have hfb := HTT.out k hkl hkl'
      unfold i64v at hcell'
      clear hrd
      generalize rows[k].length = L at *
      generalize sk[k] = s at *
      have HFA : Hid (max a (-s) = max (-s0) (frT (sk.take (k + 1)))) := by unfold Hid; rw [hfa, ha.out]; omega
      have HFB : Hid (min b ((L : Int) - s) = min ((L0 : Int) - s0) (toT (rows.take (k + 1)) (sk.take (k + 1)))) := by unfold Hid; rw [hfb, hb.out]; omega
      clear hfa hfb ha hb
      go_wp2
      go_region
      go_wp2
      go_roundg (n - (k + 1))
      case measure => omega
      case rel => exact ⟨k + 1, _, _, by omega, by go_num, Nat.le_refl _, rfl, rfl, HFA.out, HFB.out, by omega, by omega, by omega, by omega, below_drewN hbel _⟩
    · obtain rfl : n = k := by omega
      have h5 := ha.out
      have h6 := hb.out
      have t1 : sk.take n = sk := List.take_of_length_le (by have := HL'.out; omega)
      have t2 : rows.take n = rows := List.take_of_length_le (by have := HL.out; omega)
      rw [t1] at h5 h6
      rw [t2] at h6
      have hfa : frT sk = a := by have := HF0.out; omega
      have hfb : toT rows sk = b := by have := HT0.out; omega
      have HRL : Hid ((algW rows sk).length = n) := by unfold Hid algW; rw [List.length_zipWith]; have := HL.out; have := HL'.out; omega
      clear h5 h6 ha hb HF0 HT0 HFT HTT t1 t2
      generalize algW rows sk = R at *
      rw [hfa, hfb] at HWS HZ
      have HGE2 : Hid (∀ s ∈ sk, -s ≤ a) := by intro s hs; have := HGE.out s hs; omega
      have HLE2 : Hid (∀ (i : Nat) (h : i < rows.length) (h2 : i < sk.length), b ≤ (rows[i].length : Int) - sk[i]) := by intro i h h2; have := HLE.out i h h2; omega
      clear HGE HLE hfa hfb hbd hbt
      rcases HZ.out with ⟨hba, rfl, rfl, rfl⟩ | ⟨hba, rfl, hRR, hNN⟩
      · have hd : decide (b ≤ a) = true := by simpa using hba
        clear hba HZ
        go_wp2
        go_ret2
        exact ⟨_, rfl, Grow.nil, hbel⟩
      · obtain rfl : R = RR := hRR.symm
        obtain rfl : n = N := hNN.symm
        have hd : decide (b ≤ a) = false := by simpa using hba
        clear hRR hNN
        obtain ⟨m, hm⟩ : ∃ m : Nat, (m : Int) = b - a := ⟨(b - a).toNat, by omega⟩
        have hm1 : 0 < m := by omega
        have hm4 : m ≤ 8192 := by omega
        have hn8 : n ≤ 8 := by have := HL.out; omega
        have hab : a < b := by omega
        have HM := Lib.hid hm
        have hbelw := hbel
        clear hm hba HZ
        go_wp2
        go_loopg [9, 10] n (fun q v s W => ∃ k : Nat, k ≤ n ∧ s = .int .i64 k ∧ n - k ≤ q ∧ Grow f32v 22 23 W w.heap.size v k (R.take k) ∧ Below w.heap.size w W)
        case atStart => exact ⟨0, Nat.zero_le _, rfl, by omega, Grow.nil, hbelw⟩
        case round =>
          obtain ⟨k, hk, rfl, hq, hgr, hbel⟩ := hrel
          by_cases h0 : k < n
          · obtain ⟨ad2, hkl, A1, c1, e1, hbb, hcell, hlc, hcm, hrd⟩ := (h.below hbel).row h0
            injection e1 with e1
            subst e1
            obtain ⟨ad3, hkl', e3, hbb', hcell'⟩ := (h'.below hbel).cellM h0
            injection e3 with e3
            subst e3
            have hL := HLEN.out rows[k] (List.getElem_mem hkl)
            have hS := HS.out sk[k] (List.getElem_mem hkl')
            have hge := HGE2.out sk[k] (List.getElem_mem hkl')
            have hle2 := HLE2.out k hkl hkl'
            have hsu := HWS.out k hkl hkl'
            unfold i64v at hcell'
            obtain ⟨lo, hlo⟩ : ∃ lo : Nat, (lo : Int) = a + sk[k] := ⟨(a + sk[k]).toNat, by omega⟩
            obtain ⟨hi, hhi⟩ : ∃ hi : Nat, (hi : Int) = b + sk[k] := ⟨(b + sk[k]).toNat, by omega⟩
            have hm2 := HM.out
            have hml : hi - lo = m := by omega
            have hb1' : lo < hi := by omega
            have hb2' : hi ≤ rows[k].length := by omega
            obtain ⟨a1, rfl, ha1, _⟩ := hrd.2 (by omega)
            have hcut := (hrd.dropN (k := lo) (by omega)).take (m := m) (by omega)
            rw [← List.map_drop, ← List.map_take] at hcut
            have he1 : (rows[k].drop lo).take m = algw a b rows[k] sk[k] := by
              unfold algw
              rw [← hlo, ← hm2]; rfl
            rw [he1] at hcut
            generalize algw a b rows[k] sk[k] = r at *
            generalize rows[k].length = L at *
            have hx1 : IntKind.i64.wrap (a + sk[k]) = (lo : Int) := by rw [← hlo]; exact IntWalk.i64_in _ (by omega)
            have hx2 : IntKind.i64.wrap (b + sk[k]) = (hi : Int) := by rw [← hhi]; exact IntWalk.i64_in _ (by omega)
            generalize sk[k] = s at *
            have HSU2 := Lib.hid hsu
            have hy1 : (0 : Int) ≤ (lo : Int) := by omega
            have hy2 : (lo : Int) ≤ (hi : Int) := by omega
            have hy3 : (hi : Int) ≤ (c1 : Int) := by omega
            have hy4 : c1 ≠ lo := by omega
            have hy5 : (0 : Int) ≤ (k : Int) := by omega
            have hy6 : (k : Int) < (n : Int) := by omega
            have hle := hbel.size
            have hbA : Below wr.heap.size wr (wr.alloc (.cells #[] 23)) := (Below.refl _ _).alloc (Nat.le_refl _) _
            have hrm : r.length = m := hcut.lenM
            have HNEWS := Lib.hid (Reads.cellsOver ((hcut.more hle).later hbA))
            have HONE := Lib.hid (f32v_one r)
            have HEM := Lib.hid (own_empty wr w.heap.size 23 hle)
            have HRM := Lib.hid hrm
            obtain ⟨hgl, vs, hown, hin⟩ := hgr
            have HGL := Lib.hid hgl
            have HIN := Lib.hid hin
            have hcellw := (hbel.cell (by rw [block_of_add]; exact hbb)).symm.trans hcell
            have hcellw' := (hbel.cell (by rw [block_of_add]; exact hbb')).symm.trans hcell'
            have hblt : (ad.add k).block < wr.heap.size := by rw [block_of_add]; exact Nat.lt_of_lt_of_le hbb hle
            have hblt' : (ad'.add k).block < wr.heap.size := by rw [block_of_add]; exact Nat.lt_of_lt_of_le hbb' hle
            have S1 : Hid ((wr.alloc (.cells #[] 23)).drew.ownsRow w.heap.size 23 1 (.slice (some ⟨wr.heap.size, 0, none⟩) 0 0) 0 []) := (own_empty wr w.heap.size 23 hle).drew
            have S2 : Hid ((r.map f32v).length = m * 1) := by unfold Hid; rw [List.length_map, hrm]; omega
            have S3 : Hid (∀ j u, (r.map f32v)[j]? = some u → (wr.alloc (.cells #[] 23)).drew.cell? ((a1.add lo).add j) = some u) := fun j u hu => HNEWS.out j u hu
            have S4 : Hid (0 + m ≤ maxLen) := by unfold Hid maxLen; omega
            have S5 : Hid ((0 + m) * 4 ≤ 140737488355328) := by unfold Hid; omega
            have S6 : Hid (w.heap.size ≤ (wr.alloc (.cells #[] 23)).drew.heap.size) := Nat.le_trans hle hbA.size
            have S7 : Hid ((wr.alloc (.cells #[] 23)).drew.heap.size = wr.heap.size + 1) := by unfold Hid; simp
            have S8 : Hid (k + 1 ≤ maxLen) := by unfold Hid maxLen; omega
            have S9 : Hid ((k + 1) * 24 ≤ 140737488355328) := by unfold Hid; omega
            clear hsu hlo hhi hm2 he1 hcut hrd hrm hgl hin
            go_wp2_with fail
            go_region_held3 (fun w' => w'.cell? (ad.add k) = some (.slice (some a1) L c1) ∧ w'.cell? (ad'.add k) = some (.int .i64 s))
              ((first
                | exact ⟨hcell, hcell'⟩
                | exact ⟨(World.cell?_alloc_lt _ _ _ hblt).trans hcell, (World.cell?_alloc_lt _ _ _ hblt').trans hcell'⟩
                | exact ⟨y1, y2⟩
                | exact ⟨(World.cell?_alloc_lt _ _ _ hblt3).trans y1, (World.cell?_alloc_lt _ _ _ hblt3').trans y2⟩
                | exact ⟨z1, z2⟩))
              ((first
                | (refine step_append_lies (s := .tmp 58) (x := .tmp 75) (t := 22) (base := w.heap.size) (e := 23) (i := i0) (z := .float .f32 0) (size := 1) (bytes := 4) (v := .slice (some ⟨wr.heap.size, 0, none⟩) 0 0) (n := 0) (xs := []) (ad := a1.add lo) (m := m) (c := c1 - lo) (news := r.map f32v) (H := wr.heap.size + 1) (hgd := ?q1) (ho := ?q2) (ht := ?q6) (hi := ?q7) (hz := ?q8) (hsize := ?q9) (hby := ?q10) (hzs := ?q11) (hsz := ?q3) (hs := ?q4) (hown := ?q12) (hx := ?q5) (hl := ?q13) (hnews := ?q14) (h1 := ?q15) (hm := ?q16) (h63 := ?q17) (hbytes := ?q18) (hbase := ?q19) (hH := ?q20) (h := ?q21)
                   case q2 => rfl
                   case q1 => rfl
                   case q6 => exact Tryz.underlying22
                   case q7 => exact hi0
                   case q8 => exact hz0
                   case q9 => exact hz1
                   case q10 => exact hz2
                   case q11 => rfl
                   case q3 => decide
                   case q4 => rfl
                   case q12 => exact S1.out
                   case q5 => rfl
                   case q13 => exact S2.out
                   case q14 => exact S3.out
                   case q15 => exact HONE.out
                   case q16 => exact hm1
                   case q17 => exact S4.out
                   case q18 => exact S5.out
                   case q19 => exact S6.out
                   case q20 => exact S7.out
                   intro g3 cap3 w3 hown3 hgrow3 hat3 hlt3
                   rw [Nat.zero_add] at hown3
                   have hb3 : Below wr.heap.size wr w3 := hbA.drew.grown hgrow3 (by simp) (fun g hg => by simp [Value.ownBlock] at hg; omega)
                   have y1 := (hb3.cell hblt).trans hcell
                   have y2 := (hb3.cell hblt').trans hcell'
                   have hblt3 := Nat.lt_of_lt_of_le hblt hb3.size
                   have hblt3' := Nat.lt_of_lt_of_le hblt' hb3.size
                   have hv3 := own_belw hown hb3)
                | (refine step_append_lies (s := .tmp 57) (x := .tmp 77) (t := 75) (base := w.heap.size) (e := 22) (i := i1) (z := .slice none 0 0) (size := 1) (bytes := 24) (n := k) (xs := vs) (ad := ⟨w3.heap.size, 0, none⟩) (m := 1) (c := 1) (news := [.slice (some ⟨g3, 0, none⟩) m cap3]) (H := w3.heap.size + 1) (hgd := ?p1) (ho := ?p2) (ht := ?p6) (hi := ?p7) (hz := ?p8) (hsize := ?p9) (hby := ?p10) (hzs := ?p11) (hsz := ?p3) (hs := ?p4) (hown := hv3.alloc _) (hx := ?p5) (hl := ?p13) (hnews := ?p14) (h1 := ?p15) (hm := ?p16) (h63 := ?p17) (hbytes := ?p18) (hbase := ?p19) (hH := ?p20) (h := ?p21)
                   case p2 => rfl
                   case p1 => rfl
                   case p6 => exact Tryz.underlying75
                   case p7 => exact hi1
                   case p8 => exact hw0
                   case p9 => exact hw1
                   case p10 => exact hw2
                   case p11 => rfl
                   case p3 => decide
                   case p4 => rfl
                   case p5 => rfl
                   case p13 => rfl
                   case p14 => exact World.news_of_block (heap_alloc_new w3 _)
                   case p15 => exact fun u hu => by cases List.mem_singleton.1 hu; rfl
                   case p16 => exact Nat.one_pos
                   case p17 => exact S8.out
                   case p18 => exact S9.out
                   case p19 => exact Nat.le_trans hle (Nat.le_trans hb3.size (by simp))
                   case p20 => simp
                   intro g4 cap4 w4 hown4 hgrow4 hat4 hlt4
                   have hb34 : Below w3.heap.size w3 (w3.alloc (.cells #[.slice (some ⟨g3, 0, none⟩) m cap3] 22)) := (Below.refl _ _).alloc (Nat.le_refl _) _
                   have hle3 := Nat.le_trans hle hb3.size
                   have hb4 : Below w.heap.size w w4 := ((hbel.trans (hb3.mono hle)).trans (hb34.mono hle3)).grown hgrow4 (Nat.le_trans hle3 hb34.size) (fun g hg => (World.ownsRow.lt hv3 g hg).1)
                   have z1 := (hb4.cell (by rw [block_of_add]; exact hbb)).trans hcellw
                   have z2 := (hb4.cell (by rw [block_of_add]; exact hbb')).trans hcellw')))
            have hG : Grow f32v 22 23 w4 w.heap.size (.slice (some ⟨g4, 0, none⟩) (k + 1) cap4) (k + 1) (R.take (k + 1)) := by
              rw [HSU2.out]
              exact Grow.snoc HGL.out (hv3.alloc _) (fun i hi => (HIN.out i hi).imp fun u hu => ⟨hu.1, own_belw (own_belw hu.2 hb3) hb34⟩) (by rw [HRM.out]; exact own_belw hown3 hb34) (by decide) hgrow4 hown4
            clear hgrow3 hgrow4 hown3 hown4 hv3 hown
            go_wp2
            go_roundg (n - (k + 1))
            case measure => omega
            case rel => exact ⟨k + 1, by omega, by go_num, Nat.le_refl _, hG, hb4⟩
          · obtain rfl : n = k := by omega
            rw [List.take_of_length_le (by have := HRL.out; omega)] at hgr
            go_wp2
            go_ret2
            exact ⟨_, rfl, hgr, hbel⟩

end Go.Proofs.YtboaojkblmddkaaGreatDoor

/- Contracts of probe's valuesOf and Line: a range over a function. -/
namespace Go.Proofs.YtboaojkblmddkaaGreatDoor
open Go.RowKit Go.Shelf

attribute [local go_sem] Oper.semAt_some

/-- the line b of words -/
def bitL (ws : List Nat) (b : Nat) : List Bool := ws.map fun x => x / 2 ^ b % 2 == 1

theorem bit_val (x b : Nat) (hx : x < 65536) : (bits BinOp.and IntKind.u16 ((x : Int) / 2 ^ b) 1 == 1) = (x / 2 ^ b % 2 == 1) := by
  have h1 : (x : Int) / 2 ^ b = ((x / 2 ^ b : Nat) : Int) := by rw [Int.natCast_ediv, Int.natCast_pow]; rfl
  have h2 : x / 2 ^ b ≤ x := Nat.div_le_self _ _
  have h3 := u16_and_nat (x / 2 ^ b) 1 (by omega) (by omega)
  rw [h1]
  have e1 : ((1 : Nat) : Int) = 1 := rfl
  rw [e1] at h3
  rw [h3, Nat.and_one_is_mod]
  rw [Bool.eq_iff_iff, beq_iff_eq, beq_iff_eq]
  omega

/-- below B nothing has turned, nor has block g -/
def KpL (B g : Nat) (W W' : World) : Prop := Below B W W' ∧ (g < W.heap.size → W'.heap[g]? = W.heap[g]?)
theorem KpL.trans_ {B g : Nat} {X Y Z : World} (h : KpL B g X Y) (k : KpL B g Y Z) : KpL B g X Z :=
  ⟨h.1.trans k.1, fun hg => (k.2 (Nat.lt_of_lt_of_le hg h.1.size)).trans (h.2 hg)⟩
theorem KpL.put {B g : Nat} {w : World} (hB : B ≤ w.heap.size) (hg : g < w.heap.size) (W : World) (l : Nat) (o o' : Obj) (hl : w.heap.size ≤ l) (h : W.heap[l]? = some o) (h1 : o.isCells = false) (h2 : o.isWalk = false) : KpL B g W (W.putObj l o') :=
  ⟨belowK_b hB W l o o' hl h h1 h2, fun _ => World.putObj_heap_other (by omega)⟩

set_option maxRecDepth 100000 in
set_option maxHeartbeats 2000000 in
theorem vals1_in (F : Fence) (n : Nat) (hf : F.fn 109) (hro : F.round = none) (hn : 1 ≤ n) (l Bw Bl B0 : Nat) (A : Option Addr) (N c b : Nat) (ws : List Nat) (hb : b < 16) (hN : N ≤ 4096) (hws : ∀ x ∈ ws, x < 65536) (J Jx : List Bool → World → Prop)
    (hY : ∀ pre x W, J pre W → pre.length < N → YieldAt F (n - 1) Tryz.prog l #[.bool x] W fun e W' =>
      (e = .returned (.bool true) ∧ J (pre ++ [x]) W' ∧ KpL B0 Bl W W') ∨ (e = .returned (.bool false) ∧ Jx (pre ++ [x]) W'))
    (W : World) (hBw : W.cell? ⟨Bw, 0, none⟩ = some (.slice A N c)) (hBl : CBlk W Bl #[.int .i64 b] 3) (hr : Reads W B0 1 A N (ws.map u16v)) (h0 : J [] W) :
    CallsIn F n Tryz.prog 109 #[.func (.yield l) #[] #[], .pointer (some ⟨Bw, 0, none⟩), .pointer (some ⟨Bl, 0, none⟩)] W fun e W' => (∃ v, e = .returned v) ∧
      ((∃ ys, ys = bitL ws b ∧ J ys W') ∨ (∃ pre, pre <+: bitL ws b ∧ Jx pre W')) := by
  refine callsIn_of_wp Tryz.func109 rfl hf ?_ hro
  simp only [Tryz.ntmps109, List.size_toArray, List.length_cons, List.length_nil, Nat.reduceAdd, Nat.reduceSub, Array.replicate_succ, Array.replicate_zero, List.push_toArray, List.append_toArray, List.nil_append, List.cons_append]
  have hwl := hr.lenM
  have HWL := Lib.hid hwl
  clear hwl
  gi_wp2
  gi_loopw [8] (fun i wr => ∃ k : Nat, k ≤ N ∧ i = .int .i64 k ∧ J ((bitL ws b).take k) wr ∧ Below B0 W wr ∧ CBlk wr Bl #[.int .i64 b] 3) (fun i _ => N - (intOf i).toNat)
  case atStart => exact ⟨0, Nat.zero_le _, rfl, by simpa using h0, Below.refl _ _, hBl⟩
  case round =>
    obtain ⟨k, hk, rfl, hJs, hnx, hbl⟩ := hrel
    by_cases hlt : k < N
    · obtain ⟨ad, hkl, rfl, hbb, hcell⟩ := (hr.below hnx).cellM hlt
      have hcl := hbl.cell 0
      have hkb : k < (bitL ws b).length := by unfold bitL; rw [List.length_map]; exact hkl
      obtain ⟨fn, tmps, assign, body, hy, hR⟩ := hY _ (bitL ws b)[k] wr hJs (by rw [List.length_take]; omega)
      have hts : (bitL ws b).take (k + 1) = (bitL ws b).take k ++ [(bitL ws b)[k]] := List.take_succ_eq_append_getElem hkb
      have hval : (bits BinOp.and IntKind.u16 ((ws[k] : Int) / 2 ^ b) 1 == 1) = (bitL ws b)[k] := by
        rw [bit_val _ _ (hws _ (List.getElem_mem hkl))]
        simp [bitL]
      unfold u16v at hcell
      generalize (bitL ws b)[k] = y at *
      generalize ws[k] = x at *
      have HTS := Lib.hid hts
      clear hts hws
      gi_wp2
      refine hR.mono ?_
      rintro e W3 (⟨rfl, hJ3, hk3⟩ | ⟨rfl, hJx3⟩)
      · have hbl3 : CBlk W3 Bl #[.int .i64 b] 3 := (hk3.2 hbl.lt).trans hbl
        gi_wp2
        go_roundw
        case rel => exact ⟨k + 1, by omega, by simp, by rw [HTS.out]; exact hJ3, hnx.trans hk3.1, hbl3⟩
        case measure => simp [intOf]; omega
      · gi_wp2
        refine bodyPost_ret (results_none rfl _ _ _) rfl ?_
        exact ⟨⟨_, rfl⟩, .inr ⟨(bitL ws b).take (k + 1), List.take_prefix _ _, by rw [HTS.out]; exact hJx3⟩⟩
    · obtain rfl : k = N := by omega
      rw [List.take_of_length_le (by unfold bitL; rw [List.length_map, HWL.out]; exact Nat.le_refl _)] at hJs
      gi_wp2
      go_end0
      exact ⟨⟨_, rfl⟩, .inl ⟨_, rfl, hJs⟩⟩

theorem valuesOf_any (A : Option Addr) (N c b : Nat) (w : World) : Calls Tryz.prog 68 #[.slice A N c, .int .i64 b] w fun e w' =>
    e = .returned (.func (.func 109) #[] #[.pointer (some ⟨w.heap.size, 0, none⟩), .pointer (some ⟨w.heap.size + 1, 0, none⟩)]) ∧ (w.alloc (.cells #[.slice A N c] 51)).alloc (.cells #[.int .i64 b] 3) = w' := by
  have hmf : ∀ (fn : Fn) (first cap : Array Value) (w : World), (Instr.makeFunc fn first cap).run Tryz.prog w = .ok (.func fn first cap) w := fun _ _ _ _ => rfl
  go_enter Tryz.func68, Tryz.ntmps68
  go_wp2
  go_ret
  exact ⟨rfl, rfl⟩

theorem vals_stops (n : Nat) (hn : 1 ≤ n) (Bw Bl B0 : Nat) (A : Option Addr) (N c b : Nat) (ws : List Nat) (hb : b < 16) (hN : N ≤ 4096) (hws : ∀ x ∈ ws, x < 65536) (w : World) (hBw0 : Bw < w.heap.size) (hB0 : B0 ≤ w.heap.size)
    (hBw : w.cell? ⟨Bw, 0, none⟩ = some (.slice A N c)) (hBl : CBlk w Bl #[.int .i64 b] 3) (hr : Reads w B0 1 A N (ws.map u16v)) :
    SeqStopsK Fence.wide n Tryz.prog 109 #[.pointer (some ⟨Bw, 0, none⟩), .pointer (some ⟨Bl, 0, none⟩)] (fun x : Bool => #[Value.bool x]) (KpL B0 Bl) (fun ys => ys = bitL ws b) (fun pre => pre <+: bitL ws b) N w := fun l J Jx W hW _ _ hY h0 =>
  vals1_in Fence.wide n trivial rfl hn l Bw Bl B0 A N c b ws hb hN hws J Jx hY W ((hW.cell (p := ⟨Bw, 0, none⟩) hBw0).trans hBw) (hBl.below hW hBl.lt) (hr.below (hW.mono hB0)) h0

end Go.Proofs.YtboaojkblmddkaaGreatDoor

/- Contract of probe's Line. -/
namespace Go.Proofs.YtboaojkblmddkaaGreatDoor
open Go.RowKit Go.Shelf

attribute [local go_sem] Oper.semAt_some

set_option maxRecDepth 100000 in
set_option maxHeartbeats 2000000 in
theorem line_in (A : Option Addr) (N c b : Nat) (ws : List Nat) (w : World) (h : Reads w w.heap.size 1 A N (ws.map u16v)) (hws : ∀ x ∈ ws, x < 65536) (hN : N ≤ 4096) (hb : b < 16) :
    CallsIn Fence.wide 5 Tryz.prog 29 #[.slice A N c, .int .i64 b] w fun e W' => ∃ v, e = .returned (.tuple #[v, .int .i64 0]) ∧ W'.ownsRow w.heap.size 4 1 v N ((bitL ws b).map boolv) ∧ Below w.heap.size w W' := by
  have h1 : 1 ≤ 5 := by omega
  obtain ⟨i0, hi, hz0, hz1, hz2⟩ := info_parts info_bool
  have e1 : (if (4096 : Int) < (N : Int) then (5 : Int) else 0) = 0 := if_neg (by omega)
  have H1 := catMost_u16 A N c 4096 w
  rw [e1] at H1
  have hr : rangeE (b : Int) 0 15 = 0 := by unfold rangeE; rw [if_neg (by omega)]
  have H2 := cinRange_any (b : Int) 0 15 w
  rw [hr] at H2
  have K1 := Lib.hid H1
  have K2 := Lib.hid H2
  clear H1 H2 e1 hr
  refine callsIn_of_wp_marks Tryz.func29 rfl trivial ?_ rfl
  simp only [Tryz.ntmps29, List.size_toArray, List.length_cons, List.length_nil, Nat.reduceAdd, Nat.reduceSub, Array.replicate_succ, Array.replicate_zero, List.push_toArray, List.append_toArray, List.nil_append, List.cons_append]
  gi_wp2_with fail
  refine ⟨trivial, (callsIn_wide.2 K1.out).mono ?_⟩
  rintro e w1 ⟨rfl, rfl⟩
  gi_wp2_with fail
  refine ⟨trivial, (callsIn_wide.2 K2.out).mono ?_⟩
  rintro e w1 ⟨rfl, rfl⟩
  gi_wp2_with fail
  refine ⟨trivial, (callsIn_wide.2 (cfirst_two 0 0 w 29 w.heap.size rfl)).mono ?_⟩
  rintro e w1 ⟨rfl, rfl⟩
  have hb1 : Below w.heap.size w (w.alloc (.cells #[.int .i64 0, .int .i64 0] 29)) := (Below.refl _ _).alloc (Nat.le_refl _) _
  generalize w.alloc (.cells #[.int .i64 0, .int .i64 0] 29) = w1 at *
  have hle := hb1.size
  gi_wp2_with (gi_at_make; refine wpListIn_make_own _ rfl _ _ 26 rfl w.heap.size 4 i0 (.bool false) 1 Tryz.underlying26 hi hz0 hz1 _ _ _ N rfl rfl rfl ?b2 ?b3 hle ?_)
  case b2 => rw [hz2]; omega
  case b3 => unfold maxLen; omega
  intro w2 hown0 hgrow0
  have hB2 : Below w.heap.size w w2 := hb1.trans ((gnone hgrow0 (Nat.le_refl _)).mono hb1.size)
  generalize w1.heap.size = G at *
  gi_wp2_with fail
  refine ⟨trivial, (callsIn_wide.2 (valuesOf_any A N c b _)).mono ?_⟩
  rintro e w3 ⟨rfl, rfl⟩
  gi_wp2_with fail
  have hG2 := hgrow0.size
  have bV := Boxed.new w2 26 (.slice (some ⟨G, 0, none⟩) 0 N)
  have bW := Boxed.new (w2.alloc (.cells #[.slice (some ⟨G, 0, none⟩) 0 N] 26)) 51 (.slice A N c)
  have bL := Boxed.new ((w2.alloc (.cells #[.slice (some ⟨G, 0, none⟩) 0 N] 26)).alloc (.cells #[.slice A N c] 51)) 3 (.int .i64 b)
  have hW0 : Below w2.heap.size w2 (((w2.alloc (.cells #[.slice (some ⟨G, 0, none⟩) 0 N] 26)).alloc (.cells #[.slice A N c] 51)).alloc (.cells #[.int .i64 b] 3)) := (((Below.refl _ _).alloc (Nat.le_refl _) _).alloc (by simp) _).alloc (by simp; omega) _
  have bV0 := (bV.alloc (.cells #[.slice A N c] 51)).alloc (.cells #[.int .i64 b] 3)
  have bW0 := bW.alloc (.cells #[.int .i64 b] 3)
  have hown1 := ((hown0.alloc (.cells #[.slice (some ⟨G, 0, none⟩) 0 N] 26)).alloc (.cells #[.slice A N c] 51)).alloc (.cells #[.int .i64 b] 3)
  simp only [World.size_alloc] at bW0 bL
  have hszW : (((w2.alloc (.cells #[.slice (some ⟨G, 0, none⟩) 0 N] 26)).alloc (.cells #[.slice A N c] 51)).alloc (.cells #[.int .i64 b] 3)).heap.size = w2.heap.size + 3 := by simp
  have hBW : Below w.heap.size w (((w2.alloc (.cells #[.slice (some ⟨G, 0, none⟩) 0 N] 26)).alloc (.cells #[.slice A N c] 51)).alloc (.cells #[.int .i64 b] 3)) := hB2.trans (hW0.mono hB2.size)
  have hsz2 := hB2.size
  clear bV bW hW0 hown0 hgrow0
  generalize (((w2.alloc (.cells #[.slice (some ⟨G, 0, none⟩) 0 N] 26)).alloc (.cells #[.slice A N c] 51)).alloc (.cells #[.int .i64 b] 3)) = W0 at *
  generalize w2.heap.size = V at *
  refine wpIn_rangeFunc_ownG rfl h1 (gf := 109) (lb := #[.pointer (some ⟨V + 1, 0, none⟩), .pointer (some ⟨V + 1 + 1, 0, none⟩)]) rfl trivial (enters_of Tryz.func109 (by kernel_rfl) rfl)
    (vals_stops (5 - 1) (by omega) (V + 1) (V + 1 + 1) w.heap.size A N c b ws hb hN hws W0 (by omega) hBW.size bW0.cell bL (h.below hBW)) KpL.trans_ (KpL.put hBW.size (by omega)) (Below.refl _ _) (fun _ => rfl)
    (fun (pre : List Bool) W => (∃ v, Boxed W V 26 v ∧ W.ownsRow w.heap.size 4 1 v pre.length (pre.map boolv) ∧ True) ∧ (Below w.heap.size w W ∧ Boxed W (V + 1 + 1) 3 (.int .i64 b)))
    (fun _ _ _ => False)
    (OwnFrom.and (Own.from (holdsRow_own w.heap.size V 26 4 1 (fun pre : List Bool => pre.length) (fun pre : List Bool => pre.map boolv) (fun _ _ => True)) _) (OwnFrom.and (ownFrom_below (Nat.le_refl _) hBW.size) (fun s X Y row hs hg hr => hs.kept hg (fun e' => by
      obtain ⟨_, o, ho, hc⟩ := hr _ e'.symm
      rw [show X.heap[V + 1 + 1]? = _ from hs] at ho; cases ho; cases hc))))
    (fun _ _ _ _ _ hs _ _ => hs)
    ⟨⟨_, bV0, hown1, trivial⟩, hBW, bL⟩
    (fun x => { tmps := #[.slice A N c, .int .i64 b, undef, undef, .slice none 0 0, .int .i64 0, .int .i64 0, .pointer (some ⟨V, 0, none⟩), .bool x, .slice A N c, .int .i64 0, .int .i64 b, .int .i64 0, .slice (some ⟨w.heap.size, 0, none⟩) 2 2, .int .i64 0, .int .i64 0, .bool false, undef, .slice A N c, .int .i64 N, .slice (some ⟨G, 0, none⟩) 0 N, .slice A N c, .int .i64 b, .func (.func 109) #[] #[.pointer (some ⟨V + 1, 0, none⟩), .pointer (some ⟨V + 1 + 1, 0, none⟩)], .bool x, undef, undef, undef, undef, undef], defers := [] }) ?assign ?body ?done ?stop
  case assign =>
    intro l x W K hK
    gi_wp2
    exact hK
  case body =>
    rintro l pre x W ⟨⟨v, hv, hrow, _⟩, hB, hbl⟩ hlt
    have hc := hv.cell
    gi_wp2_with (gi_at_builtin; refine wpListIn_append_own _ rfl _ _ 26 rfl w.heap.size 4 i0 (.bool false) 1 1 Tryz.underlying26 hi hz0 hz1 hz2 rfl (by decide) _ _ _ rfl (hrow.alloc _) ⟨W.heap.size, 0, none⟩ 1 1 [.bool x] rfl rfl (cell_one_new _ _ _) (by simp [Value.oneCell']) (by unfold maxLen; omega) (by omega) (by have := hB.size; simp; omega) ?_; intro v' w1 hown' hgrow _; obtain ⟨g', cap', rfl⟩ := ownsRow_succ hown'; obtain ⟨hv1, hv2, hr2, hk2, hb2⟩ := hv.appended (by decide) hrow hB.size hsz2 hown' hgrow; have hbl1 := (hbl.alloc (.cells #[.bool x] 4)).kept hgrow (hbl.not_row (by decide) hrow); have hc1 := hv1.cell; have hf1 := hv1.frozen)
    have hbl2 := hbl1.kept (grownBy_setCell' w1 V (.slice (some ⟨g', 0, none⟩) (pre.length + 1) cap')) (by intro e; injection e with e; omega)
    exact ⟨hk2.from _, ⟨hb2, fun _ => hbl2.trans hbl.symm⟩, ⟨_, hv2, by simpa [boolv] using hr2, trivial⟩, hB.trans hb2, hbl2⟩
  case done =>
    rintro D ys W hD rfl ⟨⟨v, hv, hrow, _⟩, hB, hbl⟩ hK
    have hc := hv.cell
    have hlN : (bitL ws b).length = N := by unfold bitL; rw [List.length_map]; exact h.lenM
    rw [hlN] at hrow
    clear hlN
    gi_wp2
    refine ⟨by simp, .inl ⟨_, _, rfl, run_takeDeferred hK, ?_⟩⟩
    exact ⟨_, results_tmp2 rfl _ _ _, v, rfl, ownsRow_putObj hrow _ hK rfl, hB.trans (belowK_b (w := W0) hBW.size W D _ _ hD hK rfl rfl)⟩
  case stop =>
    rintro D c pre W _ _ h _
    exact h.elim

theorem line_ok (A : Option Addr) (N c b : Nat) (ws : List Nat) (w : World) (h : Reads w w.heap.size 1 A N (ws.map u16v)) (hws : ∀ x ∈ ws, x < 65536) (hN : N ≤ 4096) (hb : b < 16) :
    Calls Tryz.prog 29 #[.slice A N c, .int .i64 b] w fun e W' => ∃ v, e = .returned (.tuple #[v, .int .i64 0]) ∧ W'.ownsRow w.heap.size 4 1 v N ((bitL ws b).map boolv) ∧ Below w.heap.size w W' :=
  callsIn_wide.1 (line_in A N c b ws w h hws hN hb)

end Go.Proofs.YtboaojkblmddkaaGreatDoor

/- The reference's power, Bit, Line, Words, Needed. -/
namespace Go.Proofs.YtboaojkblmddkaaGreatDoor
open Go.RowKit Bn

theorem pow_step (k : Nat) (hk : k < 16) : wrap64 (2 * ((2 ^ k : Nat) : Int)) = ((2 ^ (k + 1) : Nat) : Int) := by
  have h1 : 2 ^ (k + 1) ≤ 2 ^ 16 := Nat.pow_le_pow_right (by omega) (by omega)
  have e : 2 ^ (k + 1) = 2 * 2 ^ k := by rw [Nat.pow_succ, Nat.mul_comm]
  have e16 : (2 : Nat) ^ 16 = 65536 := by decide
  generalize 2 ^ (k + 1) = q at *
  generalize 2 ^ k = p at *
  rw [IntWalk.wrap64_in _ (by omega)]
  omega

theorem rpower_any (n : Nat) (w : World) (hn : n ≤ 16) : Calls Tryz.prog 69 #[.int .i64 n] w fun e w' => e = .returned (.int .i64 ((2 ^ n : Nat) : Int)) ∧ w = w' := by
  have HP := Lib.hid (fun k hk => pow_step k hk)
  have HV : Hid (∀ (k : Nat) (z : Int), k = n → z = ((2 ^ k : Nat) : Int) → z = ((2 ^ n : Nat) : Int)) := fun k z h1 h2 => by rw [h2, h1]
  generalize hR : ((2 ^ n : Nat) : Int) = R at *
  go_enter Tryz.func69, Tryz.ntmps69
  go_wp2
  go_loopg [3, 4] n (fun q o s W => ∃ k : Nat, ∃ z : Int, k ≤ n ∧ s = .int .i64 k ∧ n - k ≤ q ∧ o = .int .i64 z ∧ Hid (z = ((2 ^ k : Nat) : Int)) ∧ W = w)
  case atStart => exact ⟨0, 1, Nat.zero_le _, rfl, by omega, rfl, rfl, rfl⟩
  case round =>
    obtain ⟨k, z, hk, rfl, hq, rfl, hz, hW⟩ := hrel
    obtain rfl : w = wr := hW.symm
    clear hW
    by_cases h0 : k < n
    · have hs := HP.out k (by omega)
      rw [← hz.out] at hs
      have HS := Lib.hid hs
      clear hs
      go_wp2
      go_roundg (n - (k + 1))
      case measure => omega
      case rel => exact ⟨k + 1, _, by omega, by go_num, Nat.le_refl _, rfl, HS.out, rfl⟩
    · have hv := HV.out k z (by omega) hz.out
      subst hv
      clear hz HV
      go_wp2
      go_ret
      exact ⟨rfl, rfl⟩

theorem rBit_any (x b : Nat) (w : World) (hx : x < 65536) (hb : b < 16) : Calls Tryz.prog 70 #[.int .u16 x, .int .i64 b] w fun e w' => e = .returned (.bool (x / 2 ^ b % 2 == 1)) ∧ w = w' := by
  have HP := Lib.hid (rpower_any b w (by omega))
  have hp : 0 < 2 ^ b := Nat.pow_pos (by omega)
  have hp2 : 2 ^ b ≤ 2 ^ 16 := Nat.pow_le_pow_right (by omega) (by omega)
  have e16 : (2 : Nat) ^ 16 = 65536 := by decide
  rw [e16] at hp2
  generalize 2 ^ b = p at *
  have hv : ((x : Int) / (p : Int) % 2 == 1) = (x / p % 2 == 1) := by
    have : (x : Int) / (p : Int) = ((x / p : Nat) : Int) := by rw [Int.natCast_ediv]
    rw [this, Bool.eq_iff_iff]
    simp only [beq_iff_eq]
    omega
  have HVV := Lib.hid hv
  have hle : x / p ≤ x := Nat.div_le_self _ _
  have hq0 : (0 : Int) ≤ (x : Int) / (p : Int) := Int.ediv_nonneg (by omega) (by omega)
  have hq1 : (x : Int) / (p : Int) < 65536 := by
    have : (x : Int) / (p : Int) = ((x / p : Nat) : Int) := by rw [Int.natCast_ediv]
    omega
  have hp0 : (p : Int) ≠ 0 := by omega
  have hp1 : ((p : Int) == 0) = false := by rw [beq_eq_false_iff_ne]; exact hp0
  clear hv e16
  go_enter Tryz.func70, Tryz.ntmps70
  go_wp2_with fail
  refine HP.out.mono ?_
  rintro e w1 ⟨rfl, rfl⟩
  go_wp2
  go_ret
  exact ⟨by rw [← HVV.out]; rfl, rfl⟩

theorem rNeeded_any (n : Nat) (w : World) (hn : n ≤ 4098) : Calls Tryz.prog 45 #[.int .i64 n] w fun e w' => e = .returned (.int .i64 ((n + 15) / 16 : Nat)) ∧ w = w' := by
  have e1 : ((n : Int) + 16 - 1) / 16 = (((n + 15) / 16 : Nat) : Int) := by omega
  have HE := Lib.hid e1
  clear e1
  go_enter Tryz.func45, Tryz.ntmps45
  go_wp2
  go_ret
  exact ⟨by rw [← HE.out]; rfl, rfl⟩

set_option maxHeartbeats 1000000 in
theorem rLine_ok (A : Option Addr) (N c b : Nat) (ws : List Nat) (w : World) (h : Reads w w.heap.size 1 A N (ws.map u16v)) (hws : ∀ x ∈ ws, x < 65536) (hN : N ≤ 4096) (hb : b < 16) :
    Calls Tryz.prog 33 #[.slice A N c, .int .i64 b] w fun e w' => ∃ v, e = .returned v ∧ w'.ownsRow w.heap.size 4 1 v N ((bitL ws b).map boolv) ∧ Below w.heap.size w w' := by
  obtain ⟨i0, hi0, hz0, hz1, hz2⟩ := info_parts info_bool
  have HL := Lib.hid h.lenM
  have HWS := Lib.hid hws
  clear hws
  go_enter Tryz.func33, Tryz.ntmps33
  go_wp2
  go_loopg [5, 6] N (fun q v s W => ∃ k : Nat, k ≤ N ∧ s = .int .i64 k ∧ N - k ≤ q ∧ W.ownsRow w.heap.size 4 1 v k ((bitL (ws.take k) b).map boolv) ∧ Below w.heap.size w W)
  case atStart => exact ⟨0, Nat.zero_le _, rfl, by omega, World.ownsRow_nil _ _ _ _, Below.refl _ _⟩
  case round =>
    obtain ⟨k, hk, rfl, hq, hown, hbel⟩ := hrel
    by_cases h0 : k < N
    · obtain ⟨ad, hkl, rfl, hbb, hcell⟩ := (h.below hbel).cellM h0
      have hx := HWS.out _ (List.getElem_mem hkl)
      have hts : (bitL (ws.take (k + 1)) b).map boolv = (bitL (ws.take k) b).map boolv ++ [boolv (ws[k] / 2 ^ b % 2 == 1)] := by
        unfold bitL
        rw [List.take_succ_eq_append_getElem hkl, List.map_append, List.map_append]; rfl
      have HTS := Lib.hid hts
      unfold u16v at hcell
      have HB := Lib.hid (fun W => rBit_any ws[k] b W hx (by omega))
      clear hts hx
      generalize (ws[k] / 2 ^ b % 2 == 1) = z at *
      generalize ws[k] = x at *
      go_wp2_with fail
      refine (HB.out _).mono ?_
      rintro e w1 ⟨rfl, rfl⟩
      go_wp2_with (at_builtin; refine wpList_append_own _ rfl _ _ 26 rfl w.heap.size 4 i0 (.bool false) 1 1 Tryz.underlying26 hi0 hz0 hz1 hz2 rfl (by decide) _ _ _ rfl (hown.alloc _) ⟨wr.heap.size, 0, none⟩ 1 1 [.bool z] rfl rfl ?a1 ?a2 ?a3 ?a4 ?a5 ?_)
      case a1 => exact cell_one_new _ _ _
      case a2 => intro u hu; simp at hu; subst hu; rfl
      case a3 => unfold maxLen; omega
      case a4 => omega
      case a5 => have := hbel.size; simp; omega
      intro v' w2 hown' hgrow _
      have hb2 : Below w.heap.size w w2 := (hbel.alloc hbel.size _).grown hgrow (by have := hbel.size; simp; omega) (fun g hg => (World.ownsRow.lt hown g hg).1)
      clear hgrow hown
      go_wp2
      go_roundg (N - (k + 1))
      case measure => omega
      case rel => exact ⟨k + 1, by omega, by go_num, Nat.le_refl _, by rw [HTS.out]; exact hown', hb2⟩
    · obtain rfl : k = N := by omega
      rw [List.take_of_length_le (by have := HL.out; omega)] at hown
      go_wp2
      go_ret
      exact ⟨_, rfl, hown, hbel⟩

end Go.Proofs.YtboaojkblmddkaaGreatDoor

/- The reference's Words of valid lines. -/
namespace Go.Proofs.YtboaojkblmddkaaGreatDoor
open Go.RowKit Bn

theorem wd_lt16 (rows : List (List Bool)) (k : Nat) (h : rows.length ≤ 16) : wd rows k < 65536 := by
  have h1 := wd_lt rows k
  have h2 : 2 ^ rows.length ≤ 2 ^ 16 := Nat.pow_le_pow_right (by omega) h
  have e16 : (2 : Nat) ^ 16 = 65536 := by decide
  omega

set_option maxHeartbeats 4000000 in
set_option maxRecDepth 100000 in
theorem rWords_ok (A : Option Addr) (n c m : Nat) (rows : List (List Bool)) (w : World) (h : RowsR boolv w w.heap.size A n rows) (h0 : 1 ≤ n) (hn : n ≤ 16) (hm : ∀ r ∈ rows, r.length = m) (hm2 : m ≤ 4096) :
    Calls Tryz.prog 32 #[.slice A n c] w fun e w' => ∃ v, e = .returned v ∧ w'.ownsRow w.heap.size 63 1 v m (((List.range m).map (wd rows)).map u16v) ∧ Below w.heap.size w w' := by
  obtain ⟨i0, hi0, hz0, hz1, hz2⟩ := info_parts info_u16
  have hrl := h.1
  have HM := Lib.hid hm
  have HRL := Lib.hid hrl
  clear hm hrl
  have hp0 : (0 : Int) < (n : Int) := by omega
  have hp1 : 0 < n := by omega
  obtain ⟨ad, hr0, A0, c0, rfl, hb0, hc0, _, _, _⟩ := h.row (k := 0) hp1
  have hz : Addr.add ad 0 = ad := rfl
  rw [hz, HM.out rows[0] (List.getElem_mem hr0)] at hc0
  clear hz
  go_enter Tryz.func32, Tryz.ntmps32
  go_wp2
  go_loopg [3, 4] m (fun q v s W => ∃ k : Nat, k ≤ m ∧ s = .int .i64 k ∧ m - k ≤ q ∧ W.ownsRow w.heap.size 63 1 v k (((List.range k).map (wd rows)).map u16v) ∧ Below w.heap.size w W)
  case atStart => exact ⟨0, Nat.zero_le _, rfl, by omega, World.ownsRow_nil _ _ _ _, Below.refl _ _⟩
  case round =>
    obtain ⟨k, hk, rfl, hq, hown, hbel⟩ := hrel
    have hc02 := (hbel.cell hb0).trans hc0
    by_cases hkm : k < m
    · have hts : (((List.range (k + 1)).map (wd rows)).map u16v) = (((List.range k).map (wd rows)).map u16v) ++ [u16v (wd rows k)] := by
        rw [List.range_succ, List.map_append, List.map_append]; rfl
      have HTS := Lib.hid hts
      clear hts
      go_wp2
      obtain ⟨wo, hwo⟩ : ∃ wo : World, wo = wr := ⟨_, rfl⟩
      subst hwo
      go_loopg [5, 6] n (fun q o s W => ∃ i d : Nat, i ≤ n ∧ s = .int .i64 i ∧ n - i ≤ q ∧ o = .int .i64 (d : Int) ∧ Hid (d = wd (rows.take i) k) ∧ W = wo)
      case atStart => exact ⟨0, 0, Nat.zero_le _, rfl, by omega, rfl, rfl, rfl⟩
      case round =>
        obtain ⟨i, d, hi, rfl, hq2, rfl, hd, hW⟩ := hrel
        obtain rfl : wo = wr := hW.symm
        clear hW
        by_cases hin : i < n
        · obtain ⟨ad', hil, A', c', he, hbb, hcl, _, _, hrd⟩ := (h.below hbel).row hin
          injection he with he
          subst he
          have hlen := HM.out rows[i] (List.getElem_mem hil)
          rw [hlen] at hcl hrd
          obtain ⟨ad2, hkl, rfl, hb2, hcell⟩ := hrd.cellM hkm
          have hwt := wd_take rows i k hil
          have hlt := wd_lt16 (rows.take (i + 1)) k (by rw [List.length_take]; omega)
          have hgd : rows[i].getD k false = rows[i][k] := by simp [List.getD, hkl]
          rw [hgd, ← hd.out] at hwt
          unfold boolv at hcell
          generalize rows[i][k] = x at *
          generalize hY : wd (rows.take (i + 1)) k = Y at *
          have HY := Lib.hid hY
          clear hgd hlen hY hrd
          cases x
          · have e : Y = d := by simpa using hwt
            have HE := Lib.hid (e.symm.trans HY.out.symm)
            clear hwt e hlt
            go_wp2
            go_roundg (n - (i + 1))
            case measure => omega
            case rel => exact ⟨i + 1, d, by omega, by go_num, Nat.le_refl _, rfl, HE.out, rfl⟩
          · have HP := Lib.hid (rpower_any i wo (by omega))
            rw [if_pos rfl] at hwt
            generalize 2 ^ i = p at *
            have HE : Hid (((d : Int) + (p : Int)) = ((Y : Nat) : Int)) := by unfold Hid; omega
            have hr1 : wrap64 ((d : Int) + (p : Int)) = (Y : Int) := by rw [IntWalk.wrap64_in _ (by omega)]; omega
            clear hwt
            go_wp2_with fail
            refine HP.out.mono ?_
            rintro e w1 ⟨rfl, rfl⟩
            go_wp2
            go_roundg (n - (i + 1))
            case measure => omega
            case rel => exact ⟨i + 1, Y, by omega, by go_num, Nat.le_refl _, by first | rfl | rw [hr1], HY.out.symm, rfl⟩
        · obtain rfl : i = n := by omega
          have hdv := hd.out
          rw [List.take_of_length_le (by have := HRL.out; omega)] at hdv
          have hlt := wd_lt16 rows k (by have := HRL.out; omega)
          rw [← hdv] at hlt
          rw [← hdv] at HTS
          have hwr : IntKind.u16.wrap (d : Int) = (d : Int) := by rw [u16_mod]; omega
          clear hd hdv
          have hsz := hbel.size
          go_wp2_with (at_builtin; refine wpList_append_own _ rfl _ _ 51 rfl w.heap.size 63 i0 (.int .u16 0) 1 2 Tryz.underlying51 hi0 hz0 hz1 hz2 rfl (by decide) _ _ _ rfl (hown.alloc _) ⟨wo.heap.size, 0, none⟩ 1 1 [.int .u16 (d : Int)] rfl rfl ?a1 ?a2 ?a3 ?a4 ?a5 ?_)
          case a1 => exact cell_one_new _ _ _
          case a2 => intro u hu; simp at hu; subst hu; rfl
          case a3 => unfold maxLen; omega
          case a4 => omega
          case a5 => simp; omega
          intro v' w2 hown' hgrow _
          have hb2 : Below w.heap.size w w2 := (hbel.alloc hbel.size _).grown hgrow (by simp; omega) (fun g hg => (World.ownsRow.lt hown g hg).1)
          clear hgrow hown
          go_wp2
          go_roundg (m - (k + 1))
          case measure => omega
          case rel => exact ⟨k + 1, by omega, by go_num, Nat.le_refl _, by rw [HTS.out, List.map_map]; exact hown', hb2⟩
    · obtain rfl : k = m := by omega
      go_wp2
      go_ret
      exact ⟨_, rfl, hown, hbel⟩

end Go.Proofs.YtboaojkblmddkaaGreatDoor
