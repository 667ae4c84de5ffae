/- ProbeRebuilds: the reference's FromChanges of valid times; the law. -/
import Derived.Test.YtboaojkblmddkaaGreatDoorRebCxReb0
import Derived.Test.YtboaojkblmddkaaGreatDoorCRf3
import Derived.Test.YtboaojkblmddkaaGreatDoorCAwc
import Derived.Deep.LoopGhost
namespace Go.Proofs.YtboaojkblmddkaaGreatDoor
open Go.RowKit

set_option maxHeartbeats 2000000 in
set_option maxRecDepth 100000 in
theorem rFromChanges_ok (A : Option Addr) (c n : Nat) (b : Bool) (l : List Bool) (w : World) (h : Reads w w.heap.size 1 A (chg b l n).length ((chg b l n).map natv)) (hl : l.length = n) (hn : n ≤ 4096) :
    Calls Tryz.prog 26 #[.slice A (chg b l n).length c, .bool b, .int .i64 n] w fun e w' => ∃ v, e = .returned v ∧ w'.ownsRow w.heap.size 4 1 v n (l.map boolv) ∧ Below w.heap.size w w' := by
  obtain ⟨i0, hi0, hz0, hz1, hz2⟩ := info_parts info_bool
  have hN := chg_len b l n
  have HL := Lib.hid hl
  clear hl
  generalize hT : chg b l n = T at *
  have HT := Lib.hid hT
  clear hT
  generalize hTN : T.length = N at *
  have HTN := Lib.hid hTN
  clear hTN
  go_enter Tryz.func26, Tryz.ntmps26
  go_wp2
  go_loopg [1, 7, 8, 9] n (fun q p v s8 s W => ∃ k : Nat, k ≤ n ∧ s = .int .i64 k ∧ n - k ≤ q ∧ p = .bool (prv b l k) ∧ (∃ j : Nat, s8 = .int .i64 j ∧ j ≤ k ∧ Hid (j = (chg b l k).length)) ∧ W.ownsRow w.heap.size 4 1 v k ((l.take k).map boolv) ∧ Below w.heap.size w W)
  case atStart => exact ⟨0, Nat.zero_le _, rfl, by omega, rfl, ⟨0, rfl, Nat.le_refl _, rfl⟩, World.ownsRow_nil _ _ _ _, Below.refl _ _⟩
  case round =>
    obtain ⟨k, hk, rfl, hq, rfl, ⟨j, rfl, hjk, hj⟩, hown, hbel⟩ := hrel
    by_cases h0 : k < n
    · have hkl : k < l.length := by have := HL.out; omega
      have hcb := chgB_prv b l k hkl
      have hnx := prv_next b l k hkl
      have hsu := chg_succ b l k
      have hnt := chg_next b l n k h0
      have hts : (l.take (k + 1)).map boolv = (l.take k).map boolv ++ [boolv l[k]] := by
        rw [List.take_succ_eq_append_getElem hkl, List.map_append]; rfl
      have hcl := chg_len b l (k + 1)
      rw [hcb] at hsu hnt
      rw [← hj.out, HT.out] at hnt
      generalize l[k] = x at *
      generalize prv b l k = p at *
      have HN := Lib.hid hnx
      have HTS := Lib.hid hts
      clear hcb hnx hts
      have hrd := h.below hbel
      have hsz := hbel.size
      by_cases hxp : (x != p) = true
      · rw [hxp, if_pos rfl] at hsu
        have hjt := hnt.1 hxp
        have hjN : j < N := by
          have := (List.getElem?_eq_some_iff.1 hjt).1
          have := HTN.out
          omega
        obtain ⟨ad, hjl, rfl, hbb, hcell⟩ := hrd.cellM hjN
        have hjv : T[j] = k := by
          rw [List.getElem?_eq_getElem hjl] at hjt
          injection hjt
        rw [hjv] at hcell
        unfold natv at hcell
        have hj2 : Hid (j + 1 = (chg b l (k + 1)).length) := by
          unfold Hid
          rw [hsu, List.length_append, ← hj.out]; rfl
        clear hsu hnt hjt hjv hrd
        cases x <;> cases p <;> first | exact absurd hxp (by decide) | clear hxp
        · go_wp2_with (at_builtin; refine wpList_append_own _ rfl _ _ 26 rfl w.heap.size 4 i0 (.bool false) 1 1 Tryz.underlying26 hi0 hz0 hz1 hz2 rfl (by decide) _ _ _ rfl (hown.alloc _) ⟨wr.heap.size, 0, none⟩ 1 1 [.bool false] rfl rfl ?a1 ?a2 ?a3 ?a4 ?a5 ?_)
          case a1 => exact cell_one_new _ _ _
          case a2 => intro u hu; simp at hu; subst hu; rfl
          case a3 => unfold maxLen; omega
          case a4 => omega
          case a5 => simp; omega
          intro v' w2 hown' hgrow _
          have hb2 : Below w.heap.size w w2 := (hbel.alloc hbel.size _).grown hgrow (by simp; omega) (fun g hg => (World.ownsRow.lt hown g hg).1)
          clear hgrow hown
          go_wp2
          go_roundg (n - (k + 1))
          case measure => omega
          case rel => exact ⟨k + 1, by omega, by go_num, Nat.le_refl _, by rw [HN.out], ⟨j + 1, by go_num, by omega, hj2⟩, by rw [HTS.out, List.map_take]; exact hown', hb2⟩
        · go_wp2_with (at_builtin; refine wpList_append_own _ rfl _ _ 26 rfl w.heap.size 4 i0 (.bool false) 1 1 Tryz.underlying26 hi0 hz0 hz1 hz2 rfl (by decide) _ _ _ rfl (hown.alloc _) ⟨wr.heap.size, 0, none⟩ 1 1 [.bool true] rfl rfl ?b1 ?b2 ?b3 ?b4 ?b5 ?_)
          case b1 => exact cell_one_new _ _ _
          case b2 => intro u hu; simp at hu; subst hu; rfl
          case b3 => unfold maxLen; omega
          case b4 => omega
          case b5 => simp; omega
          intro v' w2 hown' hgrow _
          have hb2 : Below w.heap.size w w2 := (hbel.alloc hbel.size _).grown hgrow (by simp; omega) (fun g hg => (World.ownsRow.lt hown g hg).1)
          clear hgrow hown
          go_wp2
          go_roundg (n - (k + 1))
          case measure => omega
          case rel => exact ⟨k + 1, by omega, by go_num, Nat.le_refl _, by rw [HN.out], ⟨j + 1, by go_num, by omega, hj2⟩, by rw [HTS.out, List.map_take]; exact hown', hb2⟩
      · have hxp' : (x != p) = false := by simpa using hxp
        rw [hxp', if_neg (by decide), List.append_nil] at hsu
        have hj2 : Hid (j = (chg b l (k + 1)).length) := by
          unfold Hid
          rw [hsu]; exact hj.out
        have hnt2 := hnt.2 hxp'
        clear hsu hnt hxp
        by_cases hjN : j < N
        · obtain ⟨ad, hjl, rfl, hbb, hcell⟩ := hrd.cellM hjN
          have hkt := hnt2 T[j] (List.getElem?_eq_getElem hjl)
          unfold natv at hcell
          generalize T[j] = t at *
          have htk : ((t : Int) == (k : Int)) = false := by rw [beq_eq_false_iff_ne]; omega
          clear hnt2 hrd
          cases x <;> cases p <;> first | exact absurd hxp' (by decide) | clear hxp'
          · go_wp2_with (at_builtin; refine wpList_append_own _ rfl _ _ 26 rfl w.heap.size 4 i0 (.bool false) 1 1 Tryz.underlying26 hi0 hz0 hz1 hz2 rfl (by decide) _ _ _ rfl (hown.alloc _) ⟨wr.heap.size, 0, none⟩ 1 1 [.bool false] rfl rfl ?c1 ?c2 ?c3 ?c4 ?c5 ?_)
            case c1 => exact cell_one_new _ _ _
            case c2 => intro u hu; simp at hu; subst hu; rfl
            case c3 => unfold maxLen; omega
            case c4 => omega
            case c5 => simp; omega
            intro v' w2 hown' hgrow _
            have hb2 : Below w.heap.size w w2 := (hbel.alloc hbel.size _).grown hgrow (by simp; omega) (fun g hg => (World.ownsRow.lt hown g hg).1)
            clear hgrow hown
            go_wp2
            go_roundg (n - (k + 1))
            case measure => omega
            case rel => exact ⟨k + 1, by omega, by go_num, Nat.le_refl _, by rw [HN.out], ⟨j, by go_num, by omega, hj2⟩, by rw [HTS.out, List.map_take]; exact hown', hb2⟩
          · go_wp2_with (at_builtin; refine wpList_append_own _ rfl _ _ 26 rfl w.heap.size 4 i0 (.bool false) 1 1 Tryz.underlying26 hi0 hz0 hz1 hz2 rfl (by decide) _ _ _ rfl (hown.alloc _) ⟨wr.heap.size, 0, none⟩ 1 1 [.bool true] rfl rfl ?d1 ?d2 ?d3 ?d4 ?d5 ?_)
            case d1 => exact cell_one_new _ _ _
            case d2 => intro u hu; simp at hu; subst hu; rfl
            case d3 => unfold maxLen; omega
            case d4 => omega
            case d5 => simp; omega
            intro v' w2 hown' hgrow _
            have hb2 : Below w.heap.size w w2 := (hbel.alloc hbel.size _).grown hgrow (by simp; omega) (fun g hg => (World.ownsRow.lt hown g hg).1)
            clear hgrow hown
            go_wp2
            go_roundg (n - (k + 1))
            case measure => omega
            case rel => exact ⟨k + 1, by omega, by go_num, Nat.le_refl _, by rw [HN.out], ⟨j, by go_num, by omega, hj2⟩, by rw [HTS.out, List.map_take]; exact hown', hb2⟩
        · have hd : decide (j < N) = false := by simpa using hjN
          clear hnt2 hrd
          cases x <;> cases p <;> first | exact absurd hxp' (by decide) | clear hxp'
          · go_wp2_with (at_builtin; refine wpList_append_own _ rfl _ _ 26 rfl w.heap.size 4 i0 (.bool false) 1 1 Tryz.underlying26 hi0 hz0 hz1 hz2 rfl (by decide) _ _ _ rfl (hown.alloc _) ⟨wr.heap.size, 0, none⟩ 1 1 [.bool false] rfl rfl ?e1 ?e2 ?e3 ?e4 ?e5 ?_)
            case e1 => exact cell_one_new _ _ _
            case e2 => intro u hu; simp at hu; subst hu; rfl
            case e3 => unfold maxLen; omega
            case e4 => omega
            case e5 => simp; omega
            intro v' w2 hown' hgrow _
            have hb2 : Below w.heap.size w w2 := (hbel.alloc hbel.size _).grown hgrow (by simp; omega) (fun g hg => (World.ownsRow.lt hown g hg).1)
            clear hgrow hown
            go_wp2
            go_roundg (n - (k + 1))
            case measure => omega
            case rel => exact ⟨k + 1, by omega, by go_num, Nat.le_refl _, by rw [HN.out], ⟨j, by go_num, by omega, hj2⟩, by rw [HTS.out, List.map_take]; exact hown', hb2⟩
          · go_wp2_with (at_builtin; refine wpList_append_own _ rfl _ _ 26 rfl w.heap.size 4 i0 (.bool false) 1 1 Tryz.underlying26 hi0 hz0 hz1 hz2 rfl (by decide) _ _ _ rfl (hown.alloc _) ⟨wr.heap.size, 0, none⟩ 1 1 [.bool true] rfl rfl ?f1 ?f2 ?f3 ?f4 ?f5 ?_)
            case f1 => exact cell_one_new _ _ _
            case f2 => intro u hu; simp at hu; subst hu; rfl
            case f3 => unfold maxLen; omega
            case f4 => omega
            case f5 => simp; omega
            intro v' w2 hown' hgrow _
            have hb2 : Below w.heap.size w w2 := (hbel.alloc hbel.size _).grown hgrow (by simp; omega) (fun g hg => (World.ownsRow.lt hown g hg).1)
            clear hgrow hown
            go_wp2
            go_roundg (n - (k + 1))
            case measure => omega
            case rel => exact ⟨k + 1, by omega, by go_num, Nat.le_refl _, by rw [HN.out], ⟨j, by go_num, by omega, hj2⟩, by rw [HTS.out, List.map_take]; exact hown', hb2⟩
    · obtain rfl : k = n := by omega
      rw [List.take_of_length_le (by have := HL.out; omega)] at hown
      go_wp2
      go_ret
      exact ⟨_, rfl, hown, hbel⟩

end Go.Proofs.YtboaojkblmddkaaGreatDoor

/- The reference's Length. -/
namespace Go.Proofs.YtboaojkblmddkaaGreatDoor
open Go.RowKit

theorem rLength_any (a k : Int) (w : World) : Calls Tryz.prog 11 #[.int .i64 a, .int .i64 k] w fun e w' => e = .returned (.bool (decide (a ≤ k ∨ 4096 < a ∧ a ≤ 4098))) ∧ w = w' := by
  by_cases h1 : a ≤ k
  · have d1 : decide (a ≤ k) = true := by simpa using h1
    have hv : decide (a ≤ k ∨ 4096 < a ∧ a ≤ 4098) = true := decide_eq_true (Or.inl h1)
    rw [hv]
    clear hv
    go_enter Tryz.func11, Tryz.ntmps11
    go_wp2
    go_ret
    exact ⟨rfl, rfl⟩
  · have d1 : decide (a ≤ k) = false := by simpa using h1
    by_cases h2 : 4096 < a
    · have d2 : decide (4096 < a) = true := by simpa using h2
      have hv : decide (a ≤ k ∨ 4096 < a ∧ a ≤ 4098) = decide (a ≤ 4098) := by rw [Bool.eq_iff_iff]; simp; omega
      rw [hv]
      clear hv
      go_enter Tryz.func11, Tryz.ntmps11
      go_wp2
      go_ret
      exact ⟨rfl, rfl⟩
    · have d2 : decide (4096 < a) = false := by simpa using h2
      have hv : decide (a ≤ k ∨ 4096 < a ∧ a ≤ 4098) = false := decide_eq_false (by omega)
      rw [hv]
      clear hv
      go_enter Tryz.func11, Tryz.ntmps11
      go_wp2
      go_ret
      exact ⟨rfl, rfl⟩

end Go.Proofs.YtboaojkblmddkaaGreatDoor

/- Lines of a law: own copies of them, the reference's CheckLines. -/
namespace Go.Proofs.YtboaojkblmddkaaGreatDoor
open Go.RowKit Bn

theorem Reads.cellsOver {w : World} {B n : Nat} {a : Addr} {xs : List Value} (h : Reads w B 1 (some a) n xs) : ∀ j u, xs[j]? = some u → w.cell? (a.add j) = some u := by
  intro j u hu
  have hl := h.1
  have hj : j < xs.length := by
    rcases Nat.lt_or_ge j xs.length with h1 | h1
    · exact h1
    · rw [List.getElem?_eq_none h1] at hu; cases hu
  obtain ⟨ad, e, _, hc⟩ := h.2 (by omega)
  injection e with e
  subst e
  exact hc j u hu
theorem info_bls2 : (Tryz.prog.info? 26).map (fun i => (i.zero, i.size, i.bytes)) = some (some (.slice none 0 0), 1, 24) := by kernel_rfl

set_option maxHeartbeats 2000000 in
/-- a copy of a line -/
theorem bools_own (A : Option Addr) (n c : Nat) (l : List Bool) (w : World) (h : Reads w w.heap.size 1 A n (l.map boolv)) (hn : n ≤ 140737488355328 / 8) (hc : A = none → c = 0) :
    Calls Tryz.prog 16 #[.slice A n c] w fun e w' => ∃ v, e = .returned v ∧ w'.ownsRow w.heap.size 4 1 v n (l.map boolv) ∧ Below w.heap.size w w' := by
  have hL := h.lenM
  have hbA : Below w.heap.size w (w.alloc (.cells #[] 4)) := (Below.refl _ _).alloc (Nat.le_refl _) _
  cases A with
  | none =>
    obtain rfl := hc rfl
    have hl : l = [] := by
      cases l with
      | nil => rfl
      | cons x t =>
        obtain ⟨ad9, e9, _⟩ := h.2 (by simp at hL; omega)
        cases e9
    subst hl
    obtain rfl : 0 = n := hL
    have ho := own_empty w w.heap.size 4 (Nat.le_refl _)
    clear h hc
    go_enter Tryz.func16, Tryz.ntmps16
    go_wp2
    go_ret
    exact ⟨_, rfl, ho, hbA⟩
  | some a1 =>
    obtain ⟨i0, hi0, hz0, hz1, hz2⟩ := info_parts info_bool
    have hone : ∀ u ∈ l.map boolv, u.oneCell' = true := boolv_one l
    have HONE := Lib.hid hone
    have HRD := Lib.hid h
    clear h hone hc
    go_enter Tryz.func16, Tryz.ntmps16
    go_wp2_with (at_builtin; refine wpList_append_own _ rfl _ _ 26 rfl w.heap.size 4 i0 (.bool false) 1 1 Tryz.underlying26 hi0 hz0 hz1 hz2 rfl (by decide) _ _ _ rfl (own_empty w w.heap.size 4 (Nat.le_refl _)) a1 n c (l.map boolv) rfl ?c0 ?c1 ?c2 ?c3 ?c4 ?c5 ?_)
    case c0 => rw [List.length_map]; omega
    case c1 => exact (HRD.out.below ((Below.refl _ _).alloc (Nat.le_refl _) _)).cellsOver
    case c2 => exact HONE.out
    case c3 => unfold maxLen; omega
    case c4 => omega
    case c5 => simp
    intro v1 w3 hown1 hgrow1 _
    have hb3 : Below w.heap.size w w3 := hbA.grown hgrow1 (by simp) (fun g hg => by simp [Value.ownBlock] at hg; omega)
    clear hgrow1 hbA
    go_wp2
    go_ret
    exact ⟨v1, rfl, hown1, hb3⟩

set_option maxHeartbeats 4000000 in
set_option maxRecDepth 100000 in
/-- copies of lines -/
theorem copied_ok (A : Option Addr) (n c : Nat) (rows : List (List Bool)) (w : World) (h : RowsR boolv w w.heap.size A n rows) (hn : n ≤ 4098) (hr : ∀ r ∈ rows, r.length ≤ 4098)
    (hz : ∀ (ad : Addr) (k L c2 : Nat), A = some ad → k < n → w.cell? (ad.add k) = some (.slice none L c2) → c2 = 0) :
    Calls Tryz.prog 28 #[.slice A n c] w fun e w' => ∃ v, e = .returned v ∧ Grow boolv 26 4 w' w.heap.size v n rows ∧ Below w.heap.size w w' := by
  obtain ⟨i1, hi1, hy0, hy1, hy2⟩ := info_parts info_bls2
  have HZ := Lib.hid hz
  have HR := Lib.hid hr
  have HL := Lib.hid h.1
  clear hz hr
  go_enter Tryz.func28, Tryz.ntmps28
  go_wp2
  go_loopg [3, 8] n (fun q v s W => ∃ j : Nat, j ≤ n ∧ s = .int .i64 j ∧ n - j ≤ q ∧ Grow boolv 26 4 W w.heap.size v j (rows.take j) ∧ Below w.heap.size w W)
  case atStart => exact ⟨0, Nat.zero_le _, rfl, by omega, Grow.nil, Below.refl _ _⟩
  case round =>
    obtain ⟨j, hj, rfl, hq, hgrow, hbel⟩ := hrel
    by_cases h0 : j < n
    · obtain ⟨ad, hkl, A1, c1, rfl, hbb, hcell0, hlc, hcm, hrd0⟩ := h.row h0
      have hcell := (hbel.cell (by rw [block_of_add]; exact hbb)).trans hcell0
      have hrd := (hrd0.below hbel).more hbel.size
      have hL := HR.out rows[j] (List.getElem_mem hkl)
      obtain ⟨hgl, vs, hown, hin⟩ := hgrow
      have hts : rows.take (j + 1) = rows.take j ++ [rows[j]] := List.take_succ_eq_append_getElem hkl
      have HTS := Lib.hid hts
      have HIN := Lib.hid hin
      have HGL := Lib.hid hgl
      have hz1 : A1 = none → c1 = 0 := fun e => by subst e; exact HZ.out ad j rows[j].length c1 rfl h0 hcell0
      generalize rows[j] = R at *
      have hle := hbel.size
      have HB := Lib.hid (bools_own A1 R.length c1 R wr hrd (by omega) hz1)
      clear hts hin hgl hrd hrd0 hz1 hcell0
      generalize hRL : R.length = RL at *
      have HRLE := Lib.hid hRL
      clear hRL
      go_wp2_with fail
      refine HB.out.mono ?_
      rintro e w3 ⟨v3, rfl, ho3, hb3⟩
      have hown3 := own_belw hown hb3
      obtain ⟨A3, c3, rfl, _, _, _⟩ := own_slice ho3
      clear hown HB
      go_wp2_with (at_builtin; refine wpList_append_own _ rfl _ _ 50 rfl w.heap.size 26 i1 (.slice none 0 0) 1 24 Tryz.underlying50 hi1 hy0 hy1 hy2 rfl (by decide) _ _ _ rfl (hown3.alloc _) ⟨w3.heap.size, 0, none⟩ 1 1 [.slice A3 RL c3] rfl rfl ?d1 ?d2 ?d3 ?d4 ?d5 ?_)
      case d1 => exact cell_one_new _ _ _
      case d2 => intro u hu; simp at hu; subst hu; rfl
      case d3 => unfold maxLen; omega
      case d4 => omega
      case d5 => have := hb3.size; simp; omega
      intro v2 w4 hown2 hgrow2 _
      have hb34 : Below w3.heap.size w3 (w3.alloc (.cells #[.slice A3 RL c3] 26)) := (Below.refl _ _).alloc (Nat.le_refl _) _
      have hG : Grow boolv 26 4 w4 w.heap.size v2 (j + 1) (rows.take (j + 1)) := by
        rw [HTS.out]
        exact Grow.snoc HGL.out (hown3.alloc _) (fun i hi => (HIN.out i hi).imp fun u hu => ⟨hu.1, own_belw (own_belw hu.2 hb3) hb34⟩) (by rw [HRLE.out]; exact own_belw (own_mono ho3 hle) hb34) (by decide) hgrow2 hown2
      have hle3 := Nat.le_trans hle hb3.size
      have hb4 : Below w.heap.size w w4 := ((hbel.trans (hb3.mono hle)).trans (hb34.mono hle3)).grown hgrow2 (by simp; omega) (fun g hg => (World.ownsRow.lt hown3 g hg).1)
      clear hgrow2 hown2 hown3 HIN
      go_wp2
      go_roundg (n - (j + 1))
      case measure => omega
      case rel => exact ⟨j + 1, by omega, by go_num, Nat.le_refl _, hG, hb4⟩
    · obtain rfl : n = j := by omega
      rw [List.take_of_length_le (by have := HL.out; omega)] at hgrow
      go_wp2
      go_ret
      exact ⟨_, rfl, hgrow, hbel⟩

/-- the error of lines -/
def linE (rows : List (List Bool)) : Int :=
  match rows with
  | [] => 12
  | r :: _ => if 16 < rows.length ∨ 4096 < r.length then 5 else if rows.all (fun x => decide (x.length = r.length)) = true then 0 else 2
theorem linE_nil (rows : List (List Bool)) (h : rows.length = 0) : linE rows = 12 := by
  cases rows with
  | nil => rfl
  | cons r t => simp at h
theorem linE_many (rows : List (List Bool)) (h : 0 < rows.length) (hh : 16 < rows.length ∨ 4096 < rows[0].length) : linE rows = 5 := by
  cases rows with
  | nil => simp at h
  | cons r t => exact if_pos hh
theorem linE_shape (rows : List (List Bool)) (h : 0 < rows.length) (h1 : rows.length ≤ 16) (h2 : rows[0].length ≤ 4096) (k : Nat) (hk : k < rows.length) (hne : rows[k].length ≠ rows[0].length) : linE rows = 2 := by
  cases rows with
  | nil => simp at h
  | cons r t =>
    have hr : (r :: t)[0].length = r.length := rfl
    rw [hr] at h2 hne
    have e : (r :: t).all (fun x => decide (x.length = r.length)) ≠ true := fun ha => hne (of_decide_eq_true (List.all_eq_true.1 ha _ (List.getElem_mem hk)))
    exact (if_neg (by omega)).trans (if_neg e)
theorem linE_ok (rows : List (List Bool)) (h : 0 < rows.length) (h1 : rows.length ≤ 16) (h2 : rows[0].length ≤ 4096) (ha : ∀ (k : Nat) (hk : k < rows.length), rows[k].length = rows[0].length) : linE rows = 0 := by
  cases rows with
  | nil => simp at h
  | cons r t =>
    have hr : (r :: t)[0].length = r.length := rfl
    rw [hr] at h2
    have e : (r :: t).all (fun x => decide (x.length = r.length)) = true := by
      refine List.all_eq_true.2 fun x hx => decide_eq_true ?_
      obtain ⟨i, hi, rfl⟩ := List.mem_iff_getElem.1 hx
      exact ha i hi
    exact (if_neg (by omega)).trans (if_pos e)
theorem linE_valid (rows : List (List Bool)) (h : linE rows = 0) : 1 ≤ rows.length ∧ rows.length ≤ 16 ∧ ∃ (h0 : 0 < rows.length), rows[0].length ≤ 4096 ∧ ∀ r ∈ rows, r.length = rows[0].length := by
  cases rows with
  | nil => cases h
  | cons r t =>
    unfold linE at h
    simp only at h
    split at h
    · cases h
    · split at h
      · rename_i h1 h2
        have e : (r :: t)[0].length = r.length := rfl
        exact ⟨by simp, by omega, by simp, by rw [e]; omega, fun x hx => by rw [e]; exact of_decide_eq_true (List.all_eq_true.1 h2 x hx)⟩
      · cases h

set_option maxHeartbeats 2000000 in
set_option maxRecDepth 100000 in
theorem rCheckLines_any (A : Option Addr) (n c : Nat) (rows : List (List Bool)) (w : World) (h : RowsR boolv w w.heap.size A n rows) (hn : n ≤ maxLen) :
    Calls Tryz.prog 31 #[.slice A n c] w fun e w' => e = .returned (.int .i64 (linE rows)) ∧ Below w.heap.size w w' := by
  unfold maxLen at hn
  have hl := h.1
  by_cases hz : n = 0
  · have hv : Hid (linE rows = 12) := linE_nil rows (by omega)
    have hd : ((n : Int) == 0) = true := by rw [beq_iff_eq]; omega
    clear hl hz
    go_enter Tryz.func31, Tryz.ntmps31
    go_wp2
    go_ret
    exact ⟨by rw [hv.out]; rfl, Below.refl _ _⟩
  · have hd0 : ((n : Int) == 0) = false := by rw [beq_eq_false_iff_ne]; omega
    have hn0 : 0 < n := by omega
    have hp0 : (0 : Int) < (n : Int) := by omega
    obtain ⟨ad, hr0, A0, c0, rfl, hb0, hc0, _, _, _⟩ := h.row (k := 0) hn0
    have hzz : Addr.add ad 0 = ad := rfl
    rw [hzz] at hc0
    by_cases h8 : 16 < n
    · have hv : Hid (linE rows = 5) := linE_many rows hr0 (.inl (by omega))
      have hd : decide (16 < n) = true := by simpa using h8
      have hd2 : decide ((16 : Int) < (n : Int)) = true := by simpa using (show (16 : Int) < n from by omega)
      clear hl hz
      go_enter Tryz.func31, Tryz.ntmps31
      go_wp2
      go_ret
      exact ⟨by rw [hv.out]; rfl, Below.refl _ _⟩
    · have hd8 : decide (16 < n) = false := by simpa using h8
      have hd82 : decide ((16 : Int) < (n : Int)) = false := by simpa using (show ¬ ((16 : Int) < n) from by omega)
      by_cases hm : 4096 < rows[0].length
      · have hv : Hid (linE rows = 5) := linE_many rows hr0 (.inr hm)
        generalize rows[0].length = m at *
        have hd : decide (4096 < m) = true := by simpa using hm
        have hd2 : decide ((4096 : Int) < (m : Int)) = true := by simpa using (show (4096 : Int) < m from by omega)
        clear hl hz
        go_enter Tryz.func31, Tryz.ntmps31
        go_wp2
        go_ret
        exact ⟨by rw [hv.out]; rfl, Below.refl _ _⟩
      · have HSH := Lib.hid (fun k hk hne => linE_shape rows hr0 (by omega) (by omega) k hk hne)
        have HOK := Lib.hid (fun ha => linE_ok rows hr0 (by omega) (by omega) ha)
        generalize hmm : rows[0].length = m at *
        have hd : decide (4096 < m) = false := by simpa using hm
        have hd2 : decide ((4096 : Int) < (m : Int)) = false := by simpa using (show ¬ ((4096 : Int) < m) from by omega)
        have HL := Lib.hid hl
        clear hl hz hmm
        go_enter Tryz.func31, Tryz.ntmps31
        go_wp2
        go_loopg [3] n (fun q s W => ∃ k : Nat, k ≤ n ∧ s = .int .i64 k ∧ n - k ≤ q ∧ Hid (∀ (i : Nat) (hi : i < rows.length), i < k → rows[i].length = m) ∧ Below w.heap.size w W)
        case atStart => exact ⟨0, Nat.zero_le _, rfl, by omega, fun i hi h => absurd h (by omega), Below.refl _ _⟩
        case round =>
          obtain ⟨k, hk, rfl, hq, hf, hbel⟩ := hrel
          by_cases h0 : k < n
          · obtain ⟨ad2, hkl, A1, c1, e1, hbb, hcell, hlc, hcm, hrd⟩ := (h.below hbel).row h0
            injection e1 with e1
            subst e1
            have hc02 := (hbel.cell hb0).trans hc0
            have HSK := Lib.hid (fun hne => HSH.out k hkl hne)
            have HNX := Lib.hid (fun (e : rows[k].length = m) => show ∀ (i : Nat) (hi : i < rows.length), i < k + 1 → rows[i].length = m from fun i hi hik => by
              rcases Nat.lt_or_ge i k with h9 | h9
              · exact hf.out i hi h9
              · obtain rfl : i = k := by omega
                exact e)
            clear hrd hf
            generalize rows[k].length = L at *
            by_cases he : L = m
            · subst he
              have hne : ((L : Int) != (L : Int)) = false := by simp
              have HN2 := Lib.hid (HNX.out rfl)
              go_wp2
              go_region
              go_wp2
              go_roundg (n - (k + 1))
              case measure => omega
              case rel => exact ⟨k + 1, by omega, by go_num, Nat.le_refl _, HN2.out, hbel.drew⟩
            · have hne : ((L : Int) != (m : Int)) = true := by rw [bne_iff_ne]; omega
              have HV := Lib.hid (HSK.out he)
              clear he
              go_wp2
              go_region
              go_wp2
              go_ret
              exact ⟨by rw [HV.out]; rfl, hbel.drew⟩
          · have HV := Lib.hid (HOK.out (fun k hk => hf.out k hk (by have := HL.out; omega)))
            go_wp2
            go_ret
            exact ⟨by rw [HV.out]; rfl, hbel⟩

end Go.Proofs.YtboaojkblmddkaaGreatDoor
