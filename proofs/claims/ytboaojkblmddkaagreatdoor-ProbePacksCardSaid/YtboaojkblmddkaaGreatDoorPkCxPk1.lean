/- Lines of a law: own copies of them, the reference's CheckLines. -/
import Derived.Test.YtboaojkblmddkaaGreatDoorCRf3
import Derived.Test.YtboaojkblmddkaaGreatDoorCAwc
import Derived.Deep.LoopGhost
import Derived.Test.YtboaojkblmddkaaGreatDoorCWds
import Derived.RangeFuncBox
import Derived.RangeFuncLeaves
import Derived.Shelf.Abstract
import Derived.OwnWalkIn
import Derived.TacticsInMore
import Derived.LoopNIn
import Derived.LoopIn
import Derived.Maps.AppendAt
namespace Go.Proofs.YtboaojkblmddkaaGreatDoor
open Go.RowKit Bn

theorem Reads.cellsOver {w : World} {B n : Nat} {a : Addr} {xs : List Value} (h : Reads w B 1 (some a) n xs) : ∀ j u, xs[j]? = some u → w.cell? (a.add j) = some u := by
  intro j u hu
  have hl := h.1
  have hj : j < xs.length := by
    rcases Nat.lt_or_ge j xs.length with h1 | h1
    · exact h1
    · rw [List.getElem?_eq_none h1] at hu; cases hu
  obtain ⟨ad, e, _, hc⟩ := h.2 (by omega)
  injection e with e
  subst e
  exact hc j u hu
theorem info_bls2 : (Tryz.prog.info? 26).map (fun i => (i.zero, i.size, i.bytes)) = some (some (.slice none 0 0), 1, 24) := by kernel_rfl

set_option maxHeartbeats 2000000 in
/-- a copy of a line -/
theorem bools_own (A : Option Addr) (n c : Nat) (l : List Bool) (w : World) (h : Reads w w.heap.size 1 A n (l.map boolv)) (hn : n ≤ 140737488355328 / 8) (hc : A = none → c = 0) :
    Calls Tryz.prog 16 #[.slice A n c] w fun e w' => ∃ v, e = .returned v ∧ w'.ownsRow w.heap.size 4 1 v n (l.map boolv) ∧ Below w.heap.size w w' := by
  have hL := h.lenM
  have hbA : Below w.heap.size w (w.alloc (.cells #[] 4)) := (Below.refl _ _).alloc (Nat.le_refl _) _
  cases A with
  | none =>
    obtain rfl := hc rfl
    have hl : l = [] := by
      cases l with
      | nil => rfl
      | cons x t =>
        obtain ⟨ad9, e9, _⟩ := h.2 (by simp at hL; omega)
        cases e9
    subst hl
    obtain rfl : 0 = n := hL
    have ho := own_empty w w.heap.size 4 (Nat.le_refl _)
    clear h hc
    go_enter Tryz.func16, Tryz.ntmps16
    go_wp2
    go_ret
    exact ⟨_, rfl, ho, hbA⟩
  | some a1 =>
    obtain ⟨i0, hi0, hz0, hz1, hz2⟩ := info_parts info_bool
    have hone : ∀ u ∈ l.map boolv, u.oneCell' = true := boolv_one l
    have HONE := Lib.hid hone
    have HRD := Lib.hid h
    clear h hone hc
    go_enter Tryz.func16, Tryz.ntmps16
    go_wp2_with (at_builtin; refine wpList_append_own _ rfl _ _ 26 rfl w.heap.size 4 i0 (.bool false) 1 1 Tryz.underlying26 hi0 hz0 hz1 hz2 rfl (by decide) _ _ _ rfl (own_empty w w.heap.size 4 (Nat.le_refl _)) a1 n c (l.map boolv) rfl ?c0 ?c1 ?c2 ?c3 ?c4 ?c5 ?_)
    case c0 => rw [List.length_map]; omega
    case c1 => exact (HRD.out.below ((Below.refl _ _).alloc (Nat.le_refl _) _)).cellsOver
    case c2 => exact HONE.out
    case c3 => unfold maxLen; omega
    case c4 => omega
    case c5 => simp
    intro v1 w3 hown1 hgrow1 _
    have hb3 : Below w.heap.size w w3 := hbA.grown hgrow1 (by simp) (fun g hg => by simp [Value.ownBlock] at hg; omega)
    clear hgrow1 hbA
    go_wp2
    go_ret
    exact ⟨v1, rfl, hown1, hb3⟩

set_option maxHeartbeats 4000000 in
set_option maxRecDepth 100000 in
/-- copies of lines -/
theorem copied_ok (A : Option Addr) (n c : Nat) (rows : List (List Bool)) (w : World) (h : RowsR boolv w w.heap.size A n rows) (hn : n ≤ 4098) (hr : ∀ r ∈ rows, r.length ≤ 4098)
    (hz : ∀ (ad : Addr) (k L c2 : Nat), A = some ad → k < n → w.cell? (ad.add k) = some (.slice none L c2) → c2 = 0) :
    Calls Tryz.prog 28 #[.slice A n c] w fun e w' => ∃ v, e = .returned v ∧ Grow boolv 26 4 w' w.heap.size v n rows ∧ Below w.heap.size w w' := by
  obtain ⟨i1, hi1, hy0, hy1, hy2⟩ := info_parts info_bls2
  have HZ := Lib.hid hz
  have HR := Lib.hid hr
  have HL := Lib.hid h.1
  clear hz hr
  go_enter Tryz.func28, Tryz.ntmps28
  go_wp2
  go_loopg [3, 8] n (fun q v s W => ∃ j : Nat, j ≤ n ∧ s = .int .i64 j ∧ n - j ≤ q ∧ Grow boolv 26 4 W w.heap.size v j (rows.take j) ∧ Below w.heap.size w W)
  case atStart => exact ⟨0, Nat.zero_le _, rfl, by omega, Grow.nil, Below.refl _ _⟩
  case round =>
    obtain ⟨j, hj, rfl, hq, hgrow, hbel⟩ := hrel
    by_cases h0 : j < n
    · obtain ⟨ad, hkl, A1, c1, rfl, hbb, hcell0, hlc, hcm, hrd0⟩ := h.row h0
      have hcell := (hbel.cell (by rw [block_of_add]; exact hbb)).trans hcell0
      have hrd := (hrd0.below hbel).more hbel.size
      have hL := HR.out rows[j] (List.getElem_mem hkl)
      obtain ⟨hgl, vs, hown, hin⟩ := hgrow
      have hts : rows.take (j + 1) = rows.take j ++ [rows[j]] := List.take_succ_eq_append_getElem hkl
      have HTS := Lib.hid hts
      have HIN := Lib.hid hin
      have HGL := Lib.hid hgl
      have hz1 : A1 = none → c1 = 0 := fun e => by subst e; exact HZ.out ad j rows[j].length c1 rfl h0 hcell0
      generalize rows[j] = R at *
      have hle := hbel.size
      have HB := Lib.hid (bools_own A1 R.length c1 R wr hrd (by omega) hz1)
      clear hts hin hgl hrd hrd0 hz1 hcell0
      generalize hRL : R.length = RL at *
      have HRLE := Lib.hid hRL
      clear hRL
      go_wp2_with fail
      refine HB.out.mono ?_
      rintro e w3 ⟨v3, rfl, ho3, hb3⟩
      have hown3 := own_belw hown hb3
      obtain ⟨A3, c3, rfl, _, _, _⟩ := own_slice ho3
      clear hown HB
      go_wp2_with (at_builtin; refine wpList_append_own _ rfl _ _ 50 rfl w.heap.size 26 i1 (.slice none 0 0) 1 24 Tryz.underlying50 hi1 hy0 hy1 hy2 rfl (by decide) _ _ _ rfl (hown3.alloc _) ⟨w3.heap.size, 0, none⟩ 1 1 [.slice A3 RL c3] rfl rfl ?d1 ?d2 ?d3 ?d4 ?d5 ?_)
      case d1 => exact cell_one_new _ _ _
      case d2 => intro u hu; simp at hu; subst hu; rfl
      case d3 => unfold maxLen; omega
      case d4 => omega
      case d5 => have := hb3.size; simp; omega
      intro v2 w4 hown2 hgrow2 _
      have hb34 : Below w3.heap.size w3 (w3.alloc (.cells #[.slice A3 RL c3] 26)) := (Below.refl _ _).alloc (Nat.le_refl _) _
      have hG : Grow boolv 26 4 w4 w.heap.size v2 (j + 1) (rows.take (j + 1)) := by
        rw [HTS.out]
        exact Grow.snoc HGL.out (hown3.alloc _) (fun i hi => (HIN.out i hi).imp fun u hu => ⟨hu.1, own_belw (own_belw hu.2 hb3) hb34⟩) (by rw [HRLE.out]; exact own_belw (own_mono ho3 hle) hb34) (by decide) hgrow2 hown2
      have hle3 := Nat.le_trans hle hb3.size
      have hb4 : Below w.heap.size w w4 := ((hbel.trans (hb3.mono hle)).trans (hb34.mono hle3)).grown hgrow2 (by simp; omega) (fun g hg => (World.ownsRow.lt hown3 g hg).1)
      clear hgrow2 hown2 hown3 HIN
      go_wp2
      go_roundg (n - (j + 1))
      case measure => omega
      case rel => exact ⟨j + 1, by omega, by go_num, Nat.le_refl _, hG, hb4⟩
    · obtain rfl : n = j := by omega
      rw [List.take_of_length_le (by have := HL.out; omega)] at hgrow
      go_wp2
      go_ret
      exact ⟨_, rfl, hgrow, hbel⟩

/-- the error of lines -/
def linE (rows : List (List Bool)) : Int :=
  match rows with
  | [] => 12
  | r :: _ => if 16 < rows.length ∨ 4096 < r.length then 5 else if rows.all (fun x => decide (x.length = r.length)) = true then 0 else 2
theorem linE_nil (rows : List (List Bool)) (h : rows.length = 0) : linE rows = 12 := by
  cases rows with
  | nil => rfl
  | cons r t => simp at h
theorem linE_many (rows : List (List Bool)) (h : 0 < rows.length) (hh : 16 < rows.length ∨ 4096 < rows[0].length) : linE rows = 5 := by
  cases rows with
  | nil => simp at h
  | cons r t => exact if_pos hh
theorem linE_shape (rows : List (List Bool)) (h : 0 < rows.length) (h1 : rows.length ≤ 16) (h2 : rows[0].length ≤ 4096) (k : Nat) (hk : k < rows.length) (hne : rows[k].length ≠ rows[0].length) : linE rows = 2 := by
  cases rows with
  | nil => simp at h
  | cons r t =>
    have hr : (r :: t)[0].length = r.length := rfl
    rw [hr] at h2 hne
    have e : (r :: t).all (fun x => decide (x.length = r.length)) ≠ true := fun ha => hne (of_decide_eq_true (List.all_eq_true.1 ha _ (List.getElem_mem hk)))
    exact (if_neg (by omega)).trans (if_neg e)
theorem linE_ok (rows : List (List Bool)) (h : 0 < rows.length) (h1 : rows.length ≤ 16) (h2 : rows[0].length ≤ 4096) (ha : ∀ (k : Nat) (hk : k < rows.length), rows[k].length = rows[0].length) : linE rows = 0 := by
  cases rows with
  | nil => simp at h
  | cons r t =>
    have hr : (r :: t)[0].length = r.length := rfl
    rw [hr] at h2
    have e : (r :: t).all (fun x => decide (x.length = r.length)) = true := by
      refine List.all_eq_true.2 fun x hx => decide_eq_true ?_
      obtain ⟨i, hi, rfl⟩ := List.mem_iff_getElem.1 hx
      exact ha i hi
    exact (if_neg (by omega)).trans (if_pos e)
theorem linE_valid (rows : List (List Bool)) (h : linE rows = 0) : 1 ≤ rows.length ∧ rows.length ≤ 16 ∧ ∃ (h0 : 0 < rows.length), rows[0].length ≤ 4096 ∧ ∀ r ∈ rows, r.length = rows[0].length := by
  cases rows with
  | nil => cases h
  | cons r t =>
    unfold linE at h
    simp only at h
    split at h
    · cases h
    · split at h
      · rename_i h1 h2
        have e : (r :: t)[0].length = r.length := rfl
        exact ⟨by simp, by omega, by simp, by rw [e]; omega, fun x hx => by rw [e]; exact of_decide_eq_true (List.all_eq_true.1 h2 x hx)⟩
      · cases h

set_option maxHeartbeats 2000000 in
set_option maxRecDepth 100000 in
theorem rCheckLines_any (A : Option Addr) (n c : Nat) (rows : List (List Bool)) (w : World) (h : RowsR boolv w w.heap.size A n rows) (hn : n ≤ maxLen) :
    Calls Tryz.prog 31 #[.slice A n c] w fun e w' => e = .returned (.int .i64 (linE rows)) ∧ Below w.heap.size w w' := by
  unfold maxLen at hn
  have hl := h.1
  by_cases hz : n = 0
  · have hv : Hid (linE rows = 12) := linE_nil rows (by omega)
    have hd : ((n : Int) == 0) = true := by rw [beq_iff_eq]; omega
    clear hl hz
    go_enter Tryz.func31, Tryz.ntmps31
    go_wp2
    go_ret
    exact ⟨by rw [hv.out]; rfl, Below.refl _ _⟩
  · have hd0 : ((n : Int) == 0) = false := by rw [beq_eq_false_iff_ne]; omega
    have hn0 : 0 < n := by omega
    have hp0 : (0 : Int) < (n : Int) := by omega
    obtain ⟨ad, hr0, A0, c0, rfl, hb0, hc0, _, _, _⟩ := h.row (k := 0) hn0
    have hzz : Addr.add ad 0 = ad := rfl
    rw [hzz] at hc0
    by_cases h8 : 16 < n
    · have hv : Hid (linE rows = 5) := linE_many rows hr0 (.inl (by omega))
      have hd : decide (16 < n) = true := by simpa using h8
      have hd2 : decide ((16 : Int) < (n : Int)) = true := by simpa using (show (16 : Int) < n from by omega)
      clear hl hz
      go_enter Tryz.func31, Tryz.ntmps31
      go_wp2
      go_ret
      exact ⟨by rw [hv.out]; rfl, Below.refl _ _⟩
    · have hd8 : decide (16 < n) = false := by simpa using h8
      have hd82 : decide ((16 : Int) < (n : Int)) = false := by simpa using (show ¬ ((16 : Int) < n) from by omega)
      by_cases hm : 4096 < rows[0].length
      · have hv : Hid (linE rows = 5) := linE_many rows hr0 (.inr hm)
        generalize rows[0].length = m at *
        have hd : decide (4096 < m) = true := by simpa using hm
        have hd2 : decide ((4096 : Int) < (m : Int)) = true := by simpa using (show (4096 : Int) < m from by omega)
        clear hl hz
        go_enter Tryz.func31, Tryz.ntmps31
        go_wp2
        go_ret
        exact ⟨by rw [hv.out]; rfl, Below.refl _ _⟩
      · have HSH := Lib.hid (fun k hk hne => linE_shape rows hr0 (by omega) (by omega) k hk hne)
        have HOK := Lib.hid (fun ha => linE_ok rows hr0 (by omega) (by omega) ha)
        generalize hmm : rows[0].length = m at *
        have hd : decide (4096 < m) = false := by simpa using hm
        have hd2 : decide ((4096 : Int) < (m : Int)) = false := by simpa using (show ¬ ((4096 : Int) < m) from by omega)
        have HL := Lib.hid hl
        clear hl hz hmm
        go_enter Tryz.func31, Tryz.ntmps31
        go_wp2
        go_loopg [3] n (fun q s W => ∃ k : Nat, k ≤ n ∧ s = .int .i64 k ∧ n - k ≤ q ∧ Hid (∀ (i : Nat) (hi : i < rows.length), i < k → rows[i].length = m) ∧ Below w.heap.size w W)
        case atStart => exact ⟨0, Nat.zero_le _, rfl, by omega, fun i hi h => absurd h (by omega), Below.refl _ _⟩
        case round =>
          obtain ⟨k, hk, rfl, hq, hf, hbel⟩ := hrel
          by_cases h0 : k < n
          · obtain ⟨ad2, hkl, A1, c1, e1, hbb, hcell, hlc, hcm, hrd⟩ := (h.below hbel).row h0
            injection e1 with e1
            subst e1
            have hc02 := (hbel.cell hb0).trans hc0
            have HSK := Lib.hid (fun hne => HSH.out k hkl hne)
            have HNX := Lib.hid (fun (e : rows[k].length = m) => show ∀ (i : Nat) (hi : i < rows.length), i < k + 1 → rows[i].length = m from fun i hi hik => by
              rcases Nat.lt_or_ge i k with h9 | h9
              · exact hf.out i hi h9
              · obtain rfl : i = k := by omega
                exact e)
            clear hrd hf
            generalize rows[k].length = L at *
            by_cases he : L = m
            · subst he
              have hne : ((L : Int) != (L : Int)) = false := by simp
              have HN2 := Lib.hid (HNX.out rfl)
              go_wp2
              go_region
              go_wp2
              go_roundg (n - (k + 1))
              case measure => omega
              case rel => exact ⟨k + 1, by omega, by go_num, Nat.le_refl _, HN2.out, hbel.drew⟩
            · have hne : ((L : Int) != (m : Int)) = true := by rw [bne_iff_ne]; omega
              have HV := Lib.hid (HSK.out he)
              clear he
              go_wp2
              go_region
              go_wp2
              go_ret
              exact ⟨by rw [HV.out]; rfl, hbel.drew⟩
          · have HV := Lib.hid (HOK.out (fun k hk => hf.out k hk (by have := HL.out; omega)))
            go_wp2
            go_ret
            exact ⟨by rw [HV.out]; rfl, hbel⟩

end Go.Proofs.YtboaojkblmddkaaGreatDoor

/- Contracts of probe's valuesOf and Line: a range over a function. -/
namespace Go.Proofs.YtboaojkblmddkaaGreatDoor
open Go.RowKit Go.Shelf

attribute [local go_sem] Oper.semAt_some

/-- the line b of words -/
def bitL (ws : List Nat) (b : Nat) : List Bool := ws.map fun x => x / 2 ^ b % 2 == 1

theorem bit_val (x b : Nat) (hx : x < 65536) : (bits BinOp.and IntKind.u16 ((x : Int) / 2 ^ b) 1 == 1) = (x / 2 ^ b % 2 == 1) := by
  have h1 : (x : Int) / 2 ^ b = ((x / 2 ^ b : Nat) : Int) := by rw [Int.natCast_ediv, Int.natCast_pow]; rfl
  have h2 : x / 2 ^ b ≤ x := Nat.div_le_self _ _
  have h3 := u16_and_nat (x / 2 ^ b) 1 (by omega) (by omega)
  rw [h1]
  have e1 : ((1 : Nat) : Int) = 1 := rfl
  rw [e1] at h3
  rw [h3, Nat.and_one_is_mod]
  rw [Bool.eq_iff_iff, beq_iff_eq, beq_iff_eq]
  omega

/-- below B nothing has turned, nor has block g -/
def KpL (B g : Nat) (W W' : World) : Prop := Below B W W' ∧ (g < W.heap.size → W'.heap[g]? = W.heap[g]?)
theorem KpL.trans_ {B g : Nat} {X Y Z : World} (h : KpL B g X Y) (k : KpL B g Y Z) : KpL B g X Z :=
  ⟨h.1.trans k.1, fun hg => (k.2 (Nat.lt_of_lt_of_le hg h.1.size)).trans (h.2 hg)⟩
theorem KpL.put {B g : Nat} {w : World} (hB : B ≤ w.heap.size) (hg : g < w.heap.size) (W : World) (l : Nat) (o o' : Obj) (hl : w.heap.size ≤ l) (h : W.heap[l]? = some o) (h1 : o.isCells = false) (h2 : o.isWalk = false) : KpL B g W (W.putObj l o') :=
  ⟨belowK_b hB W l o o' hl h h1 h2, fun _ => World.putObj_heap_other (by omega)⟩

set_option maxRecDepth 100000 in
set_option maxHeartbeats 2000000 in
theorem vals1_in (F : Fence) (n : Nat) (hf : F.fn 109) (hro : F.round = none) (hn : 1 ≤ n) (l Bw Bl B0 : Nat) (A : Option Addr) (N c b : Nat) (ws : List Nat) (hb : b < 16) (hN : N ≤ 4096) (hws : ∀ x ∈ ws, x < 65536) (J Jx : List Bool → World → Prop)
    (hY : ∀ pre x W, J pre W → pre.length < N → YieldAt F (n - 1) Tryz.prog l #[.bool x] W fun e W' =>
      (e = .returned (.bool true) ∧ J (pre ++ [x]) W' ∧ KpL B0 Bl W W') ∨ (e = .returned (.bool false) ∧ Jx (pre ++ [x]) W'))
    (W : World) (hBw : W.cell? ⟨Bw, 0, none⟩ = some (.slice A N c)) (hBl : CBlk W Bl #[.int .i64 b] 3) (hr : Reads W B0 1 A N (ws.map u16v)) (h0 : J [] W) :
    CallsIn F n Tryz.prog 109 #[.func (.yield l) #[] #[], .pointer (some ⟨Bw, 0, none⟩), .pointer (some ⟨Bl, 0, none⟩)] W fun e W' => (∃ v, e = .returned v) ∧
      ((∃ ys, ys = bitL ws b ∧ J ys W') ∨ (∃ pre, pre <+: bitL ws b ∧ Jx pre W')) := by
  refine callsIn_of_wp Tryz.func109 rfl hf ?_ hro
  simp only [Tryz.ntmps109, List.size_toArray, List.length_cons, List.length_nil, Nat.reduceAdd, Nat.reduceSub, Array.replicate_succ, Array.replicate_zero, List.push_toArray, List.append_toArray, List.nil_append, List.cons_append]
  have hwl := hr.lenM
  have HWL := Lib.hid hwl
  clear hwl
  gi_wp2
  gi_loopw [8] (fun i wr => ∃ k : Nat, k ≤ N ∧ i = .int .i64 k ∧ J ((bitL ws b).take k) wr ∧ Below B0 W wr ∧ CBlk wr Bl #[.int .i64 b] 3) (fun i _ => N - (intOf i).toNat)
  case atStart => exact ⟨0, Nat.zero_le _, rfl, by simpa using h0, Below.refl _ _, hBl⟩
  case round =>
    obtain ⟨k, hk, rfl, hJs, hnx, hbl⟩ := hrel
    by_cases hlt : k < N
    · obtain ⟨ad, hkl, rfl, hbb, hcell⟩ := (hr.below hnx).cellM hlt
      have hcl := hbl.cell 0
      have hkb : k < (bitL ws b).length := by unfold bitL; rw [List.length_map]; exact hkl
      obtain ⟨fn, tmps, assign, body, hy, hR⟩ := hY _ (bitL ws b)[k] wr hJs (by rw [List.length_take]; omega)
      have hts : (bitL ws b).take (k + 1) = (bitL ws b).take k ++ [(bitL ws b)[k]] := List.take_succ_eq_append_getElem hkb
      have hval : (bits BinOp.and IntKind.u16 ((ws[k] : Int) / 2 ^ b) 1 == 1) = (bitL ws b)[k] := by
        rw [bit_val _ _ (hws _ (List.getElem_mem hkl))]
        simp [bitL]
      unfold u16v at hcell
      generalize (bitL ws b)[k] = y at *
      generalize ws[k] = x at *
      have HTS := Lib.hid hts
      clear hts hws
      gi_wp2
      refine hR.mono ?_
      rintro e W3 (⟨rfl, hJ3, hk3⟩ | ⟨rfl, hJx3⟩)
      · have hbl3 : CBlk W3 Bl #[.int .i64 b] 3 := (hk3.2 hbl.lt).trans hbl
        gi_wp2
        go_roundw
        case rel => exact ⟨k + 1, by omega, by simp, by rw [HTS.out]; exact hJ3, hnx.trans hk3.1, hbl3⟩
        case measure => simp [intOf]; omega
      · gi_wp2
        refine bodyPost_ret (results_none rfl _ _ _) rfl ?_
        exact ⟨⟨_, rfl⟩, .inr ⟨(bitL ws b).take (k + 1), List.take_prefix _ _, by rw [HTS.out]; exact hJx3⟩⟩
    · obtain rfl : k = N := by omega
      rw [List.take_of_length_le (by unfold bitL; rw [List.length_map, HWL.out]; exact Nat.le_refl _)] at hJs
      gi_wp2
      go_end0
      exact ⟨⟨_, rfl⟩, .inl ⟨_, rfl, hJs⟩⟩

theorem valuesOf_any (A : Option Addr) (N c b : Nat) (w : World) : Calls Tryz.prog 68 #[.slice A N c, .int .i64 b] w fun e w' =>
    e = .returned (.func (.func 109) #[] #[.pointer (some ⟨w.heap.size, 0, none⟩), .pointer (some ⟨w.heap.size + 1, 0, none⟩)]) ∧ (w.alloc (.cells #[.slice A N c] 51)).alloc (.cells #[.int .i64 b] 3) = w' := by
  have hmf : ∀ (fn : Fn) (first cap : Array Value) (w : World), (Instr.makeFunc fn first cap).run Tryz.prog w = .ok (.func fn first cap) w := fun _ _ _ _ => rfl
  go_enter Tryz.func68, Tryz.ntmps68
  go_wp2
  go_ret
  exact ⟨rfl, rfl⟩

theorem vals_stops (n : Nat) (hn : 1 ≤ n) (Bw Bl B0 : Nat) (A : Option Addr) (N c b : Nat) (ws : List Nat) (hb : b < 16) (hN : N ≤ 4096) (hws : ∀ x ∈ ws, x < 65536) (w : World) (hBw0 : Bw < w.heap.size) (hB0 : B0 ≤ w.heap.size)
    (hBw : w.cell? ⟨Bw, 0, none⟩ = some (.slice A N c)) (hBl : CBlk w Bl #[.int .i64 b] 3) (hr : Reads w B0 1 A N (ws.map u16v)) :
    SeqStopsK Fence.wide n Tryz.prog 109 #[.pointer (some ⟨Bw, 0, none⟩), .pointer (some ⟨Bl, 0, none⟩)] (fun x : Bool => #[Value.bool x]) (KpL B0 Bl) (fun ys => ys = bitL ws b) (fun pre => pre <+: bitL ws b) N w := fun l J Jx W hW _ _ hY h0 =>
  vals1_in Fence.wide n trivial rfl hn l Bw Bl B0 A N c b ws hb hN hws J Jx hY W ((hW.cell (p := ⟨Bw, 0, none⟩) hBw0).trans hBw) (hBl.below hW hBl.lt) (hr.below (hW.mono hB0)) h0

end Go.Proofs.YtboaojkblmddkaaGreatDoor

/- Contract of probe's Line. -/
namespace Go.Proofs.YtboaojkblmddkaaGreatDoor
open Go.RowKit Go.Shelf

attribute [local go_sem] Oper.semAt_some

set_option maxRecDepth 100000 in
set_option maxHeartbeats 2000000 in
theorem line_in (A : Option Addr) (N c b : Nat) (ws : List Nat) (w : World) (h : Reads w w.heap.size 1 A N (ws.map u16v)) (hws : ∀ x ∈ ws, x < 65536) (hN : N ≤ 4096) (hb : b < 16) :
    CallsIn Fence.wide 5 Tryz.prog 29 #[.slice A N c, .int .i64 b] w fun e W' => ∃ v, e = .returned (.tuple #[v, .int .i64 0]) ∧ W'.ownsRow w.heap.size 4 1 v N ((bitL ws b).map boolv) ∧ Below w.heap.size w W' := by
  have h1 : 1 ≤ 5 := by omega
  obtain ⟨i0, hi, hz0, hz1, hz2⟩ := info_parts info_bool
  have e1 : (if (4096 : Int) < (N : Int) then (5 : Int) else 0) = 0 := if_neg (by omega)
  have H1 := catMost_u16 A N c 4096 w
  rw [e1] at H1
  have hr : rangeE (b : Int) 0 15 = 0 := by unfold rangeE; rw [if_neg (by omega)]
  have H2 := cinRange_any (b : Int) 0 15 w
  rw [hr] at H2
  have K1 := Lib.hid H1
  have K2 := Lib.hid H2
  clear H1 H2 e1 hr
  refine callsIn_of_wp_marks Tryz.func29 rfl trivial ?_ rfl
  simp only [Tryz.ntmps29, List.size_toArray, List.length_cons, List.length_nil, Nat.reduceAdd, Nat.reduceSub, Array.replicate_succ, Array.replicate_zero, List.push_toArray, List.append_toArray, List.nil_append, List.cons_append]
  gi_wp2_with fail
  refine ⟨trivial, (callsIn_wide.2 K1.out).mono ?_⟩
  rintro e w1 ⟨rfl, rfl⟩
  gi_wp2_with fail
  refine ⟨trivial, (callsIn_wide.2 K2.out).mono ?_⟩
  rintro e w1 ⟨rfl, rfl⟩
  gi_wp2_with fail
  refine ⟨trivial, (callsIn_wide.2 (cfirst_two 0 0 w 29 w.heap.size rfl)).mono ?_⟩
  rintro e w1 ⟨rfl, rfl⟩
  have hb1 : Below w.heap.size w (w.alloc (.cells #[.int .i64 0, .int .i64 0] 29)) := (Below.refl _ _).alloc (Nat.le_refl _) _
  generalize w.alloc (.cells #[.int .i64 0, .int .i64 0] 29) = w1 at *
  have hle := hb1.size
  gi_wp2_with (gi_at_make; refine wpListIn_make_own _ rfl _ _ 26 rfl w.heap.size 4 i0 (.bool false) 1 Tryz.underlying26 hi hz0 hz1 _ _ _ N rfl rfl rfl ?b2 ?b3 hle ?_)
  case b2 => rw [hz2]; omega
  case b3 => unfold maxLen; omega
  intro w2 hown0 hgrow0
  have hB2 : Below w.heap.size w w2 := hb1.trans ((gnone hgrow0 (Nat.le_refl _)).mono hb1.size)
  generalize w1.heap.size = G at *
  gi_wp2_with fail
  refine ⟨trivial, (callsIn_wide.2 (valuesOf_any A N c b _)).mono ?_⟩
  rintro e w3 ⟨rfl, rfl⟩
  gi_wp2_with fail
  have hG2 := hgrow0.size
  have bV := Boxed.new w2 26 (.slice (some ⟨G, 0, none⟩) 0 N)
  have bW := Boxed.new (w2.alloc (.cells #[.slice (some ⟨G, 0, none⟩) 0 N] 26)) 51 (.slice A N c)
  have bL := Boxed.new ((w2.alloc (.cells #[.slice (some ⟨G, 0, none⟩) 0 N] 26)).alloc (.cells #[.slice A N c] 51)) 3 (.int .i64 b)
  have hW0 : Below w2.heap.size w2 (((w2.alloc (.cells #[.slice (some ⟨G, 0, none⟩) 0 N] 26)).alloc (.cells #[.slice A N c] 51)).alloc (.cells #[.int .i64 b] 3)) := (((Below.refl _ _).alloc (Nat.le_refl _) _).alloc (by simp) _).alloc (by simp; omega) _
  have bV0 := (bV.alloc (.cells #[.slice A N c] 51)).alloc (.cells #[.int .i64 b] 3)
  have bW0 := bW.alloc (.cells #[.int .i64 b] 3)
  have hown1 := ((hown0.alloc (.cells #[.slice (some ⟨G, 0, none⟩) 0 N] 26)).alloc (.cells #[.slice A N c] 51)).alloc (.cells #[.int .i64 b] 3)
  simp only [World.size_alloc] at bW0 bL
  have hszW : (((w2.alloc (.cells #[.slice (some ⟨G, 0, none⟩) 0 N] 26)).alloc (.cells #[.slice A N c] 51)).alloc (.cells #[.int .i64 b] 3)).heap.size = w2.heap.size + 3 := by simp
  have hBW : Below w.heap.size w (((w2.alloc (.cells #[.slice (some ⟨G, 0, none⟩) 0 N] 26)).alloc (.cells #[.slice A N c] 51)).alloc (.cells #[.int .i64 b] 3)) := hB2.trans (hW0.mono hB2.size)
  have hsz2 := hB2.size
  clear bV bW hW0 hown0 hgrow0
  generalize (((w2.alloc (.cells #[.slice (some ⟨G, 0, none⟩) 0 N] 26)).alloc (.cells #[.slice A N c] 51)).alloc (.cells #[.int .i64 b] 3)) = W0 at *
  generalize w2.heap.size = V at *
  refine wpIn_rangeFunc_ownG rfl h1 (gf := 109) (lb := #[.pointer (some ⟨V + 1, 0, none⟩), .pointer (some ⟨V + 1 + 1, 0, none⟩)]) rfl trivial (enters_of Tryz.func109 (by kernel_rfl) rfl)
    (vals_stops (5 - 1) (by omega) (V + 1) (V + 1 + 1) w.heap.size A N c b ws hb hN hws W0 (by omega) hBW.size bW0.cell bL (h.below hBW)) KpL.trans_ (KpL.put hBW.size (by omega)) (Below.refl _ _) (fun _ => rfl)
    (fun (pre : List Bool) W => (∃ v, Boxed W V 26 v ∧ W.ownsRow w.heap.size 4 1 v pre.length (pre.map boolv) ∧ True) ∧ (Below w.heap.size w W ∧ Boxed W (V + 1 + 1) 3 (.int .i64 b)))
    (fun _ _ _ => False)
    (OwnFrom.and (Own.from (holdsRow_own w.heap.size V 26 4 1 (fun pre : List Bool => pre.length) (fun pre : List Bool => pre.map boolv) (fun _ _ => True)) _) (OwnFrom.and (ownFrom_below (Nat.le_refl _) hBW.size) (fun s X Y row hs hg hr => hs.kept hg (fun e' => by
      obtain ⟨_, o, ho, hc⟩ := hr _ e'.symm
      rw [show X.heap[V + 1 + 1]? = _ from hs] at ho; cases ho; cases hc))))
    (fun _ _ _ _ _ hs _ _ => hs)
    ⟨⟨_, bV0, hown1, trivial⟩, hBW, bL⟩
    (fun x => { tmps := #[.slice A N c, .int .i64 b, undef, undef, .slice none 0 0, .int .i64 0, .int .i64 0, .pointer (some ⟨V, 0, none⟩), .bool x, .slice A N c, .int .i64 0, .int .i64 b, .int .i64 0, .slice (some ⟨w.heap.size, 0, none⟩) 2 2, .int .i64 0, .int .i64 0, .bool false, undef, .slice A N c, .int .i64 N, .slice (some ⟨G, 0, none⟩) 0 N, .slice A N c, .int .i64 b, .func (.func 109) #[] #[.pointer (some ⟨V + 1, 0, none⟩), .pointer (some ⟨V + 1 + 1, 0, none⟩)], .bool x, undef, undef, undef, undef, undef], defers := [] }) ?assign ?body ?done ?stop
  case assign =>
    intro l x W K hK
    gi_wp2
    exact hK
  case body =>
    rintro l pre x W ⟨⟨v, hv, hrow, _⟩, hB, hbl⟩ hlt
    have hc := hv.cell
    gi_wp2_with (gi_at_builtin; refine wpListIn_append_own _ rfl _ _ 26 rfl w.heap.size 4 i0 (.bool false) 1 1 Tryz.underlying26 hi hz0 hz1 hz2 rfl (by decide) _ _ _ rfl (hrow.alloc _) ⟨W.heap.size, 0, none⟩ 1 1 [.bool x] rfl rfl (cell_one_new _ _ _) (by simp [Value.oneCell']) (by unfold maxLen; omega) (by omega) (by have := hB.size; simp; omega) ?_; intro v' w1 hown' hgrow _; obtain ⟨g', cap', rfl⟩ := ownsRow_succ hown'; obtain ⟨hv1, hv2, hr2, hk2, hb2⟩ := hv.appended (by decide) hrow hB.size hsz2 hown' hgrow; have hbl1 := (hbl.alloc (.cells #[.bool x] 4)).kept hgrow (hbl.not_row (by decide) hrow); have hc1 := hv1.cell; have hf1 := hv1.frozen)
    have hbl2 := hbl1.kept (grownBy_setCell' w1 V (.slice (some ⟨g', 0, none⟩) (pre.length + 1) cap')) (by intro e; injection e with e; omega)
    exact ⟨hk2.from _, ⟨hb2, fun _ => hbl2.trans hbl.symm⟩, ⟨_, hv2, by simpa [boolv] using hr2, trivial⟩, hB.trans hb2, hbl2⟩
  case done =>
    rintro D ys W hD rfl ⟨⟨v, hv, hrow, _⟩, hB, hbl⟩ hK
    have hc := hv.cell
    have hlN : (bitL ws b).length = N := by unfold bitL; rw [List.length_map]; exact h.lenM
    rw [hlN] at hrow
    clear hlN
    gi_wp2
    refine ⟨by simp, .inl ⟨_, _, rfl, run_takeDeferred hK, ?_⟩⟩
    exact ⟨_, results_tmp2 rfl _ _ _, v, rfl, ownsRow_putObj hrow _ hK rfl, hB.trans (belowK_b (w := W0) hBW.size W D _ _ hD hK rfl rfl)⟩
  case stop =>
    rintro D c pre W _ _ h _
    exact h.elim

theorem line_ok (A : Option Addr) (N c b : Nat) (ws : List Nat) (w : World) (h : Reads w w.heap.size 1 A N (ws.map u16v)) (hws : ∀ x ∈ ws, x < 65536) (hN : N ≤ 4096) (hb : b < 16) :
    Calls Tryz.prog 29 #[.slice A N c, .int .i64 b] w fun e W' => ∃ v, e = .returned (.tuple #[v, .int .i64 0]) ∧ W'.ownsRow w.heap.size 4 1 v N ((bitL ws b).map boolv) ∧ Below w.heap.size w W' :=
  callsIn_wide.1 (line_in A N c b ws w h hws hN hb)

end Go.Proofs.YtboaojkblmddkaaGreatDoor
