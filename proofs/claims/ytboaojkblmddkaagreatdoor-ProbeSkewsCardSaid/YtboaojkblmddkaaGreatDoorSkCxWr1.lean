/- probe's checkLines, Words and Line of any arguments. -/
import Derived.Test.YtboaojkblmddkaaGreatDoorSkCxPk1
import Derived.Test.YtboaojkblmddkaaGreatDoorSkCxOpn
import Derived.Test.YtboaojkblmddkaaGreatDoorCUnp
import Derived.Deep.MidRow
import Derived.ChangeKeysEq
import Derived.Laws.StructEq
import Derived.Laws.ResultCell
import Derived.BigQuiet
import Derived.Deep.LoopGhost
import Derived.Test.YtboaojkblmddkaaGreatDoorCAwb
namespace Go.Proofs.YtboaojkblmddkaaGreatDoor
open Go.RowKit Bn

set_option maxHeartbeats 2000000 in
set_option maxRecDepth 100000 in
theorem checkLines_any (A : Option Addr) (n c : Nat) (rows : List (List Bool)) (w : World) (h : RowsR boolv w w.heap.size A n rows) (hn : n ≤ maxLen) :
    Calls Tryz.prog 66 #[.slice A n c] w fun e w' => e = .returned (.int .i64 (linE rows)) ∧ Below w.heap.size w w' := by
  unfold maxLen at hn
  have hl := h.1
  by_cases hz : n = 0
  · have hv : Hid (linE rows = 12) := linE_nil rows (by omega)
    have hd : ((n : Int) == 0) = true := by rw [beq_iff_eq]; omega
    clear hl hz
    go_enter Tryz.func66, Tryz.ntmps66
    go_wp2
    go_ret
    exact ⟨by rw [hv.out]; rfl, Below.refl _ _⟩
  · have hd0 : ((n : Int) == 0) = false := by rw [beq_eq_false_iff_ne]; omega
    have hn0 : 0 < n := by omega
    have hp0 : (0 : Int) < (n : Int) := by omega
    have hp2 : n ≠ 0 := hz
    obtain ⟨ad, hr0, A0, c0, rfl, hb0, hc0, _, _, _⟩ := h.row (k := 0) hn0
    have hzz : Addr.add ad 0 = ad := rfl
    rw [hzz] at hc0
    have HMA := Lib.hid (fun hh => linE_many rows hr0 hh)
    have HSH := Lib.hid (fun h1 h2 k hk hne => linE_shape rows hr0 h1 h2 k hk hne)
    have HOK := Lib.hid (fun h1 h2 ha => linE_ok rows hr0 h1 h2 ha)
    generalize hmm : rows[0].length = m at *
    have hcd : w.drew.cell? ad = some (.slice A0 m c0) := hc0
    have H1 := catMost_bools (some ad) n c 16 w.drew
    have H2 := catMost_bool A0 m c0 4096 w.drew
    have hx : ((if (16 : Int) < (n : Int) then (5 : Int) else 0) = 0 ∧ n ≤ 16) ∨ ((if (16 : Int) < (n : Int) then (5 : Int) else 0) = 5 ∧ 16 < n) := by split <;> omega
    have hy : ((if (4096 : Int) < (m : Int) then (5 : Int) else 0) = 0 ∧ m ≤ 4096) ∨ ((if (4096 : Int) < (m : Int) then (5 : Int) else 0) = 5 ∧ 4096 < m) := by split <;> omega
    generalize (if (16 : Int) < (n : Int) then (5 : Int) else 0) = x at *
    generalize (if (4096 : Int) < (m : Int) then (5 : Int) else 0) = y at *
    have HF := Lib.hid (fun W => cfirst_two x y W 29 W.heap.size rfl)
    have hzv : ((if x ≠ 0 then x else y) = 0 ∧ n ≤ 16 ∧ m ≤ 4096) ∨ ((if x ≠ 0 then x else y) = 5 ∧ (16 < n ∨ 4096 < m)) := by
      rcases hx with ⟨rfl, hx⟩ | ⟨rfl, hx⟩
      · rcases hy with ⟨rfl, hy⟩ | ⟨rfl, hy⟩
        · exact .inl ⟨rfl, hx, hy⟩
        · exact .inr ⟨rfl, .inr hy⟩
      · exact .inr ⟨rfl, .inl hx⟩
    generalize (if x ≠ 0 then x else y) = z at *
    have K1 := Lib.hid H1
    have K2 := Lib.hid H2
    have HZ := Lib.hid hzv
    have HL := Lib.hid hl
    clear H1 H2 hx hy hzv hz hzz hl hmm
    go_enter Tryz.func66, Tryz.ntmps66
    go_wp2_with fail
    go_region_held3 (fun w' => w'.cell? ad = some (.slice A0 m c0))
      ((first | exact hcd | exact (World.cell?_alloc_lt _ _ _ (by simpa using hb0)).trans hcd))
      (first
        | (go_at_call 108; refine (K1.out).mono ?_; rintro e w4 ⟨rfl, rfl⟩)
        | (go_at_call 61; refine (K2.out).mono ?_; rintro e w5 ⟨rfl, rfl⟩)
        | (go_at_call 57; refine (HF.out w.drew).mono ?_; rintro e w6 ⟨rfl, rfl⟩))
    have hB : Below w.heap.size w (w.alloc (.cells #[.int .i64 x, .int .i64 y] 29)).drew := ((Below.refl _ _).alloc (Nat.le_refl _) _).drew
    generalize (w.alloc (.cells #[.int .i64 x, .int .i64 y] 29)).drew = w1 at *
    have hc1 : w1.cell? ad = some (.slice A0 m c0) := (hB.cell hb0).trans hc0
    rcases HZ.out with ⟨rfl, hz1, hz2⟩ | ⟨rfl, hz1⟩
    · have HSH2 := Lib.hid (fun k hk hne => HSH.out (by have := HL.out; omega) hz2 k hk hne)
      have HOK2 := Lib.hid (fun ha => HOK.out (by have := HL.out; omega) hz2 ha)
      go_wp2
      go_loopg [22] n (fun q s W => ∃ k : Nat, k ≤ n ∧ s = .int .i64 k ∧ n - k ≤ q ∧ Hid (∀ (i : Nat) (hi : i < rows.length), i < k → rows[i].length = m) ∧ W = w1)
      case atStart => exact ⟨0, Nat.zero_le _, rfl, by omega, fun i hi h => absurd h (by omega), rfl⟩
      case round =>
        obtain ⟨k, hk, rfl, hq, hf, hW⟩ := hrel
        obtain rfl : w1 = wr := hW.symm
        clear hW
        by_cases h0 : k < n
        · obtain ⟨ad2, hkl, A1, c1, e1, hbb, hcell, hlc, hcm, hrd⟩ := (h.below hB).row h0
          injection e1 with e1
          subst e1
          have HSK := Lib.hid (fun hne => HSH2.out k hkl hne)
          have HNX := Lib.hid (fun (e : rows[k].length = m) => show ∀ (i : Nat) (hi : i < rows.length), i < k + 1 → rows[i].length = m from fun i hi hik => by
            rcases Nat.lt_or_ge i k with h9 | h9
            · exact hf.out i hi h9
            · obtain rfl : i = k := by omega
              exact e)
          clear hrd hf
          generalize rows[k].length = L at *
          by_cases he : L = m
          · subst he
            have hne : ((L : Int) != (L : Int)) = false := by simp
            have HN2 := Lib.hid (HNX.out rfl)
            go_wp2
            go_roundg (n - (k + 1))
            case measure => omega
            case rel => exact ⟨k + 1, by omega, by go_num, Nat.le_refl _, HN2.out, rfl⟩
          · have hne : ((L : Int) != (m : Int)) = true := by rw [bne_iff_ne]; omega
            have HV := Lib.hid (HSK.out he)
            clear he
            go_wp2
            go_ret
            exact ⟨by rw [HV.out]; rfl, hB⟩
        · have HV := Lib.hid (HOK2.out (fun k hk => hf.out k hk (by have := HL.out; omega)))
          go_wp2
          go_ret
          exact ⟨by rw [HV.out]; rfl, hB⟩
    · have HV := Lib.hid (HMA.out (hz1.imp (fun h => by have := HL.out; omega) id))
      clear hz1
      go_wp2
      go_ret
      exact ⟨by rw [HV.out]; rfl, hB⟩

/-- the words of lines, none where the lines are not valid -/
def wordsL (rows : List (List Bool)) : List Nat := if linE rows = 0 then (List.range (rows.headD []).length).map (wd rows) else []

set_option maxHeartbeats 1000000 in
theorem words_err (A : Option Addr) (n c : Nat) (rows : List (List Bool)) (w : World) (h : RowsR boolv w w.heap.size A n rows) (hn : n ≤ maxLen) (hE : linE rows ≠ 0) :
    Calls Tryz.prog 27 #[.slice A n c] w fun e w' => e = .returned (.tuple #[.slice none 0 0, .int .i64 (linE rows)]) ∧ Below w.heap.size w w' := by
  have HC := Lib.hid (checkLines_any A n c rows w h hn)
  generalize linE rows = E at *
  have e1 : (E != 0) = true := by simpa using hE
  have e2 : (E == 0) = false := by simpa using hE
  have e3 : decide (E = 0) = false := by simpa using hE
  clear h hE
  go_enter Tryz.func27, Tryz.ntmps27
  go_wp2_with fail
  refine HC.out.mono ?_
  rintro e w1 ⟨rfl, hb1⟩
  go_wp2
  go_ret2
  exact ⟨rfl, hb1⟩

/-- the error of a line of words -/
def lnE (N : Nat) (b : Int) : Int := if 4096 < N then 5 else rangeE b 0 15

set_option maxHeartbeats 1000000 in
theorem line_err (A : Option Addr) (N c : Nat) (b : Int) (w : World) (hE : lnE N b ≠ 0) :
    Calls Tryz.prog 29 #[.slice A N c, .int .i64 b] w fun e w' => e = .returned (.tuple #[.slice none 0 0, .int .i64 (lnE N b)]) ∧ Below w.heap.size w w' := by
  have H1 := catMost_u16 A N c 4096 w
  have H2 := cinRange_any b 0 15 w
  have hv : (if (if (4096 : Int) < (N : Int) then (5 : Int) else 0) ≠ 0 then (if (4096 : Int) < (N : Int) then (5 : Int) else 0) else rangeE b 0 15) = lnE N b := by
    unfold lnE
    by_cases h : 4096 < N
    · rw [if_pos (show (4096 : Int) < (N : Int) by omega), if_pos (by decide), if_pos h]
    · rw [if_neg (show ¬ (4096 : Int) < (N : Int) by omega), if_neg (by decide), if_neg h]
  generalize (if (4096 : Int) < (N : Int) then (5 : Int) else 0) = x at *
  generalize rangeE b 0 15 = y at *
  have HF := Lib.hid (fun W => cfirst_two x y W 29 W.heap.size rfl)
  rw [hv] at HF
  generalize lnE N b = E at *
  have e1 : (E != 0) = true := by simpa using hE
  have e2 : (E == 0) = false := by simpa using hE
  have e3 : decide (E = 0) = false := by simpa using hE
  have K1 := Lib.hid H1
  have K2 := Lib.hid H2
  clear H1 H2 hv hE
  go_enter Tryz.func29, Tryz.ntmps29
  go_wp2_with fail
  refine K1.out.mono ?_
  rintro e w1 ⟨rfl, rfl⟩
  go_wp2_with fail
  refine K2.out.mono ?_
  rintro e w1 ⟨rfl, rfl⟩
  go_wp2_with fail
  refine (HF.out _).mono ?_
  rintro e w1 ⟨rfl, rfl⟩
  have hb : Below w.heap.size w (w.alloc (.cells #[.int .i64 x, .int .i64 y] 29)) := (Below.refl _ _).alloc (Nat.le_refl _) _
  generalize (w.alloc (.cells #[.int .i64 x, .int .i64 y] 29)) = w1 at *
  go_wp2
  go_ret2
  exact ⟨rfl, hb⟩

set_option maxHeartbeats 2000000 in
/-- a copy of words -/
theorem wordsCopy_own (A : Option Addr) (n c : Nat) (l : List Nat) (w : World) (h : Reads w w.heap.size 1 A n (l.map u16v)) (hn : n ≤ 140737488355328 / 8) (hc : A = none → c = 0) :
    Calls Tryz.prog 30 #[.slice A n c] w fun e w' => ∃ v, e = .returned v ∧ w'.ownsRow w.heap.size 63 1 v n (l.map u16v) ∧ Below w.heap.size w w' := by
  have hL := h.lenM
  have hbA : Below w.heap.size w (w.alloc (.cells #[] 63)) := (Below.refl _ _).alloc (Nat.le_refl _) _
  cases A with
  | none =>
    obtain rfl := hc rfl
    have hl : l = [] := by
      cases l with
      | nil => rfl
      | cons x t =>
        obtain ⟨ad9, e9, _⟩ := h.2 (by simp at hL; omega)
        cases e9
    subst hl
    obtain rfl : 0 = n := hL
    have ho := own_empty w w.heap.size 63 (Nat.le_refl _)
    clear h hc
    go_enter Tryz.func30, Tryz.ntmps30
    go_wp2
    go_ret
    exact ⟨_, rfl, ho, hbA⟩
  | some a1 =>
    obtain ⟨i0, hi0, hz0, hz1, hz2⟩ := info_parts info_u16
    have hone : ∀ u ∈ l.map u16v, u.oneCell' = true := u16v_one l
    have HONE := Lib.hid hone
    have HRD := Lib.hid h
    clear h hone hc
    go_enter Tryz.func30, Tryz.ntmps30
    go_wp2_with (at_builtin; refine wpList_append_own _ rfl _ _ 51 rfl w.heap.size 63 i0 (.int .u16 0) 1 2 Tryz.underlying51 hi0 hz0 hz1 hz2 rfl (by decide) _ _ _ rfl (own_empty w w.heap.size 63 (Nat.le_refl _)) a1 n c (l.map u16v) rfl ?c0 ?c1 ?c2 ?c3 ?c4 ?c5 ?_)
    case c0 => rw [List.length_map]; omega
    case c1 => exact (HRD.out.below ((Below.refl _ _).alloc (Nat.le_refl _) _)).cellsOver
    case c2 => exact HONE.out
    case c3 => unfold maxLen; omega
    case c4 => omega
    case c5 => simp
    intro v1 w3 hown1 hgrow1 _
    have hb3 : Below w.heap.size w w3 := hbA.grown hgrow1 (by simp) (fun g hg => by simp [Value.ownBlock] at hg; omega)
    clear hgrow1 hbA
    go_wp2
    go_ret
    exact ⟨v1, rfl, hown1, hb3⟩

end Go.Proofs.YtboaojkblmddkaaGreatDoor

/- probe's Words and Line of any arguments: one contract each. -/
namespace Go.Proofs.YtboaojkblmddkaaGreatDoor
open Go.RowKit Bn

theorem wordsL_ok (rows : List (List Bool)) (h : linE rows = 0) : ∃ m, m ≤ 4096 ∧ 1 ≤ rows.length ∧ rows.length ≤ 16 ∧ (∀ r ∈ rows, r.length = m) ∧ wordsL rows = (List.range m).map (wd rows) := by
  obtain ⟨h1, h2, h0, h3, h4⟩ := linE_valid rows h
  refine ⟨rows[0].length, h3, h1, h2, h4, ?_⟩
  unfold wordsL
  rw [if_pos h]
  cases rows with
  | nil => simp at h0
  | cons r t => rfl
theorem wordsL_err (rows : List (List Bool)) (h : linE rows ≠ 0) : wordsL rows = [] := if_neg h

theorem wordsL_len (rows : List (List Bool)) : (wordsL rows).length ≤ 4096 := by
  by_cases hE : linE rows = 0
  · obtain ⟨m, h1, _, _, _, h5⟩ := wordsL_ok rows hE
    rw [h5]; simpa using h1
  · rw [wordsL_err rows hE]; simp

theorem words_any (A : Option Addr) (n c : Nat) (rows : List (List Bool)) (w : World) (h : RowsR boolv w w.heap.size A n rows) (hn : n ≤ maxLen) :
    Calls Tryz.prog 27 #[.slice A n c] w fun e w' => ∃ A' c', e = .returned (.tuple #[.slice A' (wordsL rows).length c', .int .i64 (linE rows)]) ∧ Reads w' w'.heap.size 1 A' (wordsL rows).length ((wordsL rows).map u16v) ∧ Below w.heap.size w w' := by
  by_cases hE : linE rows = 0
  · obtain ⟨m, h1, h2, h3, h4, h5⟩ := wordsL_ok rows hE
    have hl := h.1
    refine (words_ok A n c m rows w h (by omega) (by omega) h4 h1).mono ?_
    rintro e w' ⟨g, rfl, ho, hb⟩
    have hlen : (wordsL rows).length = m := by rw [h5]; simp
    refine ⟨some ⟨g, 0, none⟩, m, by rw [hlen, hE], ?_, hb⟩
    rw [hlen, h5]
    exact Reads.of_own ho
  · refine (words_err A n c rows w h hn hE).mono ?_
    rintro e w' ⟨rfl, hb⟩
    refine ⟨none, 0, by rw [wordsL_err rows hE]; rfl, ?_, hb⟩
    rw [wordsL_err rows hE]
    exact Reads.none_

/-- a line of words, none where an argument is not valid -/
def lineL (ws : List Nat) (N : Nat) (b : Int) : List Bool := if lnE N b = 0 then bitL ws b.toNat else []
theorem lineL_len (ws : List Nat) (N : Nat) (b : Int) : (lineL ws N b).length ≤ ws.length := by
  unfold lineL bitL
  split <;> simp
theorem lnE_cases (N : Nat) (b : Int) : (4096 < N ∧ lnE N b = 5) ∨ (N ≤ 4096 ∧ b < 0 ∧ lnE N b = 3) ∨ (N ≤ 4096 ∧ 15 < b ∧ lnE N b = 3) ∨ (N ≤ 4096 ∧ 0 ≤ b ∧ b ≤ 15 ∧ lnE N b = 0) := by
  unfold lnE rangeE
  by_cases h : 4096 < N
  · rw [if_pos h]; omega
  · rw [if_neg h]; split <;> omega

theorem line_any (A : Option Addr) (N c : Nat) (b : Int) (ws : List Nat) (w : World) (h : Reads w w.heap.size 1 A N (ws.map u16v)) (hws : ∀ x ∈ ws, x < 65536) :
    Calls Tryz.prog 29 #[.slice A N c, .int .i64 b] w fun e w' => ∃ A' c', e = .returned (.tuple #[.slice A' (lineL ws N b).length c', .int .i64 (lnE N b)]) ∧ Reads w' w'.heap.size 1 A' (lineL ws N b).length ((lineL ws N b).map boolv) ∧ Below w.heap.size w w' := by
  by_cases hE : lnE N b = 0
  · have hb : N ≤ 4096 ∧ 0 ≤ b ∧ b ≤ 15 := by have := lnE_cases N b; omega
    obtain ⟨k, rfl⟩ : ∃ k : Nat, b = k := ⟨b.toNat, by omega⟩
    refine (line_ok A N c k ws w h hws hb.1 (by omega)).mono ?_
    rintro e w' ⟨v, rfl, ho, hb'⟩
    have hl : lineL ws N (k : Int) = bitL ws k := by unfold lineL; rw [if_pos hE]; rfl
    have hlen : (bitL ws k).length = N := by unfold bitL; rw [List.length_map]; exact h.lenM
    obtain ⟨A', c', rfl, _, _, hr⟩ := own_slice ho
    rw [hl, hlen, hE]
    exact ⟨A', c', rfl, hr, hb'⟩
  · refine (line_err A N c b w hE).mono ?_
    rintro e w' ⟨rfl, hb⟩
    have hl : lineL ws N b = [] := if_neg hE
    rw [hl]
    exact ⟨none, 0, rfl, Reads.none_, hb⟩

end Go.Proofs.YtboaojkblmddkaaGreatDoor

/- The reference's Length. -/
namespace Go.Proofs.YtboaojkblmddkaaGreatDoor
open Go.RowKit

theorem rLength_any (a k : Int) (w : World) : Calls Tryz.prog 11 #[.int .i64 a, .int .i64 k] w fun e w' => e = .returned (.bool (decide (a ≤ k ∨ 4096 < a ∧ a ≤ 4098))) ∧ w = w' := by
  by_cases h1 : a ≤ k
  · have d1 : decide (a ≤ k) = true := by simpa using h1
    have hv : decide (a ≤ k ∨ 4096 < a ∧ a ≤ 4098) = true := decide_eq_true (Or.inl h1)
    rw [hv]
    clear hv
    go_enter Tryz.func11, Tryz.ntmps11
    go_wp2
    go_ret
    exact ⟨rfl, rfl⟩
  · have d1 : decide (a ≤ k) = false := by simpa using h1
    by_cases h2 : 4096 < a
    · have d2 : decide (4096 < a) = true := by simpa using h2
      have hv : decide (a ≤ k ∨ 4096 < a ∧ a ≤ 4098) = decide (a ≤ 4098) := by rw [Bool.eq_iff_iff]; simp; omega
      rw [hv]
      clear hv
      go_enter Tryz.func11, Tryz.ntmps11
      go_wp2
      go_ret
      exact ⟨rfl, rfl⟩
    · have d2 : decide (4096 < a) = false := by simpa using h2
      have hv : decide (a ≤ k ∨ 4096 < a ∧ a ≤ 4098) = false := decide_eq_false (by omega)
      rw [hv]
      clear hv
      go_enter Tryz.func11, Tryz.ntmps11
      go_wp2
      go_ret
      exact ⟨rfl, rfl⟩

end Go.Proofs.YtboaojkblmddkaaGreatDoor

/- Blocks of sixteen words: when they are equal; probe's Block of sixteen words. -/
namespace Go.Proofs.YtboaojkblmddkaaGreatDoor
open Go.RowKit Bn

section
variable {P : Program}
theorem res_cell_tmp {fn : Func} {p u : Tmp} {ty : TypeId} (h : fn.results = #[.cell p ty, .tmp u]) (tmps : Array Value) (w : World) (g : Nat) (v r : Value) (hp : tmps.getD p undef = .pointer (some ⟨g, 0, none⟩))
    (hl : (loadVar ty ⟨g, 0, none⟩).run P w = .ok v w) (hr : tmps.getD u undef = r) : (results fn tmps).run P w = .ok (.tuple #[v, r]) w := by
  rw [results_cell_tmp h, hp, hr]
  have ha : (asAddr (.pointer (some ⟨g, 0, none⟩))).run P w = .ok (⟨g, 0, none⟩ : Addr) w := by simp [asAddr]
  rw [ha]
  simp only [Result.andThen_ok, hl]
theorem eqItems_words (d : Nat) (e : TypeId) (he : P.underlying e = some (.int .u16)) (xs ys : List Nat) (w : World) : ∀ is : List Nat, (∀ i ∈ is, i < xs.length ∧ i < ys.length) →
    (Op.eqItems (d + 1) e 1 (xs.map u16v).toArray (ys.map u16v).toArray is).run P w = .ok (is.all fun i => xs.getD i 0 == ys.getD i 0) w
  | [], _ => by simp [Op.eqItems]
  | i :: is, h => by
    obtain ⟨h1, h2⟩ := h i (by simp)
    have ih := eqItems_words d e he xs ys w is (fun j hj => h j (by simp [hj]))
    have px : (part e (xs.map u16v).toArray (i * 1)).run P w = .ok (u16v xs[i]) w := by
      simp [part, isAgg, run_underlying he, h1]
    have py : (part e (ys.map u16v).toArray (i * 1)).run P w = .ok (u16v ys[i]) w := by
      simp [part, isAgg, run_underlying he, h2]
    have pe : (Op.equalIn (d + 1) e (u16v xs[i]) (u16v ys[i])).run P w = .ok (xs[i] == ys[i]) w := by
      unfold u16v
      rw [run_equalIn_int w d e .u16 .u16 _ _ he]
      congr 1
      rw [Bool.eq_iff_iff]
      simp only [beq_iff_eq]
      exact Int.ofNat_inj
    have e1 : xs.getD i 0 = xs[i] := by simp [List.getD, h1]
    have e2 : ys.getD i 0 = ys[i] := by simp [List.getD, h2]
    simp only [Op.eqItems, Sem.run_bind, px, py, pe, Result.andThen_ok, List.all_cons, e1, e2]
    cases hb : (xs[i] == ys[i])
    · simp
    · simp only [Bool.not_true, Bool.false_eq_true, if_false, Bool.true_and]
      exact ih
theorem equalIn_words (d : Nat) (t e : TypeId) (n : Nat) (i : TypeInfo) (hu : P.underlying t = some (.array n e)) (hi : P.info? e = some i) (hc : P.cellsOf e = 1) (he : P.underlying e = some (.int .u16)) (xs ys : List Nat) (hx : xs.length = n) (hy : ys.length = n) (w : World) :
    (Op.equalIn (d + 2) t (.agg (xs.map u16v).toArray) (.agg (ys.map u16v).toArray)).run P w = .ok (xs == ys) w := by
  rw [run_equalIn_array w (d + 1) _ _ hu hi, hc, eqItems_words d e he xs ys w _ (fun i hi => by have := List.mem_range.1 hi; omega)]
  congr 1
  rw [Bool.eq_iff_iff, List.all_eq_true, beq_iff_eq]
  constructor
  · intro h
    apply List.ext_getElem (by omega)
    intro j h1 h2
    have := h j (List.mem_range.2 (by omega))
    simpa [List.getD, h1, h2] using this
  · intro h j _
    rw [h]; simp
end

theorem eq_blk (xs ys : List Nat) (hx : xs.length = 16) (hy : ys.length = 16) (W : World) : (Op.equalIn 10000 64 (.agg (xs.map u16v).toArray) (.agg (ys.map u16v).toArray)).run Tryz.prog W = .ok (xs == ys) W := by
  obtain ⟨i, hi⟩ : ∃ i, Tryz.prog.info? 63 = some i := Option.isSome_iff_exists.1 (by kernel_rfl)
  exact equalIn_words 9998 64 63 16 i Tryz.underlying64 hi (by kernel_rfl) Tryz.underlying63 xs ys hx hy W

theorem arrayAt16 (g c : Nat) (W : World) : (Instr.arrayAt 64 (.slice (some ⟨g, 0, none⟩) 16 c)).run Tryz.prog W = .ok (.pointer (some ⟨g, 0, none⟩)) W := by kernel_rfl

theorem range_setRow (w : World) (t : TypeId) (old : Array Value) (cs : List Value) : ((w.alloc (.cells old t)).setRow w.heap.size cs.toArray).rangeAt w.heap.size 0 cs := by
  intro j v hj
  have h := cell_setRow w t old cs j v hj
  rwa [Addr.add_mid] at h
theorem range_below {B g : Nat} {w w' : World} {cs : List Value} (h : w.rangeAt g 0 cs) (hb : Below B w w') (hg : g < B) : w'.rangeAt g 0 cs := fun j v hj => (hb.cell hg).trans (h j v hj)
theorem load_blk (g : Nat) (cs : List Value) (hl : cs.length = 16) (W : World) (h : W.rangeAt g 0 cs) : (loadVar 64 ⟨g, 0, none⟩).run Tryz.prog W = .ok (.agg cs.toArray) W :=
  run_loadVar_mid W g 0 64 cs _ h Tryz.underlying64 rfl (by rw [hl]; kernel_rfl)

theorem index_blk (ws : List Nat) (k : Nat) (hk : k < ws.length) (hl : ws.length = 16) (W : World) : (Instr.index 64 (.agg (ws.map u16v).toArray) (.int .i64 (k : Int))).run Tryz.prog W = .ok (.int .u16 ((ws[k] : Nat) : Int)) W := by
  have hs : (sizeOf 63).run Tryz.prog W = .ok 1 W := by kernel_rfl
  have hb : (0 : Int) ≤ (k : Int) ∧ (k : Int) < ((16 : Nat) : Int) := by omega
  have hp : (part 63 (ws.map u16v).toArray (k * 1)).run Tryz.prog W = .ok (u16v ws[k]) W := by
    simp [part, isAgg, run_underlying Tryz.underlying63, hk]
  unfold Instr.index
  simp only [asIntOf, Sem.run_bind, Sem.run_pure, Result.andThen_ok, run_underlying Tryz.underlying64]
  rw [if_pos hb]
  simp only [Sem.run_bind, hs, Result.andThen_ok, Int.toNat_natCast]
  exact hp

set_option maxHeartbeats 1000000 in
set_option maxRecDepth 100000 in
theorem block_ok (g c : Nat) (ws : List Nat) (w : World) (h : w.rangeAt g 0 (ws.map u16v)) (hl : ws.length = 16) (hg : g < w.heap.size) :
    Calls Tryz.prog 35 #[.slice (some ⟨g, 0, none⟩) 16 c] w fun e w' => e = .returned (.tuple #[.agg (ws.map u16v).toArray, .int .i64 0]) ∧ Below w.heap.size w w' := by
  have HM := Lib.hid (fun W => catMost_u16 (some ⟨g, 0, none⟩) 16 c 4096 W)
  have har := arrayAt16 g c
  have hone : ∀ v ∈ ws.map u16v, v.oneCell' = true := u16v_one ws
  have hcl : (ws.map u16v).length = 16 := by rw [List.length_map]; exact hl
  generalize ws.map u16v = cs at *
  have HON := Lib.hid hone
  have HRG := Lib.hid (fun (W : World) (hb : Below w.heap.size w W) => range_below h hb hg)
  have hi78 : (Tryz.prog.info? 64).map (·.size) = some cs.toArray.size := by
    rw [List.size_toArray, hcl]; kernel_rfl
  have hi78' : (Tryz.prog.info? 64).map (·.size) = some cs.length := by
    rw [hcl]; kernel_rfl
  have H78 := Lib.hid hi78
  have H78' := Lib.hid hi78'
  have hsz16 : (16 : Nat) = cs.toArray.size := by rw [List.size_toArray, hcl]
  have HSZ := Lib.hid hsz16
  have HLD := Lib.hid (fun W h => load_blk w.heap.size cs hcl W h)
  clear h hone hcl hi78 hi78' hsz16 hl
  go_enter Tryz.func35, Tryz.ntmps35
  go_wp2_with fail
  refine (HM.out _).mono ?_
  rintro e w1 ⟨rfl, rfl⟩
  go_wp2_with (first
    | (refine wpList_load_mid rfl 64 (.tmp 16) rfl g 0 rfl cs _ (HRG.out _ ((Below.refl _ _).alloc (Nat.le_refl _) _)) Tryz.underlying64 rfl H78'.out ?_)
    | (refine wpList_store_row rfl 64 (.tmp 2) (.tmp 17) rfl w.heap.size cs.toArray rfl rfl 64 _ (heap_alloc_new _ _) H78.out HSZ.out (all_oneCell_toArray HON.out) ?_))
  have hld := fun old => HLD.out _ (range_setRow w 64 old cs)
  refine bodyPost_ret (v := .tuple #[.agg cs.toArray, .int .i64 0]) (res_cell_tmp Tryz.results35 _ _ w.heap.size _ _ rfl (hld _) rfl) rfl ⟨rfl, below_setRow_new (Below.refl _ _) (Nat.le_refl _) _ _⟩

end Go.Proofs.YtboaojkblmddkaaGreatDoor

/- The words of lines: their number, their size, their bits. Plain. -/
namespace Go.Proofs.YtboaojkblmddkaaGreatDoor

theorem wlist_len (LS : List (List Bool)) (m : Nat) : ((List.range m).map (wd LS)).length = m := by simp
theorem wlist_lt (LS : List (List Bool)) (m : Nat) (h : LS.length ≤ 16) : ∀ x ∈ (List.range m).map (wd LS), x < 65536 := by
  intro x hx
  obtain ⟨i, _, rfl⟩ := List.mem_map.1 hx
  exact Nat.lt_of_lt_of_le (wd_lt LS i) (Nat.le_trans (Nat.pow_le_pow_right (by decide) h) (by decide))
theorem wlist_bit (LS : List (List Bool)) (m : Nat) (hm : ∀ r ∈ LS, r.length = m) (i : Nat) (h : i < LS.length) : bitL ((List.range m).map (wd LS)) i = LS[i] := by
  have hl := hm LS[i] (List.getElem_mem h)
  unfold bitL
  apply List.ext_getElem
  · simp [hl]
  · intro j h1 h2
    have hb := wd_bit LS j i h
    have e1 : LS.getD i [] = LS[i] := by simp [List.getD, List.getElem?_eq_getElem h]
    have e2 : LS[i].getD j false = LS[i][j] := by simp [List.getD, List.getElem?_eq_getElem h2]
    rw [e1, e2] at hb
    simp only [List.getElem_map, List.getElem_range, hb]
    cases LS[i][j] <;> simp
end Go.Proofs.YtboaojkblmddkaaGreatDoor

/- probe's Unpack of no blocks; where a guard of ProbePacks strikes. -/
namespace Go.Proofs.YtboaojkblmddkaaGreatDoor
open Go.RowKit Bn

/-- the chapter's examples answer -/
def AwakeOk : Prop := ∀ W : World, Tabs W → Calls Tryz.prog 12 #[] W fun e w' => e = .returned (.bool true) ∧ Below W.heap.size W w'

set_option maxHeartbeats 1000000 in
set_option maxRecDepth 100000 in
theorem unpack_nil (A : Option Addr) (c : Nat) (w : World) :
    Calls Tryz.prog 37 #[.slice A 0 c, .int .i64 0] w fun e w' => ∃ A', e = .returned (.tuple #[.slice A' 0 0, .int .i64 0]) ∧ Below w.heap.size w w' := by
  obtain ⟨i0, hi0, hz0, hz1, hz2⟩ := info_parts info_u16
  have H1 := catMost_block A 0 c 256 w
  have H2 := cinRange_any 0 0 4096 w
  have hr : rangeE 0 0 4096 = 0 := by decide
  rw [hr] at H2
  have H3 := fun W : World => blocksFor_any 0 W (by omega)
  have K1 := Lib.hid H1
  have K2 := Lib.hid H2
  have K3 := Lib.hid H3
  clear H1 H2 H3 hr
  go_enter Tryz.func37, Tryz.ntmps37
  go_wp2_with fail
  refine K1.out.mono ?_
  rintro e w1 ⟨rfl, rfl⟩
  go_wp2_with fail
  refine K2.out.mono ?_
  rintro e w1 ⟨rfl, rfl⟩
  go_wp2_with fail
  refine (cfirst_two 0 0 w 29 w.heap.size rfl).mono ?_
  rintro e w1 ⟨rfl, rfl⟩
  have hb1 : Below w.heap.size w (w.alloc (.cells #[.int .i64 0, .int .i64 0] 29)) := (Below.refl _ _).alloc (Nat.le_refl _) _
  generalize w.alloc (.cells #[.int .i64 0, .int .i64 0] 29) = w1 at *
  go_wp2_with fail
  refine (K3.out _).mono ?_
  rintro e w2 ⟨rfl, rfl⟩
  go_wp2_with (at_make; refine wpList_make_own _ rfl _ _ 51 rfl w1.heap.size 63 i0 (.int .u16 0) 1 Tryz.underlying51 hi0 hz0 hz1 _ _ _ 0 rfl rfl (by omega) ?b2 ?b3 (Nat.le_refl _) ?_)
  case b2 => rw [hz2]; omega
  case b3 => unfold maxLen; omega
  intro w2 hown0 hgrow0
  have hB2 : Below w.heap.size w w2 := hb1.trans ((gnone hgrow0 (Nat.le_refl _)).mono hb1.size)
  clear hgrow0 hown0
  go_wp2
  go_loopg [7, 30] 0 (fun q v s W => v = .slice (some ⟨w1.heap.size, 0, none⟩) 0 0 ∧ s = .int .i64 0 ∧ W = w2)
  case atStart => exact ⟨rfl, rfl, rfl⟩
  case round =>
    obtain ⟨rfl, rfl, hW⟩ := hrel
    obtain rfl : w2 = wr := hW.symm
    clear hW
    go_wp2_with fail
    refine (containsFunc_zero _ 0 _ w2 ⟨rfl, fun h0 => absurd h0 (by omega)⟩ (by omega)).mono ?_
    rintro e w4 ⟨rfl, rfl⟩
    go_wp2_with fail
    go_ret2
    exact ⟨_, rfl, hB2⟩

theorem unpack_all (g n c : Nat) (ws : List Nat) (F : List Value) (w : World) (hblk : w.heap[g]? = some (.cells F.toArray 64 (0, 0))) (hF : F = ws.map u16v ++ List.replicate (16 * ((n + 15) / 16) - n) (u16v 0)) (hl : ws.length = n) (hn : n ≤ 4096) :
    Calls Tryz.prog 37 #[.slice (some ⟨g, 0, none⟩) ((n + 15) / 16) c, .int .i64 n] w fun e w' => ∃ A', e = .returned (.tuple #[.slice A' n n, .int .i64 0]) ∧ Reads w' w'.heap.size 1 A' n (ws.map u16v) ∧ Below w.heap.size w w' := by
  by_cases h0 : 1 ≤ n
  · exact unpack_ok g n c ws F w hblk hF hl h0 hn
  · obtain rfl : n = 0 := by omega
    refine (unpack_nil (some ⟨g, 0, none⟩) c w).mono ?_
    rintro e w' ⟨A', he, hb⟩
    refine ⟨A', he, ⟨?_, fun h => absurd h (by omega)⟩, hb⟩
    rw [List.length_map, hl]

set_option maxHeartbeats 2000000 in
set_option maxRecDepth 100000 in
/-- a guard of the law turns the input away: the chapter's examples answer -/
theorem pack_turned (A : Option Addr) (n c : Nat) (rows : List (List Bool)) (w : World) (KV : AwakeOk) (hT : Tabs w) (h : RowsR boolv w w.heap.size A n rows) (hn : n ≤ maxLen)
    (hg : 16 < n ∨ linE rows ≠ 0 ∨ ∃ h0 : 0 < rows.length, 40 < rows[0].length) :
    Calls Tryz.prog 9 #[.slice A n c] w fun e w' => e = .returned (.bool true) ∧ Below w.heap.size w w' := by
  have K1 := Lib.hid (rCheckLines_any A n c rows w h hn)
  have KV := Lib.hid KV
  unfold maxLen at hn
  by_cases h1 : 16 < n
  · have d1 : decide ((16 : Int) < (n : Int)) = true := by simpa using (show (16 : Int) < n from by omega)
    clear hg K1 h
    go_enter Tryz.func9, Tryz.ntmps9
    go_wp2_with fail
    refine (KV.out _ hT).mono ?_
    rintro e w2 ⟨rfl, hb2⟩
    go_wp2_with fail
    go_ret
    exact ⟨rfl, hb2⟩
  · have d1 : decide ((16 : Int) < (n : Int)) = false := by simpa using (show ¬ ((16 : Int) < n) from by omega)
    by_cases h2 : linE rows = 0
    · obtain ⟨h3, h4⟩ := (hg.resolve_left h1).resolve_left (fun h => h h2)
      rw [h2] at K1
      have hrl := h.1
      obtain ⟨ad, hr0, A0, c0, rfl, hb0, hc0, _, _, _⟩ := h.row (k := 0) (by omega)
      have hzz : Addr.add ad 0 = ad := rfl
      rw [hzz] at hc0
      generalize rows[0].length = m at *
      have d2 : decide ((40 : Int) < (m : Int)) = true := by simpa using (show (40 : Int) < m from by omega)
      have hp0 : (0 : Int) < (n : Int) := by omega
      have hp1 : 0 < n := by omega
      clear hg h1 h2 hzz h hrl
      go_enter Tryz.func9, Tryz.ntmps9
      go_wp2_with fail
      refine K1.out.mono ?_
      rintro e w1 ⟨rfl, hb1⟩
      have hc1 := (hb1.cell hb0).trans hc0
      go_wp2_with fail
      refine (KV.out _ (hT.later hb1)).mono ?_
      rintro e w2 ⟨rfl, hb2⟩
      go_wp2_with fail
      go_ret
      exact ⟨rfl, hb1.trans (hb2.mono hb1.size)⟩
    · generalize linE rows = r at *
      have d3 : (r != 0) = true := by simpa using h2
      have d4 : (r == 0) = false := by simpa using h2
      have d5 : decide (r = 0) = false := by simpa using h2
      clear hg h1 h2 h
      go_enter Tryz.func9, Tryz.ntmps9
      go_wp2_with fail
      refine K1.out.mono ?_
      rintro e w1 ⟨rfl, hb1⟩
      go_wp2_with fail
      refine (KV.out _ (hT.later hb1)).mono ?_
      rintro e w2 ⟨rfl, hb2⟩
      go_wp2_with fail
      go_ret
      exact ⟨rfl, hb1.trans (hb2.mono hb1.size)⟩

end Go.Proofs.YtboaojkblmddkaaGreatDoor

/- ProbeWords: where a guard strikes. -/
namespace Go.Proofs.YtboaojkblmddkaaGreatDoor
open Go.RowKit Bn

/-- is a length one that the law takes -/
def LenOk (k : Nat) (n : Int) : Prop := (k : Int) ≤ n ∨ 4096 < (k : Int) ∧ (k : Int) ≤ 4098
instance (k : Nat) (n : Int) : Decidable (LenOk k n) := by unfold LenOk; exact inferInstance

set_option maxHeartbeats 2000000 in
set_option maxRecDepth 100000 in
/-- a guard of the law turns the input away -/
theorem words_turned (A A' : Option Addr) (n c N c' : Nat) (b : Int) (rows : List (List Bool)) (w : World) (KV : AwakeOk) (hT : Tabs w) (h : RowsR boolv w w.heap.size A n rows) (hn : n ≤ maxLen)
    (hg : 18 < n ∨ ¬ LenOk N 64 ∨ ∃ r ∈ rows, ¬ LenOk r.length 40) :
    Calls Tryz.prog 5 #[.slice A n c, .slice A' N c', .int .i64 b] w fun e w' => e = .returned (.bool true) ∧ Below w.heap.size w w' := by
  have HLE := Lib.hid (fun W => rLength_any N 64 W)
  have HL4 := Lib.hid (fun (k : Nat) W => rLength_any k 40 W)
  have KV := Lib.hid KV
  unfold maxLen at hn
  by_cases h1 : 18 < n
  · have d1 : decide ((18 : Int) < (n : Int)) = true := by simpa using (show (18 : Int) < n from by omega)
    clear hg h HLE HL4
    go_enter Tryz.func5, Tryz.ntmps5
    go_wp2_with fail
    refine (KV.out _ hT).mono ?_
    rintro e w2 ⟨rfl, hb2⟩
    go_wp2_with fail
    go_ret
    exact ⟨rfl, hb2⟩
  · have d1 : decide ((18 : Int) < (n : Int)) = false := by simpa using (show ¬ ((18 : Int) < n) from by omega)
    by_cases h2 : LenOk N 64
    · obtain ⟨r, hr, hrl⟩ := (hg.resolve_left h1).resolve_left (fun h => h h2)
      unfold LenOk at h2
      rw [decide_eq_true h2] at HLE
      have HBAD : Hid (∃ i, ∃ h : i < rows.length, ¬ LenOk rows[i].length 40) := by
        obtain ⟨i, hi, rfl⟩ := List.mem_iff_getElem.1 hr
        exact ⟨i, hi, hrl⟩
      have HLN := Lib.hid h.1
      clear hg hr hrl h2
      go_enter Tryz.func5, Tryz.ntmps5
      go_wp2_with fail
      refine (HLE.out w).mono ?_
      rintro e w1 ⟨rfl, rfl⟩
      go_wp2
      go_loopg [29] n (fun q s W => ∃ k : Nat, k ≤ n ∧ s = .int .i64 k ∧ n - k ≤ q ∧ Hid (∀ (i : Nat) (hi : i < rows.length), i < k → LenOk rows[i].length 40) ∧ W = w)
      case atStart => exact ⟨0, Nat.zero_le _, rfl, by omega, fun i hi h => absurd h (by omega), rfl⟩
      case round =>
        obtain ⟨k, hk, rfl, hq, hf, hW⟩ := hrel
        subst hW
        by_cases h0 : k < n
        · obtain ⟨ad, hkl, A1, c1, rfl, hbb, hcell, hlc, hcm, hrd⟩ := h.row h0
          have HNX := Lib.hid (fun (e : LenOk rows[k].length 40) => show ∀ (i : Nat) (hi : i < rows.length), i < k + 1 → LenOk rows[i].length 40 from fun i hi hik => by
            rcases Nat.lt_or_ge i k with h9 | h9
            · exact hf.out i hi h9
            · obtain rfl : i = k := by omega
              exact e)
          clear hrd hf
          generalize rows[k].length = L at *
          by_cases he : LenOk L 40
          · have HN2 := Lib.hid (HNX.out he)
            have HC := HL4.out L wr
            unfold LenOk at he
            rw [decide_eq_true he] at HC
            have HC := Lib.hid HC
            clear he
            go_wp2_with fail
            refine HC.out.mono ?_
            rintro e w1 ⟨rfl, rfl⟩
            go_wp2
            go_roundg (n - (k + 1))
            case measure => omega
            case rel => exact ⟨k + 1, by omega, by go_num, Nat.le_refl _, HN2.out, rfl⟩
          · have HC := HL4.out L wr
            unfold LenOk at he
            rw [decide_eq_false he] at HC
            have HC := Lib.hid HC
            clear he
            go_wp2_with fail
            refine HC.out.mono ?_
            rintro e w1 ⟨rfl, rfl⟩
            go_wp2_with fail
            refine (KV.out _ hT).mono ?_
            rintro e w2 ⟨rfl, hb2⟩
            go_wp2_with fail
            go_ret
            exact ⟨rfl, hb2⟩
        · exact absurd HBAD.out (fun ⟨i, hi, hb⟩ => hb (hf.out i hi (by have := HLN.out; omega)))
    · have h2' := h2
      unfold LenOk at h2
      rw [decide_eq_false h2] at HLE
      clear hg h h2 h2' HL4
      go_enter Tryz.func5, Tryz.ntmps5
      go_wp2_with fail
      refine (HLE.out w).mono ?_
      rintro e w1 ⟨rfl, rfl⟩
      go_wp2_with fail
      refine (KV.out _ hT).mono ?_
      rintro e w2 ⟨rfl, hb2⟩
      go_wp2_with fail
      go_ret
      exact ⟨rfl, hb2⟩

end Go.Proofs.YtboaojkblmddkaaGreatDoor

/- ProbeAligns: copies of records, records equal up to the sign of zero, Aligned of any arguments; where a guard strikes. -/
namespace Go.Proofs.YtboaojkblmddkaaGreatDoor
open Go.RowKit Bn
open Flt

set_option maxHeartbeats 2000000 in
/-- a copy of samples -/
theorem floats_own (A : Option Addr) (n c : Nat) (l : List Nat) (w : World) (h : Reads w w.heap.size 1 A n (l.map f32v)) (hn : n ≤ 140737488355328 / 8) (hc : A = none → c = 0) :
    Calls Tryz.prog 14 #[.slice A n c] w fun e w' => ∃ v, e = .returned v ∧ w'.ownsRow w.heap.size 23 1 v n (l.map f32v) ∧ Below w.heap.size w w' := by
  have hL := h.lenM
  have hbA : Below w.heap.size w (w.alloc (.cells #[] 23)) := (Below.refl _ _).alloc (Nat.le_refl _) _
  cases A with
  | none =>
    obtain rfl := hc rfl
    have hl : l = [] := by
      cases l with
      | nil => rfl
      | cons x t =>
        obtain ⟨ad9, e9, _⟩ := h.2 (by simp at hL; omega)
        cases e9
    subst hl
    obtain rfl : 0 = n := hL
    have ho := own_empty w w.heap.size 23 (Nat.le_refl _)
    clear h hc
    go_enter Tryz.func14, Tryz.ntmps14
    go_wp2
    go_ret
    exact ⟨_, rfl, ho, hbA⟩
  | some a1 =>
    obtain ⟨i0, hi0, hz0, hz1, hz2⟩ := info_parts info_f32
    have hone : ∀ u ∈ l.map f32v, u.oneCell' = true := f32v_one l
    have HONE := Lib.hid hone
    have HRD := Lib.hid h
    clear h hone hc
    go_enter Tryz.func14, Tryz.ntmps14
    go_wp2_with (at_builtin; refine wpList_append_own _ rfl _ _ 22 rfl w.heap.size 23 i0 (.float .f32 0) 1 4 Tryz.underlying22 hi0 hz0 hz1 hz2 rfl (by decide) _ _ _ rfl (own_empty w w.heap.size 23 (Nat.le_refl _)) a1 n c (l.map f32v) rfl ?c0 ?c1 ?c2 ?c3 ?c4 ?c5 ?_)
    case c0 => rw [List.length_map]; omega
    case c1 => exact (HRD.out.below ((Below.refl _ _).alloc (Nat.le_refl _) _)).cellsOver
    case c2 => exact HONE.out
    case c3 => unfold maxLen; omega
    case c4 => omega
    case c5 => simp
    intro v1 w3 hown1 hgrow1 _
    have hb3 : Below w.heap.size w w3 := hbA.grown hgrow1 (by simp) (fun g hg => by simp [Value.ownBlock] at hg; omega)
    clear hgrow1 hbA
    go_wp2
    go_ret
    exact ⟨v1, rfl, hown1, hb3⟩

set_option maxHeartbeats 1000000 in
/-- lists that are equal but for the signs of their zeros -/
theorem sameFloats_posz (A A' : Option Addr) (n c c' : Nat) (l : List Nat) (w : World) (h : Reads w w.heap.size 1 A n ((l.map posz).map f32v)) (h' : Reads w w.heap.size 1 A' n (l.map f32v)) (hn : n ≤ maxLen) (hf : ∀ x ∈ l, fin Ieee.single x = true) :
    Calls Tryz.prog 44 #[.slice A n c, .slice A' n c'] w fun e w' => e = .returned (.bool true) ∧ Below w.heap.size w w' := by
  unfold maxLen at hn
  have HFI := Lib.hid hf
  clear hf
  go_enter Tryz.func44, Tryz.ntmps44
  go_wp2
  go_loopg [5] n (fun m s W => ∃ k : Nat, k ≤ n ∧ s = .int .i64 k ∧ n - k ≤ m ∧ Below w.heap.size w W)
  case atStart => exact ⟨0, Nat.zero_le _, rfl, by omega, Below.refl _ _⟩
  case round =>
    obtain ⟨k, hk, rfl, hm, hbel⟩ := hrel
    by_cases h0 : k < n
    · obtain ⟨ad, hkl, rfl, hbb, hcell⟩ := (h.below hbel).cellM h0
      obtain ⟨ad', hkl', rfl, hbb', hcell'⟩ := (h'.below hbel).cellM h0
      have hfx := HFI.out _ (List.getElem_mem hkl')
      rw [List.getElem_map] at hcell
      unfold f32v at hcell hcell'
      generalize l[k] = x at *
      have hxx : (FloatKind.f32.format.order (posz x) x != some .eq) = false := by
        have h := feq_key (posz_fin hfx) hfx
        have h2 : feq (posz x) x = true := by rw [h, posz_key hfx]; simp
        show (Ieee.single.order (posz x) x != some .eq) = false
        simpa [feq] using h2
      clear hfx
      go_wp2
      go_region
      go_wp2
      go_roundg (n - (k + 1))
      case measure => omega
      case rel => exact ⟨k + 1, by omega, by go_num, Nat.le_refl _, hbel.drew⟩
    · go_wp2
      go_ret
      exact ⟨rfl, hbel⟩

theorem algR_W (rows : List (List Nat)) (sk : List Int) : algR rows sk = (algW rows sk).map (List.map posz) := by
  unfold algR algW
  rw [List.map_zipWith]
  rfl
theorem algW_len (rows : List (List Nat)) (sk : List Int) (n : Nat) (h1 : rows.length = n) (h2 : sk.length = n) : (algW rows sk).length = n := by
  unfold algW; rw [List.length_zipWith]; omega
theorem algW_fin (rows : List (List Nat)) (sk : List Int) (h : ∀ r ∈ rows, ∀ x ∈ r, fin Ieee.single x = true) : ∀ r ∈ algW rows sk, ∀ x ∈ r, fin Ieee.single x = true := by
  intro r hr x hx
  obtain ⟨i, hi, rfl⟩ := List.mem_iff_getElem.1 hr
  have hi' : i < (List.zipWith (algw (frT sk) (toT rows sk)) rows sk).length := hi
  rw [List.length_zipWith] at hi'
  have e : (algW rows sk)[i] = algw (frT sk) (toT rows sk) (rows[i]'(by omega)) (sk[i]'(by omega)) := by
    simp only [algW, List.getElem_zipWith]
  rw [e] at hx
  unfold algw at hx
  exact h _ (List.getElem_mem _) x (List.mem_of_mem_drop (List.mem_of_mem_take hx))
theorem firstE_every : ∀ l : List Int, firstE l = 0 → ∀ x ∈ l, x = 0
  | [], _, x, hx => by cases hx
  | a :: t, h, x, hx => by
    by_cases ha : a = 0
    · subst ha
      have ht : firstE t = 0 := by
        have e : firstE (0 :: t) = if (0 : Int) ≠ 0 then 0 else firstE t := rfl
        rw [e, if_neg (by simp)] at h
        exact h
      rcases List.mem_cons.1 hx with rfl | hx
      · rfl
      · exact firstE_every t ht x hx
    · exfalso
      have e : firstE (a :: t) = if a ≠ 0 then a else firstE t := rfl
      rw [e, if_pos ha] at h
      exact ha h
theorem recE_val (rows : List (List Nat)) (sk : List Int) (h : recE rows sk = 0) : Valid rows sk := by
  unfold recE at h
  split at h
  · cases h
  split at h
  · cases h
  rename_i h0 h8
  split at h
  · rename_i hx; exact absurd h hx
  rename_i hf
  split at h
  · cases h
  rename_i hs
  split at h
  · rename_i hsm
    have hf0 : firstE (rows.map smpE) = 0 := Classical.byContradiction hf
    have hall : ∀ r ∈ rows, smpE r = 0 := fun r hr => firstE_every _ hf0 _ (List.mem_map_of_mem hr)
    refine ⟨by omega, by omega, ?_, ?_, by omega, ?_⟩
    · intro r hr
      have := hall r hr
      unfold smpE at this
      split at this
      · cases this
      · omega
    · intro r hr x hx
      have := hall r hr
      unfold smpE at this
      split at this
      · cases this
      · split at this
        · rename_i ha; exact List.all_eq_true.1 ha x hx
        · cases this
    · intro s hsk
      have := List.all_eq_true.1 hsm s hsk
      unfold smallS at this
      simpa using this
  · cases h

theorem algW_short (rows : List (List Nat)) (sk : List Int) (h : ∀ r ∈ rows, r.length ≤ 4096) : ∀ r ∈ algW rows sk, r.length ≤ maxLen := by
  intro r hr
  obtain ⟨i, hi, rfl⟩ := List.mem_iff_getElem.1 hr
  have hi' : i < (List.zipWith (algw (frT sk) (toT rows sk)) rows sk).length := hi
  rw [List.length_zipWith] at hi'
  have e : (algW rows sk)[i] = algw (frT sk) (toT rows sk) (rows[i]'(by omega)) (sk[i]'(by omega)) := by
    simp only [algW, List.getElem_zipWith]
  rw [e]
  have h4 := h _ (List.getElem_mem (l := rows) (n := i) (by omega))
  unfold algw maxLen
  rw [List.length_take, List.length_drop]
  omega

/-- what Aligned answers: its error, and the records as they are laid, their zeros as they are -/
theorem aligned_all (A A' : Option Addr) (n c n' c' N : Nat) (E : Int) (RW : List (List Nat)) (rows : List (List Nat)) (sk : List Int) (w : World) (h : RowsR f32v w w.heap.size A n rows) (h' : Reads w w.heap.size 1 A' n' (sk.map i64v)) (hn : n ≤ 4096) (hn' : n' ≤ 4096)
    (hc : (recE rows sk ≠ 0 ∧ E = recE rows sk ∧ RW = [] ∧ N = 0) ∨ (recE rows sk = 0 ∧ ((toT rows sk ≤ frT sk ∧ E = 16 ∧ RW = [] ∧ N = 0) ∨ (¬ toT rows sk ≤ frT sk ∧ E = 0 ∧ RW = algW rows sk ∧ N = n)))) :
    Calls Tryz.prog 41 #[.slice A n c, .slice A' n' c'] w fun e w' => ∃ A2 c2, e = .returned (.tuple #[.slice A2 N c2, .int .i64 E]) ∧ RowsR f32v w' w'.heap.size A2 N (RW.map (List.map posz)) ∧ Below w.heap.size w w' := by
  have hnil : ∀ W : World, RowsR f32v W W.heap.size none 0 ((([] : List (List Nat)).map (List.map posz))) := fun W => ⟨rfl, [], Reads.none_, fun i hi => absurd hi (by simp)⟩
  rcases hc with ⟨h1, rfl, rfl, rfl⟩ | ⟨h1, ⟨h2, rfl, rfl, rfl⟩ | ⟨h2, rfl, rfl, rfl⟩⟩
  · refine (aligned_err A A' n c n' c' rows sk w h h' hn hn' h1).mono ?_
    rintro e w' ⟨rfl, hb⟩
    exact ⟨none, 0, rfl, hnil w', hb⟩
  · have hv := recE_val rows sk h1
    obtain rfl : n' = n := by have := hv.same; have := h.1; have := h'.lenM; omega
    refine (aligned_short A A' n' c c' rows sk w h h' hv h2).mono ?_
    rintro e w' ⟨rfl, hb⟩
    exact ⟨none, 0, rfl, hnil w', hb⟩
  · have hv := recE_val rows sk h1
    obtain rfl : n' = N := by have := hv.same; have := h.1; have := h'.lenM; omega
    obtain ⟨m, hm⟩ : ∃ m : Nat, (m : Int) = toT rows sk - frT sk := ⟨(toT rows sk - frT sk).toNat, by omega⟩
    refine (aligned_ok A A' n' c c' m rows sk w h h' hv (by omega) hm).mono ?_
    rintro e w' ⟨G, gs, rfl, hlaid, hown, hb⟩
    have hal : (algR rows sk).length = n' := by rw [algR_W, List.length_map]; exact algW_len rows sk n' h.1 h'.lenM
    have h0 := hv.some_
    have hs0 : 0 < sk.length := by have := hv.same; omega
    have hm4 : m ≤ 4096 := by
      have e1 := toT_le rows sk hv.same 0 (by omega) hs0
      have e2 := frT_ge sk sk[0] (List.getElem_mem hs0)
      have e3 := hv.len rows[0] (List.getElem_mem (by omega))
      omega
    have hr := hlaid.rowsR hal hown hm4
    rw [algR_W] at hr
    exact ⟨_, _, rfl, hr, hb⟩

end Go.Proofs.YtboaojkblmddkaaGreatDoor
