/- probe's Words and Line of any arguments: one contract each. -/
import Derived.Test.YtboaojkblmddkaaGreatDoorBkCxPk1
import Derived.Test.YtboaojkblmddkaaGreatDoorCRf3
import Derived.Test.YtboaojkblmddkaaGreatDoorBkCxBk1
namespace Go.Proofs.YtboaojkblmddkaaGreatDoor
open Go.RowKit Bn

theorem wordsL_ok (rows : List (List Bool)) (h : linE rows = 0) : ∃ m, m ≤ 4096 ∧ 1 ≤ rows.length ∧ rows.length ≤ 16 ∧ (∀ r ∈ rows, r.length = m) ∧ wordsL rows = (List.range m).map (wd rows) := by
  obtain ⟨h1, h2, h0, h3, h4⟩ := linE_valid rows h
  refine ⟨rows[0].length, h3, h1, h2, h4, ?_⟩
  unfold wordsL
  rw [if_pos h]
  cases rows with
  | nil => simp at h0
  | cons r t => rfl
theorem wordsL_err (rows : List (List Bool)) (h : linE rows ≠ 0) : wordsL rows = [] := if_neg h

theorem wordsL_len (rows : List (List Bool)) : (wordsL rows).length ≤ 4096 := by
  by_cases hE : linE rows = 0
  · obtain ⟨m, h1, _, _, _, h5⟩ := wordsL_ok rows hE
    rw [h5]; simpa using h1
  · rw [wordsL_err rows hE]; simp

theorem words_any (A : Option Addr) (n c : Nat) (rows : List (List Bool)) (w : World) (h : RowsR boolv w w.heap.size A n rows) (hn : n ≤ maxLen) :
    Calls Tryz.prog 27 #[.slice A n c] w fun e w' => ∃ A' c', e = .returned (.tuple #[.slice A' (wordsL rows).length c', .int .i64 (linE rows)]) ∧ Reads w' w'.heap.size 1 A' (wordsL rows).length ((wordsL rows).map u16v) ∧ Below w.heap.size w w' := by
  by_cases hE : linE rows = 0
  · obtain ⟨m, h1, h2, h3, h4, h5⟩ := wordsL_ok rows hE
    have hl := h.1
    refine (words_ok A n c m rows w h (by omega) (by omega) h4 h1).mono ?_
    rintro e w' ⟨g, rfl, ho, hb⟩
    have hlen : (wordsL rows).length = m := by rw [h5]; simp
    refine ⟨some ⟨g, 0, none⟩, m, by rw [hlen, hE], ?_, hb⟩
    rw [hlen, h5]
    exact Reads.of_own ho
  · refine (words_err A n c rows w h hn hE).mono ?_
    rintro e w' ⟨rfl, hb⟩
    refine ⟨none, 0, by rw [wordsL_err rows hE]; rfl, ?_, hb⟩
    rw [wordsL_err rows hE]
    exact Reads.none_

/-- a line of words, none where an argument is not valid -/
def lineL (ws : List Nat) (N : Nat) (b : Int) : List Bool := if lnE N b = 0 then bitL ws b.toNat else []
theorem lineL_len (ws : List Nat) (N : Nat) (b : Int) : (lineL ws N b).length ≤ ws.length := by
  unfold lineL bitL
  split <;> simp
theorem lnE_cases (N : Nat) (b : Int) : (4096 < N ∧ lnE N b = 5) ∨ (N ≤ 4096 ∧ b < 0 ∧ lnE N b = 3) ∨ (N ≤ 4096 ∧ 15 < b ∧ lnE N b = 3) ∨ (N ≤ 4096 ∧ 0 ≤ b ∧ b ≤ 15 ∧ lnE N b = 0) := by
  unfold lnE rangeE
  by_cases h : 4096 < N
  · rw [if_pos h]; omega
  · rw [if_neg h]; split <;> omega

theorem line_any (A : Option Addr) (N c : Nat) (b : Int) (ws : List Nat) (w : World) (h : Reads w w.heap.size 1 A N (ws.map u16v)) (hws : ∀ x ∈ ws, x < 65536) :
    Calls Tryz.prog 29 #[.slice A N c, .int .i64 b] w fun e w' => ∃ A' c', e = .returned (.tuple #[.slice A' (lineL ws N b).length c', .int .i64 (lnE N b)]) ∧ Reads w' w'.heap.size 1 A' (lineL ws N b).length ((lineL ws N b).map boolv) ∧ Below w.heap.size w w' := by
  by_cases hE : lnE N b = 0
  · have hb : N ≤ 4096 ∧ 0 ≤ b ∧ b ≤ 15 := by have := lnE_cases N b; omega
    obtain ⟨k, rfl⟩ : ∃ k : Nat, b = k := ⟨b.toNat, by omega⟩
    refine (line_ok A N c k ws w h hws hb.1 (by omega)).mono ?_
    rintro e w' ⟨v, rfl, ho, hb'⟩
    have hl : lineL ws N (k : Int) = bitL ws k := by unfold lineL; rw [if_pos hE]; rfl
    have hlen : (bitL ws k).length = N := by unfold bitL; rw [List.length_map]; exact h.lenM
    obtain ⟨A', c', rfl, _, _, hr⟩ := own_slice ho
    rw [hl, hlen, hE]
    exact ⟨A', c', rfl, hr, hb'⟩
  · refine (line_err A N c b w hE).mono ?_
    rintro e w' ⟨rfl, hb⟩
    have hl : lineL ws N b = [] := if_neg hE
    rw [hl]
    exact ⟨none, 0, rfl, Reads.none_, hb⟩

end Go.Proofs.YtboaojkblmddkaaGreatDoor

/- The reference's Length. -/
namespace Go.Proofs.YtboaojkblmddkaaGreatDoor
open Go.RowKit

theorem rLength_any (a k : Int) (w : World) : Calls Tryz.prog 11 #[.int .i64 a, .int .i64 k] w fun e w' => e = .returned (.bool (decide (a ≤ k ∨ 4096 < a ∧ a ≤ 4098))) ∧ w = w' := by
  by_cases h1 : a ≤ k
  · have d1 : decide (a ≤ k) = true := by simpa using h1
    have hv : decide (a ≤ k ∨ 4096 < a ∧ a ≤ 4098) = true := decide_eq_true (Or.inl h1)
    rw [hv]
    clear hv
    go_enter Tryz.func11, Tryz.ntmps11
    go_wp2
    go_ret
    exact ⟨rfl, rfl⟩
  · have d1 : decide (a ≤ k) = false := by simpa using h1
    by_cases h2 : 4096 < a
    · have d2 : decide (4096 < a) = true := by simpa using h2
      have hv : decide (a ≤ k ∨ 4096 < a ∧ a ≤ 4098) = decide (a ≤ 4098) := by rw [Bool.eq_iff_iff]; simp; omega
      rw [hv]
      clear hv
      go_enter Tryz.func11, Tryz.ntmps11
      go_wp2
      go_ret
      exact ⟨rfl, rfl⟩
    · have d2 : decide (4096 < a) = false := by simpa using h2
      have hv : decide (a ≤ k ∨ 4096 < a ∧ a ≤ 4098) = false := decide_eq_false (by omega)
      rw [hv]
      clear hv
      go_enter Tryz.func11, Tryz.ntmps11
      go_wp2
      go_ret
      exact ⟨rfl, rfl⟩

end Go.Proofs.YtboaojkblmddkaaGreatDoor

/- ProbeWords: where a guard strikes. -/
namespace Go.Proofs.YtboaojkblmddkaaGreatDoor
open Go.RowKit Bn

/-- is a length one that the law takes -/
def LenOk (k : Nat) (n : Int) : Prop := (k : Int) ≤ n ∨ 4096 < (k : Int) ∧ (k : Int) ≤ 4098
instance (k : Nat) (n : Int) : Decidable (LenOk k n) := by unfold LenOk; exact inferInstance

set_option maxHeartbeats 2000000 in
set_option maxRecDepth 100000 in
/-- a guard of the law turns the input away -/
theorem words_turned (A A' : Option Addr) (n c N c' : Nat) (b : Int) (rows : List (List Bool)) (w : World) (KV : AwakeOk) (hT : Tabs w) (h : RowsR boolv w w.heap.size A n rows) (hn : n ≤ maxLen)
    (hg : 18 < n ∨ ¬ LenOk N 64 ∨ ∃ r ∈ rows, ¬ LenOk r.length 40) :
    Calls Tryz.prog 5 #[.slice A n c, .slice A' N c', .int .i64 b] w fun e w' => e = .returned (.bool true) ∧ Below w.heap.size w w' := by
  have HLE := Lib.hid (fun W => rLength_any N 64 W)
  have HL4 := Lib.hid (fun (k : Nat) W => rLength_any k 40 W)
  have KV := Lib.hid KV
  unfold maxLen at hn
  by_cases h1 : 18 < n
  · have d1 : decide ((18 : Int) < (n : Int)) = true := by simpa using (show (18 : Int) < n from by omega)
    clear hg h HLE HL4
    go_enter Tryz.func5, Tryz.ntmps5
    go_wp2_with fail
    refine (KV.out _ hT).mono ?_
    rintro e w2 ⟨rfl, hb2⟩
    go_wp2_with fail
    go_ret
    exact ⟨rfl, hb2⟩
  · have d1 : decide ((18 : Int) < (n : Int)) = false := by simpa using (show ¬ ((18 : Int) < n) from by omega)
    by_cases h2 : LenOk N 64
    · obtain ⟨r, hr, hrl⟩ := (hg.resolve_left h1).resolve_left (fun h => h h2)
      unfold LenOk at h2
      rw [decide_eq_true h2] at HLE
      have HBAD : Hid (∃ i, ∃ h : i < rows.length, ¬ LenOk rows[i].length 40) := by
        obtain ⟨i, hi, rfl⟩ := List.mem_iff_getElem.1 hr
        exact ⟨i, hi, hrl⟩
      have HLN := Lib.hid h.1
      clear hg hr hrl h2
      go_enter Tryz.func5, Tryz.ntmps5
      go_wp2_with fail
      refine (HLE.out w).mono ?_
      rintro e w1 ⟨rfl, rfl⟩
      go_wp2
      go_loopg [29] n (fun q s W => ∃ k : Nat, k ≤ n ∧ s = .int .i64 k ∧ n - k ≤ q ∧ Hid (∀ (i : Nat) (hi : i < rows.length), i < k → LenOk rows[i].length 40) ∧ W = w)
      case atStart => exact ⟨0, Nat.zero_le _, rfl, by omega, fun i hi h => absurd h (by omega), rfl⟩
      case round =>
        obtain ⟨k, hk, rfl, hq, hf, hW⟩ := hrel
        subst hW
        by_cases h0 : k < n
        · obtain ⟨ad, hkl, A1, c1, rfl, hbb, hcell, hlc, hcm, hrd⟩ := h.row h0
          have HNX := Lib.hid (fun (e : LenOk rows[k].length 40) => show ∀ (i : Nat) (hi : i < rows.length), i < k + 1 → LenOk rows[i].length 40 from fun i hi hik => by
            rcases Nat.lt_or_ge i k with h9 | h9
            · exact hf.out i hi h9
            · obtain rfl : i = k := by omega
              exact e)
          clear hrd hf
          generalize rows[k].length = L at *
          by_cases he : LenOk L 40
          · have HN2 := Lib.hid (HNX.out he)
            have HC := HL4.out L wr
            unfold LenOk at he
            rw [decide_eq_true he] at HC
            have HC := Lib.hid HC
            clear he
            go_wp2_with fail
            refine HC.out.mono ?_
            rintro e w1 ⟨rfl, rfl⟩
            go_wp2
            go_roundg (n - (k + 1))
            case measure => omega
            case rel => exact ⟨k + 1, by omega, by go_num, Nat.le_refl _, HN2.out, rfl⟩
          · have HC := HL4.out L wr
            unfold LenOk at he
            rw [decide_eq_false he] at HC
            have HC := Lib.hid HC
            clear he
            go_wp2_with fail
            refine HC.out.mono ?_
            rintro e w1 ⟨rfl, rfl⟩
            go_wp2_with fail
            refine (KV.out _ hT).mono ?_
            rintro e w2 ⟨rfl, hb2⟩
            go_wp2_with fail
            go_ret
            exact ⟨rfl, hb2⟩
        · exact absurd HBAD.out (fun ⟨i, hi, hb⟩ => hb (hf.out i hi (by have := HLN.out; omega)))
    · have h2' := h2
      unfold LenOk at h2
      rw [decide_eq_false h2] at HLE
      clear hg h h2 h2' HL4
      go_enter Tryz.func5, Tryz.ntmps5
      go_wp2_with fail
      refine (HLE.out w).mono ?_
      rintro e w1 ⟨rfl, rfl⟩
      go_wp2_with fail
      refine (KV.out _ hT).mono ?_
      rintro e w2 ⟨rfl, hb2⟩
      go_wp2_with fail
      go_ret
      exact ⟨rfl, hb2⟩

end Go.Proofs.YtboaojkblmddkaaGreatDoor

/- ProbeBlocks: where a guard strikes; helpers of the law. -/
namespace Go.Proofs.YtboaojkblmddkaaGreatDoor
open Go.RowKit Bn

theorem own_empty16 (w : World) (B : Nat) (e : TypeId) (hB : B ≤ w.heap.size) : (w.alloc (.cells #[] e)).ownsRow B e 16 (.slice (some ⟨w.heap.size, 0, none⟩) 0 0) 0 [] :=
  own_of_block (heap_alloc_new w _) hB (Nat.zero_le _) rfl
theorem cells_over16 {w : World} {B k : Nat} {a : Addr} {xs : List Value} (h : Reads w B 16 (some a) k xs) : ∀ j u, xs[j]? = some u → w.cell? (a.add j) = some u := by
  intro j u hj
  have hl := h.1
  have hjl : j < xs.length := (List.getElem?_eq_some_iff.1 hj).1
  obtain ⟨ad, e, _, hc⟩ := h.2 (by omega)
  injection e with e
  subst e
  exact hc j u hj
theorem range_alloc (w : World) (t : TypeId) (Z : Array Value) : (w.alloc (.cells Z t)).rangeAt w.heap.size 0 Z.toList := by
  intro j v hj
  rw [cell_of_row _ w.heap.size _ Z t (0, 0) (heap_alloc_new w _), Nat.zero_add]
  simpa using hj

/-- the error of blocks -/
def blkE2 (N : Nat) : Int := if 4096 < N then 5 else 0

theorem blocks_own (A : Option Addr) (N c : Nat) (ws : List Nat) (w : World) (h : Reads w w.heap.size 1 A N (ws.map u16v)) (hnc : N ≤ c) (hc : c ≤ maxLen) :
    Calls Tryz.prog 36 #[.slice A N c] w fun e w' => ∃ A' c', e = .returned (.tuple #[.slice A' (blksN N) c', .int .i64 (blkE2 N)]) ∧ Reads w' w'.heap.size 16 A' (blksN N) ((blksL ws N).map u16v) ∧ (0 < blksN N → ∃ g, A' = some ⟨g, 0, none⟩) ∧ Below w.heap.size w w' := by
  by_cases hN : 4096 < N
  · refine (blocks_err A N c w hN).mono ?_
    rintro e w' ⟨rfl, hb⟩
    have e1 : blksN N = 0 := if_pos hN
    have e2 : blksL ws N = [] := if_pos hN
    have e3 : blkE2 N = 5 := if_pos hN
    rw [e1, e2, e3]
    exact ⟨none, 0, rfl, Reads.none_, fun h => absurd h (Nat.lt_irrefl _), hb⟩
  · refine (blocks_ok A N c ws w h (by omega) hnc hc).mono ?_
    rintro e w' ⟨g, rfl, ho, hb⟩
    have e1 : blksN N = (N + 15) / 16 := if_neg hN
    have e2 : blksL ws N = ws ++ List.replicate (16 * ((N + 15) / 16) - N) 0 := if_neg hN
    have e3 : blkE2 N = 0 := if_neg hN
    rw [e1, e2, e3, List.map_append, List.map_replicate]
    obtain ⟨A', c', hv, _, _, hr⟩ := own_slice ho
    injection hv with a1 a2 a3
    subst a1 a3
    exact ⟨_, _, rfl, hr, fun _ => ⟨g, rfl⟩, hb⟩

theorem rBlocks_any (A : Option Addr) (N c : Nat) (ws : List Nat) (w : World) (h : Reads w w.heap.size 1 A N (ws.map u16v)) (hN : N ≤ 4096) :
    Calls Tryz.prog 38 #[.slice A N c] w fun e w' => e = .returned (.slice (some ⟨w.heap.size, 0, none⟩) (blksN N) (blksN N)) ∧ Reads w' w'.heap.size 16 (some ⟨w.heap.size, 0, none⟩) (blksN N) ((blksL ws N).map u16v) ∧ Below w.heap.size w w' := by
  have e1 : blksN N = (N + 15) / 16 := if_neg (by omega)
  have e2 : blksL ws N = ws ++ List.replicate (16 * ((N + 15) / 16) - N) 0 := if_neg (by omega)
  rw [e1, e2]
  refine (rBlocks_ok A N c ws w h hN).mono ?_
  rintro e w' ⟨rfl, ho, hb⟩
  exact ⟨rfl, Reads.of_own ho, hb⟩

theorem rBlocks_16 (A : Option Addr) (c : Nat) (ws : List Nat) (w : World) (h : Reads w w.heap.size 1 A 16 (ws.map u16v)) :
    Calls Tryz.prog 38 #[.slice A 16 c] w fun e w' => e = .returned (.slice (some ⟨w.heap.size, 0, none⟩) 1 1) ∧ w'.rangeAt w.heap.size 0 (ws.map u16v) ∧ Below w.heap.size w w' := by
  have hl := h.lenM
  have e1 : (16 + 15) / 16 = 1 := by decide
  have H := rBlocks_ok A 16 c ws w h (by omega)
  rw [e1] at H
  refine H.mono ?_
  rintro e w' ⟨rfl, ho, hb⟩
  refine ⟨rfl, ?_, hb⟩
  have hr := Reads.of_own ho
  rw [show 16 * 1 - 16 = 0 from rfl, List.replicate_zero, List.append_nil] at hr
  have := range_at w.heap.size 1 ws w' _ hr 0 (by omega)
  rw [show ((ws.drop (16 * 0)).take 16) = ws from by rw [Nat.mul_zero, List.drop_zero, List.take_of_length_le (by omega)]] at this
  exact this

set_option maxHeartbeats 1000000 in
set_option maxRecDepth 100000 in
theorem blocks_turned (A A' : Option Addr) (N c k c' : Nat) (n : Int) (w : World) (KV : AwakeOk) (hT : Tabs w) (hk : k ≤ maxLen)
    (hg : ¬ LenOk N 64 ∨ 6 < k ∧ k ≤ 256 ∨ 258 < k) :
    Calls Tryz.prog 6 #[.slice A N c, .slice A' k c', .int .i64 n] w fun e w' => e = .returned (.bool true) ∧ Below w.heap.size w w' := by
  have HLE := Lib.hid (fun W => rLength_any N 64 W)
  have KV := Lib.hid KV
  unfold maxLen at hk
  by_cases h1 : LenOk N 64
  · have hg := hg.resolve_left (fun h => h h1)
    unfold LenOk at h1
    rw [decide_eq_true h1] at HLE
    have d1 : decide ((6 : Int) < (k : Int)) = true := by simpa using (show (6 : Int) < k from by omega)
    by_cases h2 : k ≤ 256
    · have d2 : decide ((k : Int) ≤ 256) = true := by simpa using (show (k : Int) ≤ 256 from by omega)
      clear hg h1 h2
      go_enter Tryz.func6, Tryz.ntmps6
      go_wp2_with fail
      refine (HLE.out _).mono ?_
      rintro e w1 ⟨rfl, rfl⟩
      go_wp2_with fail
      refine (KV.out _ hT).mono ?_
      rintro e w2 ⟨rfl, hb2⟩
      go_wp2_with fail
      go_ret
      exact ⟨rfl, hb2⟩
    · have d2 : decide ((k : Int) ≤ 256) = false := by simpa using (show ¬ (k : Int) ≤ 256 from by omega)
      have d3 : decide ((258 : Int) < (k : Int)) = true := by simpa using (show (258 : Int) < k from by omega)
      clear hg h1 h2
      go_enter Tryz.func6, Tryz.ntmps6
      go_wp2_with fail
      refine (HLE.out _).mono ?_
      rintro e w1 ⟨rfl, rfl⟩
      go_wp2_with fail
      refine (KV.out _ hT).mono ?_
      rintro e w2 ⟨rfl, hb2⟩
      go_wp2_with fail
      go_ret
      exact ⟨rfl, hb2⟩
  · unfold LenOk at h1
    rw [decide_eq_false h1] at HLE
    clear hg h1
    go_enter Tryz.func6, Tryz.ntmps6
    go_wp2_with fail
    refine (HLE.out _).mono ?_
    rintro e w1 ⟨rfl, rfl⟩
    go_wp2_with fail
    refine (KV.out _ hT).mono ?_
    rintro e w2 ⟨rfl, hb2⟩
    go_wp2_with fail
    go_ret
    exact ⟨rfl, hb2⟩

end Go.Proofs.YtboaojkblmddkaaGreatDoor
