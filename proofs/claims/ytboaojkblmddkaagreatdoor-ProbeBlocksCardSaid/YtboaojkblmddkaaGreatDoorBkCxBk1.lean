/- ProbeBlocks: Block and Blocks of any words; blocks opened. -/
import Derived.Test.YtboaojkblmddkaaGreatDoorBkCxPk1
import Derived.Test.YtboaojkblmddkaaGreatDoorCAwc
import Derived.Test.YtboaojkblmddkaaGreatDoorCAd2
import Derived.Test.YtboaojkblmddkaaGreatDoorCUnp
import Derived.BigQuiet
import Derived.Deep.LoopGhost
import Derived.Deep.MidRow
namespace Go.Proofs.YtboaojkblmddkaaGreatDoor
open Go.RowKit Bn

/-- the error of a block -/
def blkE (N : Nat) : Int := if 4096 < N then 5 else if N = 16 then 0 else 2
/-- the words of a block, zeros where there is none -/
def blkR (ws : List Nat) (N : Nat) : List Nat := if N = 16 then ws else List.replicate 16 0

set_option maxHeartbeats 1000000 in
theorem block_err (A : Option Addr) (N c : Nat) (w : World) (hN : N ≠ 16) (hn : N ≤ maxLen) :
    Calls Tryz.prog 35 #[.slice A N c] w fun e w' => e = .returned (.tuple #[.agg ((List.replicate 16 0).map u16v).toArray, .int .i64 (blkE N)]) ∧ Below w.heap.size w w' := by
  have hz : ((List.replicate 16 0).map u16v).toArray = #[.int .u16 0, .int .u16 0, .int .u16 0, .int .u16 0, .int .u16 0, .int .u16 0, .int .u16 0, .int .u16 0, .int .u16 0, .int .u16 0, .int .u16 0, .int .u16 0, .int .u16 0, .int .u16 0, .int .u16 0, .int .u16 0] := rfl
  rw [hz]
  have HM := catMost_u16 A N c 4096
  by_cases h : 4096 < N
  · have hv : blkE N = 5 := if_pos h
    rw [hv]
    rw [if_pos (by omega)] at HM
    have HM := Lib.hid HM
    clear h hN hv
    go_enter Tryz.func35, Tryz.ntmps35
    go_wp2_with fail
    refine (HM.out _).mono ?_
    rintro e w1 ⟨rfl, rfl⟩
    go_wp2_with fail
    refine bodyPost_ret (v := .tuple #[.agg #[.int .u16 0, .int .u16 0, .int .u16 0, .int .u16 0, .int .u16 0, .int .u16 0, .int .u16 0, .int .u16 0, .int .u16 0, .int .u16 0, .int .u16 0, .int .u16 0, .int .u16 0, .int .u16 0, .int .u16 0, .int .u16 0], .int .i64 5]) (by simp [results, Tryz.results35, go_sem]) rfl ⟨rfl, (Below.refl _ _).alloc (Nat.le_refl _) _⟩
  · have hv : blkE N = 2 := (if_neg h).trans (if_neg hN)
    rw [hv]
    rw [if_neg (by omega)] at HM
    have HM := Lib.hid HM
    have d1 : ((N : Int) != 16) = true := by rw [bne_iff_ne]; omega
    clear h hv
    go_enter Tryz.func35, Tryz.ntmps35
    go_wp2_with fail
    refine (HM.out _).mono ?_
    rintro e w1 ⟨rfl, rfl⟩
    go_wp2_with fail
    refine bodyPost_ret (v := .tuple #[.agg #[.int .u16 0, .int .u16 0, .int .u16 0, .int .u16 0, .int .u16 0, .int .u16 0, .int .u16 0, .int .u16 0, .int .u16 0, .int .u16 0, .int .u16 0, .int .u16 0, .int .u16 0, .int .u16 0, .int .u16 0, .int .u16 0], .int .i64 2]) (by simp [results, Tryz.results35, go_sem]) rfl ⟨rfl, (Below.refl _ _).alloc (Nat.le_refl _) _⟩

theorem block_any (N : Nat) (v : Value) (ws : List Nat) (w : World) (h : w.ownsRow 0 63 1 v N (ws.map u16v)) :
    Calls Tryz.prog 35 #[v] w fun e w' => e = .returned (.tuple #[.agg ((blkR ws N).map u16v).toArray, .int .i64 (blkE N)]) ∧ Below w.heap.size w w' := by
  obtain ⟨A, c, hv, h1, h2, hr⟩ := own_slice h
  by_cases hN : N = 16
  · have he : blkE N = 0 := by unfold blkE; rw [if_neg (by omega), if_pos hN]
    have hb : blkR ws N = ws := if_pos hN
    rw [he, hb]
    have hl : ws.length = 16 := by have := hr.lenM; omega
    rcases h.2 with ⟨_, h0⟩ | ⟨g, cap, cur, hvv, _, hg, _⟩
    · omega
    · subst hvv
      injection hv with e1 e2 e3
      subst e1 e3
      subst hN
      have hlt : g < w.heap.size := (Array.getElem?_eq_some_iff.1 hg).1
      refine block_ok g cap ws w ?_ hl hlt
      intro j u hj
      obtain ⟨ad, e, _, hc⟩ := hr.2 (by omega)
      injection e with e
      subst e
      have := hc j u hj
      rwa [Addr.add_mid] at this
  · have hb : blkR ws N = List.replicate 16 0 := if_neg hN
    rw [hb]
    subst hv
    exact block_err A N c w hN (by omega)

/-- the words of blocks, as they lie -/
def blksL (ws : List Nat) (N : Nat) : List Nat := if 4096 < N then [] else ws ++ List.replicate (16 * ((N + 15) / 16) - N) 0
def blksN (N : Nat) : Nat := if 4096 < N then 0 else (N + 15) / 16

set_option maxHeartbeats 1000000 in
theorem blocks_err (A : Option Addr) (N c : Nat) (w : World) (hN : 4096 < N) :
    Calls Tryz.prog 36 #[.slice A N c] w fun e w' => e = .returned (.tuple #[.slice none 0 0, .int .i64 5]) ∧ Below w.heap.size w w' := by
  have HM := catMost_u16 A N c 4096
  rw [if_pos (by omega)] at HM
  have HM := Lib.hid HM
  go_enter Tryz.func36, Tryz.ntmps36
  go_wp2_with fail
  refine (HM.out _).mono ?_
  rintro e w1 ⟨rfl, rfl⟩
  go_wp2
  go_ret2
  exact ⟨rfl, Below.refl _ _⟩

theorem blocks_any (A : Option Addr) (N c : Nat) (ws : List Nat) (w : World) (h : Reads w w.heap.size 1 A N (ws.map u16v)) (hnc : N ≤ c) (hc : c ≤ maxLen) :
    Calls Tryz.prog 36 #[.slice A N c] w fun e w' => ∃ A' c', e = .returned (.tuple #[.slice A' (blksN N) c', .int .i64 (if 4096 < N then 5 else 0)]) ∧ Reads w' w'.heap.size 16 A' (blksN N) ((blksL ws N).map u16v) ∧ Below w.heap.size w w' := by
  by_cases hN : 4096 < N
  · refine (blocks_err A N c w hN).mono ?_
    rintro e w' ⟨rfl, hb⟩
    have e1 : blksN N = 0 := if_pos hN
    have e2 : blksL ws N = [] := if_pos hN
    rw [e1, e2, if_pos hN]
    exact ⟨none, 0, rfl, Reads.none_, hb⟩
  · refine (blocks_ok A N c ws w h (by omega) hnc hc).mono ?_
    rintro e w' ⟨g, rfl, ho, hb⟩
    have e1 : blksN N = (N + 15) / 16 := if_neg hN
    have e2 : blksL ws N = ws ++ List.replicate (16 * ((N + 15) / 16) - N) 0 := if_neg hN
    rw [e1, e2, if_neg hN, List.map_append, List.map_replicate]
    obtain ⟨A', c', hv, _, _, hr⟩ := own_slice ho
    injection hv with a1 a2 a3
    subst a1 a3
    exact ⟨_, _, rfl, hr, hb⟩

end Go.Proofs.YtboaojkblmddkaaGreatDoor

/- What the law of lines needs of numbers: where a record begins, agreement of lines, highs and lows. -/
namespace Go.Proofs.YtboaojkblmddkaaGreatDoor
open Go.RowKit
open Flt

theorem frT_snoc (sk : List Int) (s : Int) : frT (sk ++ [s]) = max (frT sk) (-s) := by
  unfold frT
  rw [List.foldl_append]
  rfl
theorem fold_max_mem : ∀ (l : List Int) (a : Int), l.foldl (fun a s => max a (-s)) a = a ∨ ∃ s ∈ l, l.foldl (fun a s => max a (-s)) a = -s
  | [], a => .inl rfl
  | x :: t, a => by
    rw [List.foldl_cons]
    rcases fold_max_mem t (max a (-x)) with h | ⟨s, hs, h⟩
    · rw [h]
      rcases Int.le_total a (-x) with h1 | h1
      · exact .inr ⟨x, by simp, by omega⟩
      · exact .inl (by omega)
    · exact .inr ⟨s, by simp [hs], h⟩
/-- the first common time is some record's beginning -/
theorem frT_mem (sk : List Int) (hs : ∀ s ∈ sk, -1000 ≤ s ∧ s ≤ 1000) (h0 : 0 < sk.length) : ∃ s ∈ sk, frT sk = -s := by
  rcases fold_max_mem sk (-1000) with h | h
  · have h1 := frT_ge sk sk[0] (List.getElem_mem h0)
    have h2 := hs sk[0] (List.getElem_mem h0)
    have h3 : frT sk = -1000 := h
    exact ⟨sk[0], List.getElem_mem h0, by omega⟩
  · exact h
theorem beg_eq (sk : List Int) (hs : ∀ s ∈ sk, -1000 ≤ s ∧ s ≤ 1000) (h0 : 0 < sk.length) (x b : Int) (h1 : b ≤ frT sk + x) (h2 : ∀ j (h : j < sk.length), x - sk[j] ≤ b) : b = frT sk + x := by
  obtain ⟨s, hm, he⟩ := frT_mem sk hs h0
  obtain ⟨j, hj, rfl⟩ := List.getElem_of_mem hm
  have := h2 j hj
  omega
theorem key_of_fge {lo hi : Nat} (h1 : fin Ieee.single lo = true) (h2 : fin Ieee.single hi = true) (h3 : fge lo hi = false) : key Ieee.single lo < key Ieee.single hi := by
  rw [fge_key h1 h2] at h3
  have := of_decide_eq_false h3
  omega
theorem alg1_fin (fr tt s : Int) (r : List Nat) (h : ∀ x ∈ r, fin Ieee.single x = true) : ∀ x ∈ alg1 fr tt r s, fin Ieee.single x = true := by
  intro x hx
  unfold alg1 at hx
  obtain ⟨y, hy, rfl⟩ := List.mem_map.1 hx
  exact posz_fin (h y (List.mem_of_mem_drop (List.mem_of_mem_take hy)))
/-- once a sample has decided, the line of the whole record is the line of the aligned one -/
theorem lines_agree (lo hi b : Nat) (fr tt s : Int) (R : List Nat) (hR : ∀ x ∈ R, fin Ieee.single x = true) (h1 : fin Ieee.single lo = true) (h2 : fin Ieee.single hi = true) (h3 : fge lo hi = false) (hb : (b : Int) = fr + s) (hft : fr ≤ tt) (hle : tt + s ≤ (R.length : Int))
    (k : Nat) (hk : k < (alg1 fr tt R s).length) :
    b + k < R.length ∧ (decd lo hi ((alg1 fr tt R s).take (k + 1)) = true → digS lo hi false (R.take (b + k + 1)) = digS lo hi false ((alg1 fr tt R s).take (k + 1))) := by
  have hlen : (alg1 fr tt R s).length = (tt - fr).toNat := by
    unfold alg1
    rw [List.length_map, List.length_take, List.length_drop]
    omega
  have hfin := alg1_fin fr tt s R hR
  have hkey := key_of_fge h1 h2 h3
  refine ⟨by omega, fun hd => ?_⟩
  refine dig_agree lo hi false false R (alg1 fr tt R s) b ?_ ?_ k hk hd
  · intro i hi2
    have hlt : b + i < R.length := by omega
    refine ⟨hlt, ?_⟩
    have e : (alg1 fr tt R s)[i] = posz R[b + i] := by
      simp only [alg1, List.getElem_map, List.getElem_take, List.getElem_drop]
      have eb : (fr + s).toNat = b := by omega
      simp only [eb]
    rw [e]
    exact alike_posz (hR _ (List.getElem_mem hlt)) h1 h2
  · intro i hi2 hf
    exact low_not_high (hfin _ (List.getElem_mem hi2)) h1 h2 hkey hf
/-- a true line's sample is not low; a false one's not high -/
theorem line_sound (lo hi : Nat) (l : List Nat) (hl : ∀ x ∈ l, fin Ieee.single x = true) (h1 : fin Ieee.single lo = true) (h2 : fin Ieee.single hi = true) (h3 : fge lo hi = false) (v : Bool) (k : Nat) (hk : k < l.length) :
    (digS lo hi v (l.take (k + 1)) = true → fle l[k] lo = false) ∧ (digS lo hi v (l.take (k + 1)) = false → fge l[k] hi = false) := by
  rw [digS_succ _ _ _ _ _ hk]
  unfold digV
  constructor
  · intro h
    cases hf : fle l[k] lo
    · rfl
    · rw [low_not_high (hl _ (List.getElem_mem hk)) h1 h2 (key_of_fge h1 h2 h3) hf, fle_not_fgt hf] at h
      simp at h
  · intro h
    cases hg : fge l[k] hi
    · rfl
    · rw [hg] at h; simp at h

end Go.Proofs.YtboaojkblmddkaaGreatDoor

/- The words of lines: their number, their size, their bits. Plain. -/
namespace Go.Proofs.YtboaojkblmddkaaGreatDoor

theorem wlist_len (LS : List (List Bool)) (m : Nat) : ((List.range m).map (wd LS)).length = m := by simp
theorem wlist_lt (LS : List (List Bool)) (m : Nat) (h : LS.length ≤ 16) : ∀ x ∈ (List.range m).map (wd LS), x < 65536 := by
  intro x hx
  obtain ⟨i, _, rfl⟩ := List.mem_map.1 hx
  exact Nat.lt_of_lt_of_le (wd_lt LS i) (Nat.le_trans (Nat.pow_le_pow_right (by decide) h) (by decide))
theorem wlist_bit (LS : List (List Bool)) (m : Nat) (hm : ∀ r ∈ LS, r.length = m) (i : Nat) (h : i < LS.length) : bitL ((List.range m).map (wd LS)) i = LS[i] := by
  have hl := hm LS[i] (List.getElem_mem h)
  unfold bitL
  apply List.ext_getElem
  · simp [hl]
  · intro j h1 h2
    have hb := wd_bit LS j i h
    have e1 : LS.getD i [] = LS[i] := by simp [List.getD, List.getElem?_eq_getElem h]
    have e2 : LS[i].getD j false = LS[i][j] := by simp [List.getD, List.getElem?_eq_getElem h2]
    rw [e1, e2] at hb
    simp only [List.getElem_map, List.getElem_range, hb]
    cases LS[i][j] <;> simp
end Go.Proofs.YtboaojkblmddkaaGreatDoor

/- probe's Unpack of no blocks; where a guard of ProbePacks strikes. -/
namespace Go.Proofs.YtboaojkblmddkaaGreatDoor
open Go.RowKit Bn

/-- the chapter's examples answer -/
def AwakeOk : Prop := ∀ W : World, Tabs W → Calls Tryz.prog 12 #[] W fun e w' => e = .returned (.bool true) ∧ Below W.heap.size W w'

set_option maxHeartbeats 1000000 in
set_option maxRecDepth 100000 in
theorem unpack_nil (A : Option Addr) (c : Nat) (w : World) :
    Calls Tryz.prog 37 #[.slice A 0 c, .int .i64 0] w fun e w' => ∃ A', e = .returned (.tuple #[.slice A' 0 0, .int .i64 0]) ∧ Below w.heap.size w w' := by
  obtain ⟨i0, hi0, hz0, hz1, hz2⟩ := info_parts info_u16
  have H1 := catMost_block A 0 c 256 w
  have H2 := cinRange_any 0 0 4096 w
  have hr : rangeE 0 0 4096 = 0 := by decide
  rw [hr] at H2
  have H3 := fun W : World => blocksFor_any 0 W (by omega)
  have K1 := Lib.hid H1
  have K2 := Lib.hid H2
  have K3 := Lib.hid H3
  clear H1 H2 H3 hr
  go_enter Tryz.func37, Tryz.ntmps37
  go_wp2_with fail
  refine K1.out.mono ?_
  rintro e w1 ⟨rfl, rfl⟩
  go_wp2_with fail
  refine K2.out.mono ?_
  rintro e w1 ⟨rfl, rfl⟩
  go_wp2_with fail
  refine (cfirst_two 0 0 w 29 w.heap.size rfl).mono ?_
  rintro e w1 ⟨rfl, rfl⟩
  have hb1 : Below w.heap.size w (w.alloc (.cells #[.int .i64 0, .int .i64 0] 29)) := (Below.refl _ _).alloc (Nat.le_refl _) _
  generalize w.alloc (.cells #[.int .i64 0, .int .i64 0] 29) = w1 at *
  go_wp2_with fail
  refine (K3.out _).mono ?_
  rintro e w2 ⟨rfl, rfl⟩
  go_wp2_with (at_make; refine wpList_make_own _ rfl _ _ 51 rfl w1.heap.size 63 i0 (.int .u16 0) 1 Tryz.underlying51 hi0 hz0 hz1 _ _ _ 0 rfl rfl (by omega) ?b2 ?b3 (Nat.le_refl _) ?_)
  case b2 => rw [hz2]; omega
  case b3 => unfold maxLen; omega
  intro w2 hown0 hgrow0
  have hB2 : Below w.heap.size w w2 := hb1.trans ((gnone hgrow0 (Nat.le_refl _)).mono hb1.size)
  clear hgrow0 hown0
  go_wp2
  go_loopg [7, 30] 0 (fun q v s W => v = .slice (some ⟨w1.heap.size, 0, none⟩) 0 0 ∧ s = .int .i64 0 ∧ W = w2)
  case atStart => exact ⟨rfl, rfl, rfl⟩
  case round =>
    obtain ⟨rfl, rfl, hW⟩ := hrel
    obtain rfl : w2 = wr := hW.symm
    clear hW
    go_wp2_with fail
    refine (containsFunc_zero _ 0 _ w2 ⟨rfl, fun h0 => absurd h0 (by omega)⟩ (by omega)).mono ?_
    rintro e w4 ⟨rfl, rfl⟩
    go_wp2_with fail
    go_ret2
    exact ⟨_, rfl, hB2⟩

theorem unpack_all (g n c : Nat) (ws : List Nat) (F : List Value) (w : World) (hblk : w.heap[g]? = some (.cells F.toArray 64 (0, 0))) (hF : F = ws.map u16v ++ List.replicate (16 * ((n + 15) / 16) - n) (u16v 0)) (hl : ws.length = n) (hn : n ≤ 4096) :
    Calls Tryz.prog 37 #[.slice (some ⟨g, 0, none⟩) ((n + 15) / 16) c, .int .i64 n] w fun e w' => ∃ A', e = .returned (.tuple #[.slice A' n n, .int .i64 0]) ∧ Reads w' w'.heap.size 1 A' n (ws.map u16v) ∧ Below w.heap.size w w' := by
  by_cases h0 : 1 ≤ n
  · exact unpack_ok g n c ws F w hblk hF hl h0 hn
  · obtain rfl : n = 0 := by omega
    refine (unpack_nil (some ⟨g, 0, none⟩) c w).mono ?_
    rintro e w' ⟨A', he, hb⟩
    refine ⟨A', he, ⟨?_, fun h => absurd h (by omega)⟩, hb⟩
    rw [List.length_map, hl]

set_option maxHeartbeats 2000000 in
set_option maxRecDepth 100000 in
/-- a guard of the law turns the input away: the chapter's examples answer -/
theorem pack_turned (A : Option Addr) (n c : Nat) (rows : List (List Bool)) (w : World) (KV : AwakeOk) (hT : Tabs w) (h : RowsR boolv w w.heap.size A n rows) (hn : n ≤ maxLen)
    (hg : 16 < n ∨ linE rows ≠ 0 ∨ ∃ h0 : 0 < rows.length, 40 < rows[0].length) :
    Calls Tryz.prog 9 #[.slice A n c] w fun e w' => e = .returned (.bool true) ∧ Below w.heap.size w w' := by
  have K1 := Lib.hid (rCheckLines_any A n c rows w h hn)
  have KV := Lib.hid KV
  unfold maxLen at hn
  by_cases h1 : 16 < n
  · have d1 : decide ((16 : Int) < (n : Int)) = true := by simpa using (show (16 : Int) < n from by omega)
    clear hg K1 h
    go_enter Tryz.func9, Tryz.ntmps9
    go_wp2_with fail
    refine (KV.out _ hT).mono ?_
    rintro e w2 ⟨rfl, hb2⟩
    go_wp2_with fail
    go_ret
    exact ⟨rfl, hb2⟩
  · have d1 : decide ((16 : Int) < (n : Int)) = false := by simpa using (show ¬ ((16 : Int) < n) from by omega)
    by_cases h2 : linE rows = 0
    · obtain ⟨h3, h4⟩ := (hg.resolve_left h1).resolve_left (fun h => h h2)
      rw [h2] at K1
      have hrl := h.1
      obtain ⟨ad, hr0, A0, c0, rfl, hb0, hc0, _, _, _⟩ := h.row (k := 0) (by omega)
      have hzz : Addr.add ad 0 = ad := rfl
      rw [hzz] at hc0
      generalize rows[0].length = m at *
      have d2 : decide ((40 : Int) < (m : Int)) = true := by simpa using (show (40 : Int) < m from by omega)
      have hp0 : (0 : Int) < (n : Int) := by omega
      have hp1 : 0 < n := by omega
      clear hg h1 h2 hzz h hrl
      go_enter Tryz.func9, Tryz.ntmps9
      go_wp2_with fail
      refine K1.out.mono ?_
      rintro e w1 ⟨rfl, hb1⟩
      have hc1 := (hb1.cell hb0).trans hc0
      go_wp2_with fail
      refine (KV.out _ (hT.later hb1)).mono ?_
      rintro e w2 ⟨rfl, hb2⟩
      go_wp2_with fail
      go_ret
      exact ⟨rfl, hb1.trans (hb2.mono hb1.size)⟩
    · generalize linE rows = r at *
      have d3 : (r != 0) = true := by simpa using h2
      have d4 : (r == 0) = false := by simpa using h2
      have d5 : decide (r = 0) = false := by simpa using h2
      clear hg h1 h2 h
      go_enter Tryz.func9, Tryz.ntmps9
      go_wp2_with fail
      refine K1.out.mono ?_
      rintro e w1 ⟨rfl, hb1⟩
      go_wp2_with fail
      refine (KV.out _ (hT.later hb1)).mono ?_
      rintro e w2 ⟨rfl, hb2⟩
      go_wp2_with fail
      go_ret
      exact ⟨rfl, hb1.trans (hb2.mono hb1.size)⟩

end Go.Proofs.YtboaojkblmddkaaGreatDoor

/- probe's Unpack of any blocks. -/
namespace Go.Proofs.YtboaojkblmddkaaGreatDoor
open Go.RowKit Bn

theorem unp1_any (x : Nat) (w : World) : Calls Tryz.prog 74 #[.int .u16 x] w fun e w' => e = .returned (.bool (x != 0)) ∧ w = w' := by
  have hv : ((x : Int) != 0) = (x != 0) := by
    rw [Bool.eq_iff_iff]; simp
  have HV := Lib.hid hv
  clear hv
  go_enter Tryz.func74, Tryz.ntmps74
  go_wp2
  go_ret
  exact ⟨by rw [← HV.out]; rfl, rfl⟩

set_option maxHeartbeats 1000000 in
theorem indexFunc_any (A : Option Addr) (n c : Nat) (l : List Nat) (w : World) (h : Reads w w.heap.size 1 A n (l.map u16v)) (hn : n ≤ 65536) :
    Calls Tryz.prog 110 #[.slice A n c, .func (.func 74) #[] #[]] w fun e w' => ∃ k : Int, e = .returned (.int .i64 k) ∧ decide (0 ≤ k) = l.any (fun x => x != 0) ∧ w = w' := by
  have eg := unp1_enter
  have HC := Lib.hid (fun x => unp1_any x w)
  have HL := Lib.hid h.lenM
  go_enter Tryz.func110, Tryz.ntmps110
  go_wp2
  go_loopg [8] n (fun q s W => ∃ k : Nat, k ≤ n ∧ s = .int .i64 k ∧ n - k ≤ q ∧ Hid (l.any (fun x => x != 0) = (l.drop k).any (fun x => x != 0)) ∧ W = w)
  case atStart => exact ⟨0, Nat.zero_le _, rfl, by omega, rfl, rfl⟩
  case round =>
    obtain ⟨k, hk, rfl, hq, hd, hW⟩ := hrel
    subst hW
    by_cases h0 : k < n
    · obtain ⟨ad, hkl, rfl, hbb, hcell⟩ := h.cellM h0
      have hd2 := hd.out
      rw [List.drop_eq_getElem_cons hkl, List.any_cons] at hd2
      unfold u16v at hcell
      generalize l[k] = x at *
      have HC2 := HC.out x
      by_cases hx : (x != 0) = true
      · rw [hx] at HC2
        rw [hx, Bool.true_or] at hd2
        have HC2 := Lib.hid HC2
        have HD := Lib.hid hd2
        clear hx hd2 hd
        go_wp2_with (go_at_fn 74; refine HC2.out.mono ?_; rintro e w' ⟨rfl, rfl⟩)
        go_ret
        exact ⟨(k : Int), rfl, by rw [HD.out]; exact decide_eq_true (by omega), rfl⟩
      · have hx' : (x != 0) = false := by simpa using hx
        rw [hx'] at HC2
        rw [hx', Bool.false_or] at hd2
        have HC2 := Lib.hid HC2
        have HD := Lib.hid hd2
        clear hx hx' hd2 hd
        go_wp2_with (go_at_fn 74; refine HC2.out.mono ?_; rintro e w' ⟨rfl, rfl⟩)
        go_roundg (n - (k + 1))
        case measure => omega
        case rel => exact ⟨k + 1, by omega, by go_num, Nat.le_refl _, HD.out, rfl⟩
    · have hd2 := hd.out
      rw [List.drop_eq_nil_of_le (by have := HL.out; omega), List.any_nil] at hd2
      have HD := Lib.hid hd2
      clear hd2 hd
      go_wp2
      go_ret
      exact ⟨-1, rfl, by rw [HD.out]; rfl, rfl⟩
theorem containsFunc_any (A : Option Addr) (n c : Nat) (l : List Nat) (w : World) (h : Reads w w.heap.size 1 A n (l.map u16v)) (hn : n ≤ 65536) :
    Calls Tryz.prog 73 #[.slice A n c, .func (.func 74) #[] #[]] w fun e w' => e = .returned (.bool (l.any fun x => x != 0)) ∧ w = w' := by
  have HC := Lib.hid (indexFunc_any A n c l w h hn)
  clear h
  generalize (l.any fun x => x != 0) = z at *
  go_enter Tryz.func73, Tryz.ntmps73
  go_wp2_with fail
  refine HC.out.mono ?_
  rintro e w1 ⟨k, rfl, hk, rfl⟩
  have HK := Lib.hid hk
  clear hk
  go_wp2_with fail
  go_ret
  exact ⟨by rw [← HK.out]; rfl, rfl⟩

/-- the error of an unpacking -/
def unpE (k : Nat) (WS : List Nat) (n : Int) : Int :=
  if 256 < k then 5 else if rangeE n 0 4096 ≠ 0 then 3 else if (n.toNat + 15) / 16 ≠ k then 2 else if (WS.drop n.toNat).any (fun x => x != 0) = true then 1 else 0
def unpR (k : Nat) (WS : List Nat) (n : Int) : List Nat := if unpE k WS n = 0 then WS.take n.toNat else []

set_option maxHeartbeats 1000000 in
set_option maxRecDepth 100000 in
/-- arguments that do not fit -/
theorem unpack_bad (A : Option Addr) (k c : Nat) (n : Int) (WS : List Nat) (w : World) (hk : k ≤ maxLen) (hb : 256 < k ∨ rangeE n 0 4096 ≠ 0 ∨ (n.toNat + 15) / 16 ≠ k) :
    Calls Tryz.prog 37 #[.slice A k c, .int .i64 n] w fun e w' => e = .returned (.tuple #[.slice none 0 0, .int .i64 (unpE k WS n)]) ∧ Below w.heap.size w w' := by
  have H1 := catMost_block A k c 256
  have H2 := cinRange_any n 0 4096
  have hr3 : rangeE n 0 4096 = 0 ∨ rangeE n 0 4096 = 3 := by unfold rangeE; split <;> simp
  unfold maxLen at hk
  by_cases h1 : 256 < k
  · have hv : unpE k WS n = 5 := if_pos h1
    rw [hv]
    rw [if_pos (by omega)] at H1
    generalize rangeE n 0 4096 = r at *
    have K1 := Lib.hid H1
    have K2 := Lib.hid H2
    clear H1 H2 hb hv h1 hr3
    go_enter Tryz.func37, Tryz.ntmps37
    go_wp2_with fail
    refine (K1.out _).mono ?_
    rintro e w1 ⟨rfl, rfl⟩
    go_wp2_with fail
    refine (K2.out _).mono ?_
    rintro e w1 ⟨rfl, rfl⟩
    go_wp2_with fail
    refine (cfirst_two 5 r w 29 w.heap.size rfl).mono ?_
    rintro e w1 ⟨rfl, rfl⟩
    have hb1 : Below w.heap.size w (w.alloc (.cells #[.int .i64 5, .int .i64 r] 29)) := (Below.refl _ _).alloc (Nat.le_refl _) _
    generalize w.alloc (.cells #[.int .i64 5, .int .i64 r] 29) = w1 at *
    go_wp2
    go_ret2
    exact ⟨rfl, hb1⟩
  · rw [if_neg (by omega)] at H1
    by_cases h2 : rangeE n 0 4096 = 0
    · have h3 := (hb.resolve_left h1).resolve_left (fun h => h h2)
      have hv : unpE k WS n = 2 := (if_neg h1).trans ((if_neg (fun h => h h2)).trans (if_pos h3))
      rw [hv]
      rw [h2] at H2
      have hn : 0 ≤ n ∧ n ≤ 4096 := by unfold rangeE at h2; split at h2 <;> omega
      obtain ⟨m, rfl⟩ : ∃ m : Nat, n = m := ⟨n.toNat, by omega⟩
      have H3 := fun W : World => blocksFor_any m W (by omega)
      have hne : ((k : Int) != (((m + 15) / 16 : Nat) : Int)) = true := by
        rw [bne_iff_ne]
        simp only [Int.toNat_natCast] at h3
        omega
      generalize (m + 15) / 16 = q at *
      have K1 := Lib.hid H1
      have K2 := Lib.hid H2
      have K3 := Lib.hid H3
      clear H1 H2 H3 hb hv h1 hr3 h2 h3
      go_enter Tryz.func37, Tryz.ntmps37
      go_wp2_with fail
      refine (K1.out _).mono ?_
      rintro e w1 ⟨rfl, rfl⟩
      go_wp2_with fail
      refine (K2.out _).mono ?_
      rintro e w1 ⟨rfl, rfl⟩
      go_wp2_with fail
      refine (cfirst_two 0 0 w 29 w.heap.size rfl).mono ?_
      rintro e w1 ⟨rfl, rfl⟩
      have hb1 : Below w.heap.size w (w.alloc (.cells #[.int .i64 0, .int .i64 0] 29)) := (Below.refl _ _).alloc (Nat.le_refl _) _
      generalize w.alloc (.cells #[.int .i64 0, .int .i64 0] 29) = w1 at *
      go_wp2_with fail
      refine (K3.out _).mono ?_
      rintro e w2 ⟨rfl, rfl⟩
      go_wp2
      go_ret2
      exact ⟨rfl, hb1⟩
    · have hv : unpE k WS n = 3 := (if_neg h1).trans (if_pos h2)
      rw [hv]
      have hr : rangeE n 0 4096 = 3 := hr3.resolve_left h2
      rw [hr] at H2
      have K1 := Lib.hid H1
      have K2 := Lib.hid H2
      clear H1 H2 hb hv h1 hr3 h2 hr
      go_enter Tryz.func37, Tryz.ntmps37
      go_wp2_with fail
      refine (K1.out _).mono ?_
      rintro e w1 ⟨rfl, rfl⟩
      go_wp2_with fail
      refine (K2.out _).mono ?_
      rintro e w1 ⟨rfl, rfl⟩
      go_wp2_with fail
      refine (cfirst_two 0 3 w 29 w.heap.size rfl).mono ?_
      rintro e w1 ⟨rfl, rfl⟩
      have hb1 : Below w.heap.size w (w.alloc (.cells #[.int .i64 0, .int .i64 3] 29)) := (Below.refl _ _).alloc (Nat.le_refl _) _
      generalize w.alloc (.cells #[.int .i64 0, .int .i64 3] 29) = w1 at *
      go_wp2
      go_ret2
      exact ⟨rfl, hb1⟩

end Go.Proofs.YtboaojkblmddkaaGreatDoor

/- probe's Unpack of blocks that fit. -/
namespace Go.Proofs.YtboaojkblmddkaaGreatDoor
open Go.RowKit Bn

set_option maxHeartbeats 2000000 in
set_option maxRecDepth 100000 in
theorem unpack_fits (g n c k0 : Nat) (WS : List Nat) (w : World) (hb16 : Reads w w.heap.size 16 (some ⟨g, 0, none⟩) k0 (WS.map u16v)) (hk0 : (n + 15) / 16 = k0) (h0 : 1 ≤ n) (hn : n ≤ 4096) :
    Calls Tryz.prog 37 #[.slice (some ⟨g, 0, none⟩) k0 c, .int .i64 n] w fun e w' => ∃ A' c', e = .returned (.tuple #[.slice A' (unpR k0 WS n).length c', .int .i64 (unpE k0 WS n)]) ∧ Reads w' w'.heap.size 1 A' (unpR k0 WS n).length ((unpR k0 WS n).map u16v) ∧ Below w.heap.size w w' := by
  have hl16 : WS.length = k0 * 16 := by have := hb16.1; rwa [List.length_map] at this
  have hUE : unpE k0 WS n = if (WS.drop n).any (fun x => x != 0) = true then 1 else 0 := by
    unfold unpE
    have hr : rangeE (n : Int) 0 4096 = 0 := by unfold rangeE; rw [if_neg (by omega)]
    rw [if_neg (by omega), if_neg (fun h => h hr), Int.toNat_natCast, if_neg (by omega)]
  have hUR : (WS.drop n).any (fun x => x != 0) = false → unpR k0 WS n = WS.take n := fun h => by
    have e : unpE k0 WS n = 0 := by rw [hUE, h]; rfl
    unfold unpR
    rw [if_pos e, Int.toNat_natCast]
  have hUX : (WS.drop n).any (fun x => x != 0) = true → unpR k0 WS n = [] := fun h => by
    have e : unpE k0 WS n ≠ 0 := by rw [hUE, h]; decide
    unfold unpR
    rw [if_neg e]
  obtain ⟨i0, hi0, hz0, hz1, hz2⟩ := info_parts info_u16
  have hone : ∀ v ∈ WS.map u16v, v.oneCell' = true := u16v_one WS
  have hlen : (WS.map u16v).length = 16 * k0 := by rw [List.length_map]; omega
  have hg : g < w.heap.size := by
    obtain ⟨ad, e, hb, _⟩ := hb16.2 (by omega)
    injection e with e
    subst e
    exact hb
  have hcells : ∀ (W : World), Below w.heap.size w W → ∀ j v, (WS.map u16v)[j]? = some v → W.cell? ⟨g, j, none⟩ = some v := by
    intro W hb j v hj
    obtain ⟨ad, e, hbb, hc⟩ := (hb16.below hb).2 (by omega)
    injection e with e
    subst e
    have := hc j v hj
    rw [Addr.add_mid, Nat.zero_add] at this
    exact this
  have e1 : (if (256 : Int) < ((k0 : Nat) : Int) then (5 : Int) else 0) = 0 := if_neg (by omega)
  have H1 := catMost_block (some ⟨g, 0, none⟩) k0 c 256 w
  rw [e1] at H1
  have H2 := cinRange_any (n : Int) 0 4096 w
  have hr : rangeE (n : Int) 0 4096 = 0 := by unfold rangeE; rw [if_neg (by omega)]
  rw [hr] at H2
  have H3 := fun W : World => blocksFor_any n W hn
  have hk1 : 16 * ((n + 15) / 16) - n ≤ 16 := by omega
  have hk2 : n ≤ 16 * ((n + 15) / 16) := by omega
  have hk3 : (n + 15) / 16 ≤ 256 := by omega
  have hk4 : 1 ≤ (n + 15) / 16 := by omega
  rw [hk0] at H3 hk1 hk2 hk3 hk4
  obtain ⟨k, hkk0⟩ : ∃ k, k = k0 := ⟨_, rfl⟩
  subst hkk0
  have K1 := Lib.hid H1
  have K2 := Lib.hid H2
  have K3 := Lib.hid H3
  have HCE := Lib.hid hcells
  have HL := Lib.hid hlen
  have HONE := Lib.hid hone
  have HUE := Lib.hid hUE
  have HUR := Lib.hid hUR
  have HUX := Lib.hid hUX
  have HWS := Lib.hid hl16
  clear H1 H2 H3 e1 hr hlen hone hcells hb16 hUE hUR hUX hl16 hk0
  generalize unpE k WS n = UE at *
  generalize unpR k WS n = UR at *
  generalize hF : WS.map u16v = F at *
  have HFW := Lib.hid hF
  clear hF
  go_enter Tryz.func37, Tryz.ntmps37
  go_wp2_with fail
  refine K1.out.mono ?_
  rintro e w1 ⟨rfl, rfl⟩
  go_wp2_with fail
  refine K2.out.mono ?_
  rintro e w1 ⟨rfl, rfl⟩
  go_wp2_with fail
  refine (cfirst_two 0 0 w 29 w.heap.size rfl).mono ?_
  rintro e w1 ⟨rfl, rfl⟩
  have hb1 : Below w.heap.size w (w.alloc (.cells #[.int .i64 0, .int .i64 0] 29)) := (Below.refl _ _).alloc (Nat.le_refl _) _
  generalize w.alloc (.cells #[.int .i64 0, .int .i64 0] 29) = w1 at *
  go_wp2_with fail
  refine (K3.out _).mono ?_
  rintro e w2 ⟨rfl, rfl⟩
  have hkk : ((k : Int) != (k : Int)) = false := by simp
  have hw1 : wrap64 ((k : Int) * 16) = ((16 * k : Nat) : Int) := by rw [IntWalk.wrap64_in _ (by omega)]; omega
  go_wp2_with (at_make; refine wpList_make_own _ rfl _ _ 51 rfl w1.heap.size 63 i0 (.int .u16 0) 1 Tryz.underlying51 hi0 hz0 hz1 _ _ _ (16 * k) rfl rfl (by omega) ?b2 ?b3 (Nat.le_refl _) ?_)
  case b2 => rw [hz2]; omega
  case b3 => unfold maxLen; omega
  intro w2 hown0 hgrow0
  have hB2 : Below w.heap.size w w2 := hb1.trans ((gnone hgrow0 (Nat.le_refl _)).mono hb1.size)
  have hle := hb1.size
  have hG2 := hgrow0.size
  clear hgrow0 hkk hw1
  generalize w1.heap.size = G at *
  go_wp2
  go_loopg [7, 30] k (fun q v s W => ∃ i : Nat, i ≤ k ∧ s = .int .i64 i ∧ k - i ≤ q ∧ W.ownsRow G 63 1 v (16 * i) (F.take (16 * i)) ∧ Below w.heap.size w W ∧ G ≤ W.heap.size)
  case atStart => exact ⟨0, Nat.zero_le _, rfl, by omega, by simpa using hown0, hB2, hG2⟩
  case round =>
    obtain ⟨i, hi, rfl, hq, hown, hbel, hGr⟩ := hrel
    by_cases hik : i < k
    · have hcl : ((F.drop (16 * i)).take 16).length = 16 := by rw [List.length_take, List.length_drop, HL.out]; omega
      have hrg : wr.rangeAt g (i * 16) ((F.drop (16 * i)).take 16) := by
        intro j v hj
        rw [List.getElem?_take] at hj
        split at hj
        · rw [List.getElem?_drop] at hj
          refine HCE.out wr hbel _ v ?_
          rw [Nat.mul_comm i 16]; exact hj
        · cases hj
      have hon : ∀ v ∈ (F.drop (16 * i)).take 16, v.oneCell' = true := fun v hv => HONE.out v (List.mem_of_mem_drop (List.mem_of_mem_take hv))
      have htk : F.take (16 * i) ++ (F.drop (16 * i)).take 16 = F.take (16 * (i + 1)) := by rw [← List.take_add, show 16 * i + 16 = 16 * (i + 1) from by omega]
      generalize (F.drop (16 * i)).take 16 = cs at *
      have HTK := Lib.hid htk
      have HRG := Lib.hid hrg
      have HON := Lib.hid hon
      have HCL := Lib.hid hcl
      have hi78 : (Tryz.prog.info? 64).map (·.size) = some cs.toArray.size := by
        rw [List.size_toArray, HCL.out]; kernel_rfl
      have hi78' : (Tryz.prog.info? 64).map (·.size) = some cs.length := by
        rw [HCL.out]; kernel_rfl
      have H78 := Lib.hid hi78
      have H78' := Lib.hid hi78'
      have hsz16 : (16 : Nat) = cs.toArray.size := by rw [List.size_toArray, HCL.out]
      have HSZ := Lib.hid hsz16
      clear htk hrg hon hcl hi78 hi78' hsz16
      go_wp2_with (first
        | (refine wpList_load_mid rfl 64 (.tmp 32) rfl g (i * 16) rfl cs _ HRG.out Tryz.underlying64 rfl H78'.out ?_)
        | (refine wpList_store_row rfl 64 (.tmp 9) (.tmp 33) rfl wr.heap.size cs.toArray rfl rfl 64 _ (heap_alloc_new _ _) H78.out HSZ.out (all_oneCell_toArray HON.out) ?_)
        | (at_builtin; refine wpList_append_own _ rfl _ _ 51 rfl G 63 i0 (.int .u16 0) 1 2 Tryz.underlying51 hi0 hz0 hz1 hz2 rfl (by decide) _ _ _ rfl (own_setRow hown _ _) ⟨wr.heap.size, 0, none⟩ 16 16 cs rfl HCL.out ?c1 HON.out ?c3 ?c4 ?c5 ?_))
      case c1 => exact cell_setRow _ _ _ _
      case c3 => unfold maxLen; omega
      case c4 => omega
      case c5 => simp [World.setRow]; omega
      intro v' w3 hown' hgrow _
      have hb3 : Below w.heap.size w w3 := (below_setRow_new hbel hbel.size _ _).grown hgrow (by have := hbel.size; simp [World.setRow]; omega) (fun g hg => Nat.le_trans hle (World.ownsRow.lt hown g hg).1)
      have hG3 : G ≤ w3.heap.size := Nat.le_trans (by simp [World.setRow]; omega) hgrow.size
      rw [HTK.out] at hown'
      clear hgrow hown
      go_wp2
      go_roundg (k - (i + 1))
      case measure => omega
      case rel => exact ⟨i + 1, by omega, by go_num, Nat.le_refl _, by rw [show 16 * (i + 1) = 16 * i + 16 from by omega] at hown' ⊢; exact hown', hb3, hG3⟩
    · obtain rfl : i = k := by omega
      rw [List.take_of_length_le (by rw [HL.out]; exact Nat.le_refl _)] at hown
      obtain ⟨A, c', rfl, hcc, hcm, hrd⟩ := own_slice hown
      obtain ⟨ad, rfl, hadb, _⟩ := hrd.2 (by omega)
      have hd := hrd.dropN hk2
      have htw := hrd.take hk2
      rw [← HFW.out, ← List.map_drop] at hd
      rw [← HFW.out, ← List.map_take] at htw
      have HD := Lib.hid hd
      have HTW := Lib.hid htw
      unfold maxLen at hcm
      have b1 : (0 : Int) ≤ (n : Int) := by omega
      have b2 : (n : Int) ≤ (c' : Int) := by omega
      have b3 : (n : Int) ≤ ((16 * i : Nat) : Int) := by omega
      clear hd htw hown hrd
      by_cases hcn : c' = n
      · have hz16 : 16 * i - n = 0 := by omega
        have hdn : WS.drop n = [] := List.drop_eq_nil_of_le (by have := HWS.out; omega)
        have hzr : Reads wr wr.heap.size 1 (some ad) (16 * i - n) ((WS.drop n).map u16v) := by
          rw [hz16, hdn]; exact ⟨rfl, fun h => absurd h (by omega)⟩
        have hany : (WS.drop n).any (fun x => x != 0) = false := by rw [hdn]; rfl
        have hCF := fun Ax cx (h : Reads wr wr.heap.size 1 Ax (16 * i - n) ((WS.drop n).map u16v)) => containsFunc_any Ax (16 * i - n) cx (WS.drop n) wr h (by omega)
        rw [hany] at hCF
        have HCF := Lib.hid hCF
        have HZ := Lib.hid hzr
        have HU := Lib.hid (HUR.out hany)
        have HE : Hid (UE = 0) := by unfold Hid; rw [HUE.out, hany]; rfl
        clear hzr hz16 hdn hany hCF
        go_wp2_with fail
        refine (HCF.out _ _ HZ.out).mono ?_
        rintro e w4 ⟨rfl, rfl⟩
        go_wp2_with fail
        go_ret2
        refine ⟨some ad, n, ?_, ?_, hbel⟩
        · rw [HU.out, HE.out, List.length_take, Nat.min_eq_left (by have := HWS.out; omega)]; rfl
        · rw [HU.out, List.length_take, Nat.min_eq_left (by have := HWS.out; omega)]; exact HTW.out
      · by_cases hany : (WS.drop n).any (fun x => x != 0) = true
        · have hCF := fun Ax cx (h : Reads wr wr.heap.size 1 Ax (16 * i - n) ((WS.drop n).map u16v)) => containsFunc_any Ax (16 * i - n) cx (WS.drop n) wr h (by omega)
          rw [hany] at hCF
          have HCF := Lib.hid hCF
          have HU := Lib.hid (HUX.out hany)
          have HE : Hid (UE = 1) := by unfold Hid; rw [HUE.out, hany]; rfl
          clear hany hCF
          go_wp2_with fail
          refine (HCF.out _ _ HD.out).mono ?_
          rintro e w4 ⟨rfl, rfl⟩
          go_wp2_with fail
          go_ret2
          refine ⟨none, 0, ?_, ?_, hbel⟩
          · rw [HU.out, HE.out]; rfl
          · rw [HU.out]; exact Reads.none_
        · have hany' : (WS.drop n).any (fun x => x != 0) = false := by simpa using hany
          have hCF := fun Ax cx (h : Reads wr wr.heap.size 1 Ax (16 * i - n) ((WS.drop n).map u16v)) => containsFunc_any Ax (16 * i - n) cx (WS.drop n) wr h (by omega)
          rw [hany'] at hCF
          have HCF := Lib.hid hCF
          have HU := Lib.hid (HUR.out hany')
          have HE : Hid (UE = 0) := by unfold Hid; rw [HUE.out, hany']; rfl
          clear hany hany' hCF
          go_wp2_with fail
          refine (HCF.out _ _ HD.out).mono ?_
          rintro e w4 ⟨rfl, rfl⟩
          go_wp2_with fail
          go_ret2
          refine ⟨some ad, n, ?_, ?_, hbel⟩
          · rw [HU.out, HE.out, List.length_take, Nat.min_eq_left (by have := HWS.out; omega)]; rfl
          · rw [HU.out, List.length_take, Nat.min_eq_left (by have := HWS.out; omega)]; exact HTW.out

end Go.Proofs.YtboaojkblmddkaaGreatDoor

/- The reference's Unpack of any blocks. -/
namespace Go.Proofs.YtboaojkblmddkaaGreatDoor
open Go.RowKit Bn

/-- the error that the words from n on give, seen up to place i -/
theorem any_drop (WS : List Nat) (n i : Nat) (hi : i < WS.length) (hn : n ≤ i) (h : (WS.drop n).any (fun x => x != 0) = (WS.drop i).any (fun x => x != 0)) :
    (WS.drop n).any (fun x => x != 0) = (WS[i] != 0 || (WS.drop (i + 1)).any (fun x => x != 0)) := by
  rw [h, List.drop_eq_getElem_cons hi, List.any_cons]

set_option maxHeartbeats 4000000 in
set_option maxRecDepth 100000 in
theorem rUnpack_any (A : Option Addr) (k c : Nat) (n : Int) (WS : List Nat) (w : World) (h : Reads w w.heap.size 16 A k (WS.map u16v)) (hk : k ≤ maxLen) :
    Calls Tryz.prog 39 #[.slice A k c, .int .i64 n] w fun e w' => ∃ A' c', e = .returned (.tuple #[.slice A' (unpR k WS n).length c', .int .i64 (unpE k WS n)]) ∧ Reads w' w'.heap.size 1 A' (unpR k WS n).length ((unpR k WS n).map u16v) ∧ Below w.heap.size w w' := by
  obtain ⟨i0, hi0, hz0, hz1, hz2⟩ := info_parts info_u16
  have hl16 : WS.length = k * 16 := by have := h.1; rwa [List.length_map] at this
  have hnil : unpE k WS n ≠ 0 → unpR k WS n = [] := fun h => if_neg h
  unfold maxLen at hk
  by_cases h1 : 256 < k
  · have hv : unpE k WS n = 5 := if_pos h1
    rw [hnil (by rw [hv]; decide), hv]
    have d1 : decide ((256 : Int) < (k : Int)) = true := by simpa using (show (256 : Int) < k from by omega)
    clear hv hnil h1 hl16 h
    go_enter Tryz.func39, Tryz.ntmps39
    go_wp2
    go_ret2
    exact ⟨none, 0, rfl, Reads.none_, Below.refl _ _⟩
  · have d1 : decide ((256 : Int) < (k : Int)) = false := by simpa using (show ¬ (256 : Int) < k from by omega)
    by_cases h2 : n < 0
    · have hr : rangeE n 0 4096 ≠ 0 := by unfold rangeE; rw [if_pos (by omega)]; decide
      have hv : unpE k WS n = 3 := (if_neg h1).trans (if_pos hr)
      rw [hnil (by rw [hv]; decide), hv]
      have d2 : decide (n < 0) = true := by simpa using h2
      clear hv hnil h1 hl16 h hr h2
      go_enter Tryz.func39, Tryz.ntmps39
      go_wp2
      go_ret2
      exact ⟨none, 0, rfl, Reads.none_, Below.refl _ _⟩
    · have d2 : decide (n < 0) = false := by simpa using h2
      by_cases h3 : 4096 < n
      · have hr : rangeE n 0 4096 ≠ 0 := by unfold rangeE; rw [if_pos (by omega)]; decide
        have hv : unpE k WS n = 3 := (if_neg h1).trans (if_pos hr)
        rw [hnil (by rw [hv]; decide), hv]
        have d3 : decide (4096 < n) = true := by simpa using h3
        clear hv hnil h1 hl16 h hr h2 h3
        go_enter Tryz.func39, Tryz.ntmps39
        go_wp2
        go_ret2
        exact ⟨none, 0, rfl, Reads.none_, Below.refl _ _⟩
      · have d3 : decide (4096 < n) = false := by simpa using h3
        have hr : ¬ rangeE n 0 4096 ≠ 0 := by unfold rangeE; rw [if_neg (by omega)]; exact fun h => h rfl
        obtain ⟨m, rfl⟩ : ∃ m : Nat, n = m := ⟨n.toNat, by omega⟩
        have HN := Lib.hid (rNeeded_any m w (by omega))
        by_cases h4 : (m + 15) / 16 = k
        · have hUE : unpE k WS (m : Int) = if (WS.drop m).any (fun x => x != 0) = true then 1 else 0 := by
            unfold unpE
            rw [if_neg h1, if_neg hr, Int.toNat_natCast, if_neg (by omega)]
          have hUR : (WS.drop m).any (fun x => x != 0) = false → unpR k WS (m : Int) = WS.take m := fun h => by
            have e : unpE k WS (m : Int) = 0 := by rw [hUE, h]; rfl
            unfold unpR
            rw [if_pos e, Int.toNat_natCast]
          have HUE := Lib.hid hUE
          have HUR := Lib.hid hUR
          have HNI := Lib.hid hnil
          have HL := Lib.hid hl16
          have hm16 : m ≤ k * 16 := by omega
          have hk256 : k ≤ 256 := by omega
          rw [h4] at HN
          clear hUE hUR hnil hl16 hr h1 h2 h3 h4
          generalize unpE k WS (m : Int) = UE at *
          generalize unpR k WS (m : Int) = UR at *
          have hne : ((k : Int) != (k : Int)) = false := by simp
          go_enter Tryz.func39, Tryz.ntmps39
          go_wp2_with fail
          refine HN.out.mono ?_
          rintro e w1 ⟨rfl, rfl⟩
          go_wp2
          go_loopg [6, 7] (16 * k) (fun q v s W => ∃ i : Nat, i ≤ 16 * k ∧ s = .int .i64 i ∧ 16 * k - i ≤ q ∧ W.ownsRow w.heap.size 63 1 v (min i m) ((WS.take (min i m)).map u16v) ∧ Hid (m ≤ i → (WS.drop m).any (fun x => x != 0) = (WS.drop i).any (fun x => x != 0)) ∧ Below w.heap.size w W)
          case atStart => exact ⟨0, Nat.zero_le _, rfl, by omega, by rw [Nat.zero_min]; exact World.ownsRow_nil _ _ _ _, fun h => by rw [show m = 0 by omega], Below.refl _ _⟩
          case round =>
            obtain ⟨i, hi, rfl, hq, hown, hd, hbel⟩ := hrel
            by_cases h0 : i < 16 * k
            · obtain ⟨qq, r, hqr, hr16⟩ : ∃ qq r : Nat, i = qq * 16 + r ∧ r < 16 := ⟨i / 16, i % 16, by omega, by omega⟩
              have hqi : (i : Int) / 16 = (qq : Int) := by omega
              have hri : (i : Int) % 16 = (r : Int) := by omega
              have hil : i < WS.length := by have := HL.out; omega
              obtain ⟨ad, rfl, hbb, hce⟩ := (h.below hbel).2 (by omega)
              have hcell : wr.cell? ((ad.add (qq * 16)).add r) = some (.int .u16 ((WS[i] : Nat) : Int)) := by
                rw [add_of_add, ← hqr]
                exact hce i _ (by rw [List.getElem?_map, List.getElem?_eq_getElem hil]; rfl)
              have hq3 : (0 : Int) ≤ (qq : Int) := by omega
              have hq4 : (qq : Int) < (k : Int) := by omega
              have hr3 : (0 : Int) ≤ (r : Int) := by omega
              have hr4 : (r : Int) < 16 := by omega
              have hlt16 : (i : Int) < 16 * (k : Int) := by omega
              have HQ := Lib.hid hqr
              have hx := fun (hmi : m ≤ i) => any_drop WS m i hil hmi (hd.out hmi)
              have hts : i < m → (WS.take (i + 1)).map u16v = (WS.take i).map u16v ++ [u16v WS[i]] := fun _ => by
                rw [List.take_succ_eq_append_getElem hil, List.map_append]; rfl
              generalize WS[i] = x at *
              have HX := Lib.hid hx
              have HTS := Lib.hid hts
              clear hx hts hce hqr hd
              go_upto_region 12 with (fail)
              by_cases him : i < m
              · have d5 : decide ((m : Int) ≤ (i : Int)) = false := by simpa using (show ¬ (m : Int) ≤ i from by omega)
                have d6 : decide ((i : Int) < (m : Int)) = true := by simpa using (show (i : Int) < m from by omega)
                have HTT := Lib.hid (HTS.out him)
                rw [Nat.min_eq_left (by omega)] at hown
                have hle := hbel.size
                go_wp2_with (at_builtin; refine wpList_append_own _ rfl _ _ 51 rfl w.heap.size 63 i0 (.int .u16 0) 1 2 Tryz.underlying51 hi0 hz0 hz1 hz2 rfl (by decide) _ _ _ rfl (hown.alloc _) ⟨wr.heap.size, 0, none⟩ 1 1 [.int .u16 (x : Int)] rfl rfl ?a1 ?a2 ?a3 ?a4 ?a5 ?_)
                case a1 => exact cell_one_new _ _ _
                case a2 => intro u hu; simp at hu; subst hu; rfl
                case a3 => unfold maxLen; omega
                case a4 => omega
                case a5 => have := hbel.size; simp; omega
                intro v' w2 hown' hgrow _
                have hb2 : Below w.heap.size w w2 := (hbel.alloc hbel.size _).grown hgrow (by have := hbel.size; simp; omega) (fun g hg => (World.ownsRow.lt hown g hg).1)
                clear hgrow hown
                go_wp2
                go_roundg (16 * k - (i + 1))
                case measure => omega
                case rel => exact ⟨i + 1, by omega, by go_num, Nat.le_refl _, by rw [Nat.min_eq_left (show i + 1 ≤ m by omega), HTT.out, List.map_take]; exact hown', fun hh => by rw [show m = i + 1 by omega], hb2⟩
              · have hmi : m ≤ i := by omega
                have d5 : decide ((m : Int) ≤ (i : Int)) = true := by simpa using (show (m : Int) ≤ i from by omega)
                have d6 : decide ((i : Int) < (m : Int)) = false := by simpa using (show ¬ (i : Int) < m from by omega)
                have hxx := HX.out hmi
                rw [Nat.min_eq_right hmi] at hown
                by_cases hx0 : x = 0
                · subst hx0
                  have d7 : (((0 : Nat) : Int) != 0) = false := rfl
                  have hxz : (List.drop m WS).any (fun x => x != 0) = (List.drop (i + 1) WS).any (fun x => x != 0) := by rw [hxx]; rfl
                  have HXZ := Lib.hid hxz
                  clear hxz hxx
                  go_wp2
                  go_roundg (16 * k - (i + 1))
                  case measure => omega
                  case rel => exact ⟨i + 1, by omega, by go_num, Nat.le_refl _, by rw [Nat.min_eq_right (show m ≤ i + 1 by omega)]; exact hown, fun _ => HXZ.out, hbel⟩
                · have d7 : (((x : Nat) : Int) != 0) = true := by rw [bne_iff_ne]; omega
                  have hxz : (List.drop m WS).any (fun x => x != 0) = true := by
                    rw [hxx, show (x != 0) = true from by rw [bne_iff_ne]; exact hx0]; rfl
                  have hE : UE = 1 := by rw [HUE.out, if_pos hxz]
                  have hR : UR = [] := HNI.out (by rw [hE]; decide)
                  have HE := Lib.hid hE
                  have HR := Lib.hid hR
                  clear hxz hxx hE hR
                  go_wp2
                  go_ret2
                  refine ⟨none, 0, ?_, ?_, hbel⟩
                  · rw [HR.out, HE.out]; rfl
                  · rw [HR.out]; exact Reads.none_
            · obtain rfl : i = 16 * k := by omega
              have hda : (List.drop m WS).any (fun x => x != 0) = false := by
                rw [hd.out (by omega), List.drop_eq_nil_of_le (by have := HL.out; omega)]; rfl
              have hE : UE = 0 := by rw [HUE.out, hda]; rfl
              have hR := HUR.out hda
              have hRl : UR.length = m := by rw [hR, List.length_take, HL.out]; omega
              have HE := Lib.hid hE
              have HRL := Lib.hid hRl
              rw [Nat.min_eq_right (by omega), ← hR] at hown
              obtain ⟨A', c', rfl, _, _, hrd⟩ := own_slice hown
              have d9 : decide (((16 * k : Nat) : Int) < 16 * (k : Int)) = false := decide_eq_false (by omega)
              clear hda hE hR hRl hown hd
              go_wp2
              go_ret2
              refine ⟨A', c', ?_, ?_, hbel⟩
              · rw [HRL.out, HE.out]; rfl
              · rw [HRL.out]; exact hrd
        · have hv : unpE k WS (m : Int) = 2 := by
            unfold unpE
            rw [if_neg h1, if_neg hr, Int.toNat_natCast, if_pos h4]
          rw [hnil (by rw [hv]; decide), hv]
          have hne : ((((m + 15) / 16 : Nat) : Int) != (k : Int)) = true := by rw [bne_iff_ne]; omega
          generalize (m + 15) / 16 = z at *
          clear hv hnil h1 hl16 h hr h2 h3 h4
          go_enter Tryz.func39, Tryz.ntmps39
          go_wp2_with fail
          refine HN.out.mono ?_
          rintro e w1 ⟨rfl, rfl⟩
          go_wp2
          go_ret2
          exact ⟨none, 0, rfl, Reads.none_, Below.refl _ _⟩

end Go.Proofs.YtboaojkblmddkaaGreatDoor

/- probe's Unpack of any blocks of one's own; the reference's Blocks; the same blocks. -/
namespace Go.Proofs.YtboaojkblmddkaaGreatDoor
open Go.RowKit Bn

/-- probe's Unpack of any blocks of one's own -/
theorem unpack_any (B : Nat) (v : Value) (k : Nat) (n : Int) (WS : List Nat) (w : World) (h : w.ownsRow B 64 16 v k (WS.map u16v)) (hk : k ≤ maxLen) :
    ∃ A c, v = .slice A k c ∧ Calls Tryz.prog 37 #[.slice A k c, .int .i64 n] w fun e w' => ∃ A' c', e = .returned (.tuple #[.slice A' (unpR k WS n).length c', .int .i64 (unpE k WS n)]) ∧ Reads w' w'.heap.size 1 A' (unpR k WS n).length ((unpR k WS n).map u16v) ∧ Below w.heap.size w w' := by
  obtain ⟨A, c, hv, hkc, hc, hr⟩ := own_slice h
  refine ⟨A, c, hv, ?_⟩
  have hnil : unpE k WS n ≠ 0 → unpR k WS n = [] := fun h => if_neg h
  by_cases hb : 256 < k ∨ rangeE n 0 4096 ≠ 0 ∨ (n.toNat + 15) / 16 ≠ k
  · refine (unpack_bad A k c n WS w hk hb).mono ?_
    rintro e w' ⟨rfl, hbl⟩
    have hE : unpE k WS n ≠ 0 := by
      unfold unpE
      by_cases h1 : 256 < k
      · rw [if_pos h1]; decide
      · rw [if_neg h1]
        by_cases h2 : rangeE n 0 4096 ≠ 0
        · rw [if_pos h2]; decide
        · rw [if_neg h2, if_pos ((hb.resolve_left h1).resolve_left h2)]; decide
    rw [hnil hE]
    exact ⟨none, 0, rfl, Reads.none_, hbl⟩
  · have h1 : ¬ 256 < k := fun h => hb (.inl h)
    have h2 : rangeE n 0 4096 = 0 := Classical.byContradiction fun h => hb (.inr (.inl h))
    have h3 : (n.toNat + 15) / 16 = k := Classical.byContradiction fun h => hb (.inr (.inr h))
    have hn : 0 ≤ n ∧ n ≤ 4096 := by unfold rangeE at h2; split at h2 <;> omega
    obtain ⟨m, rfl⟩ : ∃ m : Nat, n = m := ⟨n.toNat, by omega⟩
    rw [Int.toNat_natCast] at h3
    by_cases h0 : m = 0
    · subst h0
      obtain rfl : k = 0 := by omega
      have hw : WS = [] := by
        have := h.1
        rw [List.length_map] at this
        exact List.eq_nil_of_length_eq_zero (by omega)
      subst hw
      refine (unpack_nil A c w).mono ?_
      rintro e w' ⟨A', rfl, hbl⟩
      exact ⟨A', 0, rfl, ⟨rfl, fun h => absurd h (by decide)⟩, hbl⟩
    · rcases h.2 with ⟨_, h0'⟩ | ⟨g, cap, cur, hvv, _⟩
      · omega
      · rw [hvv] at hv
        injection hv with e1 e2 e3
        subst e1 e3
        exact unpack_fits g m _ k WS w hr h3 (by omega) (by omega)

set_option maxHeartbeats 2000000 in
set_option maxRecDepth 100000 in
theorem rBlocks_ok (A : Option Addr) (n c : Nat) (ws : List Nat) (w : World) (h : Reads w w.heap.size 1 A n (ws.map u16v)) (hn : n ≤ 4096) :
    Calls Tryz.prog 38 #[.slice A n c] w fun e w' => e = .returned (.slice (some ⟨w.heap.size, 0, none⟩) ((n + 15) / 16) ((n + 15) / 16)) ∧
      w'.ownsRow w.heap.size 64 16 (.slice (some ⟨w.heap.size, 0, none⟩) ((n + 15) / 16) ((n + 15) / 16)) ((n + 15) / 16) ((ws ++ List.replicate (16 * ((n + 15) / 16) - n) 0).map u16v) ∧ Below w.heap.size w w' := by
  obtain ⟨i0, hi0, hz0, hz1, hz2⟩ := info_parts info_blk
  have hwl := h.lenM
  have HNE := Lib.hid (rNeeded_any n w (by omega))
  have hk1 : n ≤ 16 * ((n + 15) / 16) := by omega
  have hk3 : (n + 15) / 16 ≤ 256 := by omega
  generalize (n + 15) / 16 = k at *
  have hWL : (ws ++ List.replicate (16 * k - n) 0).length = 16 * k := by rw [List.length_append, List.length_replicate, hwl]; omega
  have hat : ∀ (i : Nat) (hi2 : i < ws.length) (hi3 : i < (ws ++ List.replicate (16 * k - n) 0).length), (ws ++ List.replicate (16 * k - n) 0)[i]'hi3 = ws[i] := fun i hi2 _ => List.getElem_append_left hi2
  have hfin : (((ws ++ List.replicate (16 * k - n) 0).take n).map u16v ++ List.replicate (16 * k - n) (u16v 0)) = (ws ++ List.replicate (16 * k - n) 0).map u16v := by
    rw [List.take_append_of_le_length (by omega), List.take_of_length_le (by omega), List.map_append, List.map_replicate]
  generalize ws ++ List.replicate (16 * k - n) 0 = WS at *
  have HWL := Lib.hid hWL
  have HAT := Lib.hid hat
  have HFIN := Lib.hid hfin
  have HL := Lib.hid hwl
  clear hWL hat hfin hwl
  go_enter Tryz.func38, Tryz.ntmps38
  go_wp2_with fail
  refine HNE.out.mono ?_
  rintro e w1 ⟨rfl, rfl⟩
  go_wp2_with (at_make; refine wpList_make_full _ rfl _ _ 62 rfl w.heap.size 64 i0 _ 16 Tryz.underlying62 hi0 hz0 hz1 _ _ _ _ k rfl rfl (by omega) (by omega) ?b2 ?b3 (Nat.le_refl _) ?_)
  case b2 => rw [hz2]; omega
  case b3 => unfold maxLen; omega
  intro w2 hown0 hgrow0
  have hB2 : Below w.heap.size w w2 := gnone hgrow0 (Nat.le_refl _)
  have hown1 : w2.ownsRow w.heap.size 64 16 (.slice (some ⟨w.heap.size, 0, none⟩) k k) k ((WS.take 0).map u16v ++ List.replicate (16 * k - 0) (u16v 0)) := by
    have e := made_blk (k * 16)
    rw [List.take_zero, List.map_nil, List.nil_append, Nat.sub_zero, Nat.mul_comm 16 k, ← e]
    exact hown0
  clear hown0 hgrow0
  have hle0 : w.heap.size ≤ w.heap.size := Nat.le_refl _
  obtain ⟨G, hG⟩ : ∃ G, G = w.heap.size := ⟨_, rfl⟩
  go_wp2
  go_loopg [4] n (fun q s W => ∃ i : Nat, i ≤ n ∧ s = .int .i64 i ∧ n - i ≤ q ∧ W.ownsRow w.heap.size 64 16 (.slice (some ⟨w.heap.size, 0, none⟩) k k) k ((WS.take i).map u16v ++ List.replicate (16 * k - i) (u16v 0)) ∧ Below w.heap.size w W)
  case atStart => exact ⟨0, Nat.zero_le _, rfl, by omega, hown1, hB2⟩
  case round =>
    obtain ⟨i, hi, rfl, hq, hown, hbel⟩ := hrel
    by_cases h0 : i < n
    · obtain ⟨ad, hkl, rfl, hbb, hcell⟩ := (h.below hbel).cellM h0
      obtain ⟨qq, r, hqr, hr16⟩ : ∃ qq r : Nat, i = qq * 16 + r ∧ r < 16 := ⟨i / 16, i % 16, by omega, by omega⟩
      have hqi : (i : Int) / 16 = (qq : Int) := by omega
      have hri : (i : Int) % 16 = (r : Int) := by omega
      have hq3 : (0 : Int) ≤ (qq : Int) := by omega
      have hq4 : (qq : Int) < (k : Int) := by omega
      have hr3 : (0 : Int) ≤ (r : Int) := by omega
      have hr4 : (r : Int) < 16 := by omega
      have hi3 : (0 : Int) ≤ (i : Int) := by omega
      have hi4 : (i : Int) < (n : Int) := by omega
      have HS := Lib.hid (set_step u16v WS (u16v 0) (16 * k) i (by have := HWL.out; omega) HWL.out)
      have hws := HAT.out i hkl (by have := HWL.out; omega)
      have hcw : ∃ v1, wr.cell? ⟨w.heap.size, qq * 16 + r, none⟩ = some v1 := by
        rw [World.ownsRow.cellAt hown (qq * 16 + r) (by omega)]
        have := hown.1
        exact ⟨_, List.getElem?_eq_getElem (by omega)⟩
      obtain ⟨v1, hc1⟩ := hcw
      have hf1 : wr.frozen? ⟨w.heap.size, qq * 16 + r, none⟩ = false := World.ownsRow.frozenAt hown _
      have hown2 : (wr.setCell ⟨w.heap.size, qq * 16 + r, none⟩ (u16v ws[i])).ownsRow w.heap.size 64 16 (.slice (some ⟨w.heap.size, 0, none⟩) k k) k ((WS.take (i + 1)).map u16v ++ List.replicate (16 * k - (i + 1)) (u16v 0)) := by
        rw [← hqr, ← HS.out, hws]
        exact (World.ownsRow.stored hown i (u16v ws[i])).1
      have hb3 : Below w.heap.size w (wr.setCell ⟨w.heap.size, qq * 16 + r, none⟩ (u16v ws[i])) := hbel.setCell (p := ⟨w.heap.size, qq * 16 + r, none⟩) (Nat.le_refl _) _
      unfold u16v at hcell
      generalize ws[i] = x at *
      have HOWN := Lib.hid hown2
      have HB3 := Lib.hid hb3
      have HQR := Lib.hid hqr
      clear HS hown hown2 hb3 hws hqr
      go_wp2
      go_region
      go_wp2
      go_roundg (n - (i + 1))
      case measure => omega
      case rel => exact ⟨i + 1, by omega, by go_num, Nat.le_refl _, HOWN.out, HB3.out.drew⟩
    · obtain rfl : i = n := by omega
      rw [HFIN.out] at hown
      go_wp2
      go_ret
      exact ⟨rfl, hown, hbel⟩

end Go.Proofs.YtboaojkblmddkaaGreatDoor

/- The same blocks are the same. -/
namespace Go.Proofs.YtboaojkblmddkaaGreatDoor
open Go.RowKit Bn

/-- in a region that only reads: a load of an array -/
theorem wpQuiet_load_mid {P : Program} {ops : Array Oper} {C : World → Prop} {Q : Act → Prop} {rest : List Oper} {op : Oper} {a : Act} (hw : Region.wanted op (yielded ops a.tmps) = true) (ty : TypeId) (x : Operand) (ho : op.op = .load ty x)
    (b o : Nat) (hx : a.eval x = .pointer (some ⟨b, o, none⟩)) (cs : List Value) (d : TypeDesc) (hS : ∀ w, C w → w.rangeAt b o cs)
    (hu : P.underlying ty = some d) (hd : d.isRow = true) (hi : (P.info? ty).map (·.size) = some cs.length)
    (h : wpQuiet P ops C Q rest (a.put op.dst (.agg cs.toArray))) : wpQuiet P ops C Q (op :: rest) a :=
  BigFrame.wpQuiet_want hw fun _ hK => ⟨_, fun w hw' => by
    unfold Oper.quietAt execOp
    simp only [ho, hx, Instr.loadAt, Instr.sureAddr, Sem.run_bind, Sem.run_pure, Result.andThen_ok, run_loadVar_mid w b o ty cs d (hS w hw') hu hd hi]
    exact ⟨rfl, rfl⟩, hK _ h⟩

/-- the range of a block of blocks that read -/
theorem range_at (g k : Nat) (WS : List Nat) (W : World) (B : Nat) (h : Reads W B 16 (some ⟨g, 0, none⟩) k (WS.map u16v)) (i : Nat) (hi : i < k) :
    W.rangeAt g (i * 16) (((WS.drop (16 * i)).take 16).map u16v) := by
  obtain ⟨ad, e, hb, hc⟩ := h.2 (by omega)
  injection e with e
  subst e
  intro j v hj
  rw [List.map_take, List.getElem?_take] at hj
  split at hj
  · rw [List.map_drop, List.getElem?_drop] at hj
    have := hc _ v hj
    rw [Addr.add_mid, Nat.zero_add] at this
    rw [Nat.mul_comm i 16]; exact this
  · cases hj

set_option maxHeartbeats 1000000 in
set_option maxRecDepth 100000 in
theorem sameBlocks_eq (A A' : Option Addr) (k c c' : Nat) (WS : List Nat) (w : World) (h : Reads w w.heap.size 16 A k (WS.map u16v)) (h' : Reads w w.heap.size 16 A' k (WS.map u16v)) (hk : k ≤ 4096)
    (ha : 0 < k → ∃ g, A = some ⟨g, 0, none⟩) (ha' : 0 < k → ∃ g, A' = some ⟨g, 0, none⟩) :
    Calls Tryz.prog 40 #[.slice A k c, .slice A' k c'] w fun e w' => e = .returned (.bool true) ∧ Below w.heap.size w w' := by
  have hl : WS.length = k * 16 := by have := h.1; rwa [List.length_map] at this
  have HL := Lib.hid hl
  have hne : ((k : Int) != (k : Int)) = false := by simp
  clear hl
  go_enter Tryz.func40, Tryz.ntmps40
  go_wp2
  go_loopg [13] k (fun q s W => ∃ i : Nat, i ≤ k ∧ s = .int .i64 i ∧ k - i ≤ q ∧ Below w.heap.size w W)
  case atStart => exact ⟨0, Nat.zero_le _, rfl, by omega, Below.refl _ _⟩
  case round =>
    obtain ⟨i, hi, rfl, hq, hbel⟩ := hrel
    by_cases h0 : i < k
    · obtain ⟨g, rfl⟩ := ha (by omega)
      obtain ⟨g', rfl⟩ := ha' (by omega)
      have r1 := range_at g k WS wr _ (h.below hbel) i h0
      have r2 := range_at g' k WS wr _ (h'.below hbel) i h0
      have hbl : ((WS.drop (16 * i)).take 16).length = 16 := by rw [List.length_take, List.length_drop, HL.out]; omega
      generalize (WS.drop (16 * i)).take 16 = bl at *
      have heq := fun W => eq_blk bl bl hbl hbl W
      rw [show (bl == bl) = true from by simp] at heq
      have hcl : (bl.map u16v).length = 16 := by rw [List.length_map]; exact hbl
      have hi78' : (Tryz.prog.info? 64).map (·.size) = some (bl.map u16v).length := by
        rw [hcl]; kernel_rfl
      have hi3 : (0 : Int) ≤ (i : Int) := by omega
      have hi4 : (i : Int) < (k : Int) := by omega
      generalize bl.map u16v = cs at *
      have R1 := Lib.hid r1
      have R2 := Lib.hid r2
      have H78 := Lib.hid hi78'
      clear r1 r2 hi78' hcl hbl h h'
      go_wp2
      refine wp_region_quiet_lit (by kernel_rfl) (by kernel_rfl) ?_
      repeat (first
        | (refine wpQuiet_load_mid (by rfl) 64 (.tmp 18) rfl g (i * 16) rfl cs _ (fun w hw => by obtain ⟨n, rfl⟩ := hw; exact R1.out) Tryz.underlying64 rfl H78.out ?_)
        | (refine wpQuiet_load_mid (by rfl) 64 (.tmp 22) rfl g' (i * 16) rfl cs _ (fun w hw => by obtain ⟨n, rfl⟩ := hw; exact R2.out) Tryz.underlying64 rfl H78.out ?_)
        | quiet_step (fail))
      refine wpQuiet_nil ?_
      intro _ hw'
      obtain ⟨nq, hw''⟩ := hw'
      subst hw''
      go_wp2
      go_roundg (k - (i + 1))
      case measure => omega
      case rel => exact ⟨i + 1, by omega, by go_num, Nat.le_refl _, hbel.trans ⟨rfl, rfl, rfl, Nat.le_refl _, fun _ _ => rfl⟩⟩
    · obtain rfl : i = k := by omega
      go_wp2
      go_ret
      exact ⟨rfl, hbel⟩

end Go.Proofs.YtboaojkblmddkaaGreatDoor
