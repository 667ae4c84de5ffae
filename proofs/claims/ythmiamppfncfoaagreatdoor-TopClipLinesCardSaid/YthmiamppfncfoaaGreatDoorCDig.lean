/- Contracts of probe's Digital: comparator, CheckLevels, Digital of valid samples and levels. -/
import Derived.Test.YthmiamppfncfoaaGreatDoorCCks
import Derived.Test.YthmiamppfncfoaaGreatDoorCTrn
import Derived.Test.YthmiamppfncfoaaGreatDoorCPl1
import Derived.Test.YthmiamppfncfoaaGreatDoorCCSm
import Derived.Deep.RegionHeld3
namespace Go.Proofs.YthmiamppfncfoaaGreatDoor
open Go.RowKit
open Flt

set_option maxHeartbeats 1000000 in
theorem cmp1_any (x lo hi gl gv : Nat) (v : Bool) (w : World) (c1 : w.cell? ⟨gl, 0, none⟩ = some (.float .f32 lo)) (c2 : w.cell? ⟨gl, 1, none⟩ = some (.float .f32 hi)) (c3 : w.cell? ⟨gv, 0, none⟩ = some (.bool v)) (f3 : w.frozen? ⟨gv, 0, none⟩ = false) :
    Calls Tryz.prog 60 #[.float .f32 x, .pointer (some ⟨gl, 0, none⟩), .pointer (some ⟨gv, 0, none⟩)] w fun e w' => e = .returned (.bool (digV lo hi v x)) ∧ w.setCell ⟨gv, 0, none⟩ (.bool (digV lo hi v x)) = w' := by
  by_cases h1 : fge x hi = true
  · have hd : digV lo hi v x = true := by unfold digV; rw [h1]; rfl
    rw [hd]
    have t1 : (FloatKind.f32.format.order x hi == some .gt || FloatKind.f32.format.order x hi == some .eq) = true := h1
    clear hd h1
    go_enter Tryz.func60, Tryz.ntmps60
    go_wp2
    go_ret
    exact ⟨rfl, rfl⟩
  · have h1' : fge x hi = false := by simpa using h1
    have t1 : (FloatKind.f32.format.order x hi == some .gt || FloatKind.f32.format.order x hi == some .eq) = false := h1'
    cases v
    · have hd : digV lo hi false x = false := by unfold digV; rw [h1']; rfl
      rw [hd]
      clear hd h1 h1'
      go_enter Tryz.func60, Tryz.ntmps60
      go_wp2
      go_ret
      exact ⟨rfl, rfl⟩
    · by_cases h2 : fgt x lo = true
      · have hd : digV lo hi true x = true := by unfold digV; rw [h1', h2]; rfl
        rw [hd]
        have t2 : (FloatKind.f32.format.order x lo == some .gt) = true := h2
        clear hd h1 h1' h2
        go_enter Tryz.func60, Tryz.ntmps60
        go_wp2
        go_ret
        exact ⟨rfl, rfl⟩
      · have h2' : fgt x lo = false := by simpa using h2
        have hd : digV lo hi true x = false := by unfold digV; rw [h1', h2']; rfl
        rw [hd]
        have t2 : (FloatKind.f32.format.order x lo == some .gt) = false := h2'
        clear hd h1 h1' h2 h2'
        go_enter Tryz.func60, Tryz.ntmps60
        go_wp2
        go_ret
        exact ⟨rfl, rfl⟩
theorem cmp1_enter (args : Array Value) (w : World) : (callFunc 60 args).run Tryz.prog w = .ok (.enter 60 args) w := by kernel_rfl

theorem comparator_any (lo hi : Nat) (v : Bool) (w : World) : Calls Tryz.prog 31 #[.agg #[.float .f32 lo, .float .f32 hi], .bool v] w fun e w' =>
    e = .returned (.func (.func 60) #[] #[.pointer (some ⟨w.heap.size, 0, none⟩), .pointer (some ⟨w.heap.size + 1, 0, none⟩)]) ∧ (w.alloc (.cells #[.float .f32 lo, .float .f32 hi] 38)).alloc (.cells #[.bool v] 4) = w' := by
  have hmf : ∀ (fn : Fn) (first cap : Array Value) (w : World), (Instr.makeFunc fn first cap).run Tryz.prog w = .ok (.func fn first cap) w := fun _ _ _ _ => rfl
  go_enter Tryz.func31, Tryz.ntmps31
  go_wp2
  go_ret
  exact ⟨rfl, rfl⟩

theorem pcheckLevels_ok (lo hi : Nat) (w : World) (h1 : fin Ieee.single lo = true) (h2 : fin Ieee.single hi = true) (h3 : fge lo hi = false) :
    Calls Tryz.prog 29 #[.agg #[.float .f32 lo, .float .f32 hi]] w fun e w' => e = .returned (.int .i64 0) ∧ Below w.heap.size w w' := by
  have t3 : (FloatKind.f32.format.order lo hi == some .gt || FloatKind.f32.format.order lo hi == some .eq) = false := h3
  have hb : Below w.heap.size w ((w.alloc (.cells #[.float .f32 lo, .float .f32 hi] 38)).alloc (.cells #[.float .f32 lo, .float .f32 hi] 24)) := ((Below.refl _ _).alloc (Nat.le_refl _) _).alloc (by simp) _
  have hr := Reads.lit (w.alloc (.cells #[.float .f32 lo, .float .f32 hi] 38)) [.float .f32 lo, .float .f32 hi] 24
  have hc := ncheckSamples_ok _ 2 2 [lo, hi] _ hr (by simp [h1, h2]) (by omega)
  simp only [World.size_alloc] at hc
  have HC := Lib.hid hc
  clear hc hr h1 h2 h3
  go_enter Tryz.func29, Tryz.ntmps29
  go_wp2_with fail
  refine HC.out.mono ?_
  rintro e w1 ⟨rfl, rfl⟩
  go_wp2_with fail
  go_ret
  exact ⟨rfl, hb⟩


set_option maxHeartbeats 1000000 in
/-- the line of samples, made by common.Transformed and a comparator -/
theorem trn_cmp (A : Option Addr) (n c lo hi : Nat) (v : Bool) (l : List Nat) (w : World) (h : Reads w w.heap.size 1 A n (l.map f32v)) (hn : n ≤ 4096) :
    Calls Tryz.prog 30 #[.slice A n c, .func (.func 60) #[] #[.pointer (some ⟨w.heap.size, 0, none⟩), .pointer (some ⟨w.heap.size + 1, 0, none⟩)]] ((w.alloc (.cells #[.float .f32 lo, .float .f32 hi] 38)).alloc (.cells #[.bool v] 4)) fun e w' =>
      e = .returned (.slice (some ⟨w.heap.size + 2, 0, none⟩) n n) ∧ w'.ownsRow w.heap.size 4 1 (.slice (some ⟨w.heap.size + 2, 0, none⟩) n n) n ((digL lo hi v l).map boolv) ∧ Below w.heap.size w w' := by
  have hb0 : Below w.heap.size w ((w.alloc (.cells #[.float .f32 lo, .float .f32 hi] 38)).alloc (.cells #[.bool v] 4)) := ((Below.refl _ _).alloc (Nat.le_refl _) _).alloc (by simp) _
  have hl := h.lenM
  have q1 : CBlk ((w.alloc (.cells #[.float .f32 lo, .float .f32 hi] 38)).alloc (.cells #[.bool v] 4)) w.heap.size #[.float .f32 lo, .float .f32 hi] 38 := (CBlk.new w _ _ _ rfl).below ((Below.refl _ _).alloc (Nat.le_refl _) _) (by simp)
  have q2 : CBlk ((w.alloc (.cells #[.float .f32 lo, .float .f32 hi] 38)).alloc (.cells #[.bool v] 4)) (w.heap.size + 1) #[.bool v] 4 := CBlk.new _ _ _ _ (by simp)
  have hsz : ((w.alloc (.cells #[.float .f32 lo, .float .f32 hi] 38)).alloc (.cells #[.bool v] 4)).heap.size = w.heap.size + 2 := by simp
  generalize ((w.alloc (.cells #[.float .f32 lo, .float .f32 hi] 38)).alloc (.cells #[.bool v] 4)) = W at *
  have ht := trn_fb 60 #[.pointer (some ⟨w.heap.size, 0, none⟩), .pointer (some ⟨w.heap.size + 1, 0, none⟩)] (some (w.heap.size + 1)) (fun i W => CBlk W (w.heap.size + 1) #[.bool (digS lo hi v (l.take i))] 4) A n c (l.map f32v) (digL lo hi v l) W
    cmp1_enter hn (h.later hb0) (by rw [digL_len, hl]) ?_ ?_ ?_ ?_
  · refine ht.mono ?_
    rintro e w' ⟨rfl, ho, hg, _⟩
    rw [hsz] at ho ⊢
    refine ⟨rfl, own_mono ho (by omega), ?_⟩
    exact hb0.grown hg hb0.size (fun k e => by injection e with e; omega)
  · intro b hb
    injection hb with hb
    subst hb
    refine ⟨by omega, fun h0 ad e he => ?_⟩
    obtain ⟨ad', e', hb', _⟩ := h.2 h0
    rw [e] at e'
    injection e' with e'
    subst e'
    omega
  · exact q2
  · intro i W1 W2 hJ hb
    exact (hb _ rfl).trans hJ
  · intro W1 i x y hin hg hJ hx hy
    have hil : i < l.length := by omega
    rw [List.getElem?_map, List.getElem?_eq_getElem hil] at hx
    injection hx with hx
    subst hx
    rw [digL_at lo hi v l i hil] at hy
    injection hy with hy
    subst hy
    have p1 := q1.grown hg (by omega) (by intro e; injection e with e; omega)
    have hc := cmp1_any l[i] lo hi w.heap.size (w.heap.size + 1) (digS lo hi v (l.take i)) W1 (p1.cell 0) (p1.cell 1) (CBlk.cell hJ 0) (CBlk.frozen hJ 0)
    rw [← digS_succ lo hi v l i hil] at hc
    refine hc.mono ?_
    rintro e w' ⟨rfl, rfl⟩
    exact ⟨rfl, only_setCell (only_of_below (Below.refl _ _) _) (.inl rfl) _, CBlk.set0 hJ⟩

set_option maxHeartbeats 2000000 in
set_option maxRecDepth 100000 in
theorem digital_ok (A : Option Addr) (n c lo hi : Nat) (v : Bool) (l : List Nat) (w : World) (h : Reads w w.heap.size 1 A n (l.map f32v)) (hf : ∀ x ∈ l, fin Ieee.single x = true) (hn : n ≤ 4096)
    (h1 : fin Ieee.single lo = true) (h2 : fin Ieee.single hi = true) (h3 : fge lo hi = false) :
    Calls Tryz.prog 8 #[.slice A n c, .agg #[.float .f32 lo, .float .f32 hi], .bool v] w fun e w' =>
      ∃ g, e = .returned (.tuple #[.slice (some ⟨g, 0, none⟩) n n, .int .i64 0]) ∧ w'.ownsRow w.heap.size 4 1 (.slice (some ⟨g, 0, none⟩) n n) n ((digL lo hi v l).map boolv) ∧ Below w.heap.size w w' := by
  have hb0 : Below w.heap.size w (w.alloc (.cells #[.float .f32 lo, .float .f32 hi] 38)).drew := ((Below.refl _ _).alloc (Nat.le_refl _) _).drew
  have q0 : CBlk (w.alloc (.cells #[.float .f32 lo, .float .f32 hi] 38)).drew w.heap.size #[.float .f32 lo, .float .f32 hi] 38 := CBlk.new w _ _ _ rfl
  have x0 := q0.cell 0
  have x1 := q0.cell 1
  have HC := Lib.hid (ncheckSamples_ok A n c l (w.alloc (.cells #[.float .f32 lo, .float .f32 hi] 38)).drew (h.later hb0) hf hn)
  have HL := Lib.hid (pcheckLevels_ok lo hi (w.alloc (.cells #[.float .f32 lo, .float .f32 hi] 38)).drew h1 h2 h3)
  clear h1 h2 h3 hf
  go_enter Tryz.func8, Tryz.ntmps8
  go_wp2_with fail
  go_region_held3 (fun w' => w'.cell? ⟨w.heap.size, 0, none⟩ = some (.float .f32 lo) ∧ w'.cell? ⟨w.heap.size, 1, none⟩ = some (.float .f32 hi))
    ((first | exact ⟨x0, x1⟩ | exact ⟨y0, y1⟩ | exact ⟨(World.cell?_alloc_lt _ _ _ k5).trans y0, (World.cell?_alloc_lt _ _ _ k5).trans y1⟩))
    (first
      | (go_at_call 28; refine (HC.out).mono ?_; rintro e w4 ⟨rfl, rfl⟩)
      | (go_at_call 29; refine (HL.out).mono ?_; rintro e w5 ⟨rfl, hb5⟩; have q5 := q0.below hb5 q0.lt; have y0 := q5.cell 0; have y1 := q5.cell 1; have k5 := q5.lt)
      | (go_at_call 22; refine (cfirst_two 0 0 w5 _ _ rfl).mono ?_; rintro e w6 ⟨rfl, rfl⟩))
  have hb6 : Below w5.heap.size w5 (w5.alloc (.cells #[.int .i64 0, .int .i64 0] 31)) := (Below.refl _ _).alloc (Nat.le_refl _) _
  have q6 := q5.below hb6 q5.lt
  have hB6 : Below w.heap.size w (w5.alloc (.cells #[.int .i64 0, .int .i64 0] 31)) := (hb0.trans (hb5.mono hb0.size)).trans (hb6.mono (hb0.trans (hb5.mono hb0.size)).size)
  generalize w5.alloc (.cells #[.int .i64 0, .int .i64 0] 31) = w6 at *
  have z0 := q6.cell 0
  have z1 := q6.cell 1
  clear x0 x1 y0 y1
  go_wp2_with fail
  refine (comparator_any lo hi v w6).mono ?_
  rintro e w7 ⟨rfl, rfl⟩
  go_wp2_with fail
  refine (trn_cmp A n c lo hi v l w6 (h.later hB6) hn).mono ?_
  rintro e w8 ⟨rfl, ho, hb8⟩
  go_wp2_with fail
  go_ret2
  exact ⟨_, rfl, own_mono ho hB6.size, hB6.trans (hb8.mono hB6.size)⟩

end Go.Proofs.YthmiamppfncfoaaGreatDoor

/- Contracts of probe's checkLines and Words, of valid lines. -/
namespace Go.Proofs.YthmiamppfncfoaaGreatDoor
open Go.RowKit

/-- the words while line b is laid: up to word i it is there -/
def wdRow (rows : List (List Bool)) (m b i : Nat) : List Nat := (List.range m).map fun j => if j < i then wd (rows.take (b + 1)) j else wd (rows.take b) j
theorem wdRow_len (rows : List (List Bool)) (m b i : Nat) : (wdRow rows m b i).length = m := by simp [wdRow]
theorem wdRow_at (rows : List (List Bool)) (m b i j : Nat) (h : j < m) : (wdRow rows m b i)[j]? = some (if j < i then wd (rows.take (b + 1)) j else wd (rows.take b) j) := by
  simp [wdRow, h]
theorem wdRow_next (rows : List (List Bool)) (m b : Nat) : wdRow rows m b m = wdRow rows m (b + 1) 0 := by
  apply List.ext_getElem?
  intro j
  by_cases hj : j < m
  · rw [wdRow_at _ _ _ _ _ hj, wdRow_at _ _ _ _ _ hj, if_pos hj, if_neg (by omega)]
  · rw [List.getElem?_eq_none (by rw [wdRow_len]; omega), List.getElem?_eq_none (by rw [wdRow_len]; omega)]
theorem wdRow_set (rows : List (List Bool)) (m b i x : Nat) (h : i < m) (hx : x = wd (rows.take (b + 1)) i) : (wdRow rows m b i).set i x = wdRow rows m b (i + 1) := by
  apply List.ext_getElem?
  intro j
  by_cases hj : j < m
  · by_cases e : j = i
    · subst e
      rw [List.getElem?_set_self (by rw [wdRow_len]; exact h), wdRow_at _ _ _ _ _ hj, if_pos (by omega), hx]
    · rw [List.getElem?_set_ne (by omega), wdRow_at _ _ _ _ _ hj, wdRow_at _ _ _ _ _ hj]
      by_cases h2 : j < i
      · rw [if_pos h2, if_pos (by omega)]
      · rw [if_neg h2, if_neg (by omega)]
  · rw [List.getElem?_eq_none (by rw [List.length_set, wdRow_len]; omega), List.getElem?_eq_none (by rw [wdRow_len]; omega)]
theorem wdRow_skip (rows : List (List Bool)) (m b i : Nat) (h : i < m) (hx : wd (rows.take (b + 1)) i = wd (rows.take b) i) : wdRow rows m b i = wdRow rows m b (i + 1) := by
  rw [← wdRow_set rows m b i (wd (rows.take b) i) h hx.symm]
  apply List.ext_getElem?
  intro j
  by_cases e : j = i
  · subst e
    rw [List.getElem?_set_self (by rw [wdRow_len]; exact h), wdRow_at _ _ _ _ _ h, if_neg (by omega)]
  · rw [List.getElem?_set_ne (by omega)]
theorem wd_take (rows : List (List Bool)) (b i : Nat) (h : b < rows.length) : wd (rows.take (b + 1)) i = wd (rows.take b) i + (if rows[b].getD i false then 2 ^ b else 0) := by
  rw [List.take_succ_eq_append_getElem h, wd_snoc, List.length_take, Nat.min_eq_left (by omega)]
theorem wdRow_zero (rows : List (List Bool)) (m : Nat) : wdRow rows m 0 0 = List.replicate m 0 := by
  apply List.ext_getElem?
  intro j
  by_cases hj : j < m
  · rw [wdRow_at _ _ _ _ _ hj, if_neg (by omega), List.getElem?_replicate, if_pos hj]; rfl
  · rw [List.getElem?_eq_none (by rw [wdRow_len]; omega), List.getElem?_eq_none (by simp; omega)]
theorem wdRow_end (rows : List (List Bool)) (m n : Nat) (h : rows.length = n) : wdRow rows m n 0 = (List.range m).map (wd rows) := by
  unfold wdRow
  apply List.map_congr_left
  intro j _
  rw [if_neg (by omega), List.take_of_length_le (by omega)]

set_option maxHeartbeats 2000000 in
set_option maxRecDepth 100000 in
theorem checkLines_ok (A : Option Addr) (n c m : Nat) (rows : List (List Bool)) (w : World) (h : RowsR boolv w w.heap.size A n rows) (h0 : 1 ≤ n) (hn : n ≤ 16) (hm : ∀ r ∈ rows, r.length = m) (hm2 : m ≤ 4096) :
    Calls Tryz.prog 32 #[.slice A n c] w fun e w' => e = .returned (.int .i64 0) ∧ Below w.heap.size w w' := by
  obtain ⟨ad, hr0, A0, c0, rfl, hb0, hc0, _, _, _⟩ := h.row (k := 0) (by omega)
  have hz : Addr.add ad 0 = ad := rfl
  rw [hz] at hc0
  rw [hm rows[0] (List.getElem_mem hr0)] at hc0
  have hcd : w.drew.cell? ad = some (.slice A0 m c0) := hc0
  have hp0 : (0 : Int) < (n : Int) := by omega
  have hp1 : 0 < n := by omega
  have hp2 : n ≠ 0 := by omega
  have hd0 : ((n : Int) == 0) = false := by rw [beq_eq_false_iff_ne]; omega
  have e1 : (if (16 : Int) < (n : Int) then (5 : Int) else 0) = 0 := if_neg (by omega)
  have e2 : (if (4096 : Int) < (m : Int) then (5 : Int) else 0) = 0 := if_neg (by omega)
  have H1 := catMost_bools (some ad) n c 16 w.drew
  have H2 := catMost_bool A0 m c0 4096 w.drew
  rw [e1] at H1
  rw [e2] at H2
  have K1 := Lib.hid H1
  have K2 := Lib.hid H2
  have HM := Lib.hid hm
  clear H1 H2 e1 e2 hz hm
  go_enter Tryz.func32, Tryz.ntmps32
  go_wp2_with fail
  go_region_held3 (fun w' => w'.cell? ad = some (.slice A0 m c0))
    ((first | exact hcd | exact (World.cell?_alloc_lt _ _ _ (by simpa using hb0)).trans hcd))
    (first
      | (go_at_call 61; refine (K1.out).mono ?_; rintro e w4 ⟨rfl, rfl⟩)
      | (go_at_call 40; refine (K2.out).mono ?_; rintro e w5 ⟨rfl, rfl⟩)
      | (go_at_call 22; refine (cfirst_two 0 0 w.drew 31 w.heap.size rfl).mono ?_; rintro e w6 ⟨rfl, rfl⟩))
  have hB : Below w.heap.size w (w.alloc (.cells #[.int .i64 0, .int .i64 0] 31)).drew := ((Below.refl _ _).alloc (Nat.le_refl _) _).drew
  generalize (w.alloc (.cells #[.int .i64 0, .int .i64 0] 31)).drew = w1 at *
  have hc1 : w1.cell? ad = some (.slice A0 m c0) := (hB.cell hb0).trans hc0
  have hmm : ((m : Int) != (m : Int)) = false := by simp
  go_wp2
  go_loop [22] (fun s => ∃ k : Nat, k ≤ n ∧ s = .int .i64 k) (fun s => n - (intOf s).toNat)
  case atStart => exact ⟨0, Nat.zero_le _, rfl⟩
  case round =>
    obtain ⟨k, hk, rfl⟩ := hrel
    by_cases hkn : k < n
    · obtain ⟨ad', hkl, A', c', he, hb', hc', _, _, _⟩ := (h.below hB).row hkn
      injection he with he
      subst he
      rw [HM.out rows[k] (List.getElem_mem hkl)] at hc'
      go_wp2
      go_round
      case rel => exact ⟨k + 1, by omega, by go_num⟩
      case measure => simp [intOf]; omega
    · go_wp2
      go_ret
      exact ⟨rfl, hB⟩

end Go.Proofs.YthmiamppfncfoaaGreatDoor
