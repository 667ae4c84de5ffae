/- Contract of package probe's code: where a voltage lies among the edges. -/
import Derived.Test.YtboaojkblmddkaaGreatDoorCFl4
import Derived.Test.YtboaojkblmddkaaGreatDoorCFlt
import Derived.Test.YtboaojkblmddkaaGreatDoorCRat4
import Derived.Laws.Cover2
import Derived.Test.YtboaojkblmddkaaGreatDoorCNat1
namespace Go.Proofs.YtboaojkblmddkaaGreatDoor
open Go.RowKit Bn
open Flt

theorem code1_enter (args : Array Value) (w : World) : (callFunc 120 args).run Tryz.prog w = .ok (.enter 120 args) w := by kernel_rfl

/-- a block of plain cells -/
def BlkAt (w : World) (g : Nat) (c : Array Value) (t : TypeId) : Prop := w.heap[g]? = some (.cells c t (0, 0))
theorem BlkAt.new (w : World) (c : Array Value) (t : TypeId) (g : Nat) (hg : g = w.heap.size) : BlkAt (w.alloc (.cells c t)) g c t := by subst hg; exact heap_alloc_new w _
theorem BlkAt.below {w w' : World} {g B : Nat} {c : Array Value} {t : TypeId} (h : BlkAt w g c t) (hb : Below B w w') (hg : g < B) : BlkAt w' g c t := (hb.block g hg).trans h
theorem BlkAt.cell {w : World} {g : Nat} {c : Array Value} {t : TypeId} (h : BlkAt w g c t) (i : Nat) : w.cell? ⟨g, i, none⟩ = c[i]? := cell_of_row w g i _ _ _ h
theorem BlkAt.lt {w : World} {g : Nat} {c : Array Value} {t : TypeId} (h : BlkAt w g c t) : g < w.heap.size := by
  unfold BlkAt at h
  rcases Nat.lt_or_ge g w.heap.size with hlt | hge
  · exact hlt
  · rw [Array.getElem?_eq_none hge] at h; cases h

set_option maxHeartbeats 4000000 in
set_option maxRecDepth 100000 in
theorem code_any (s : ByteArray) (a k : Nat) (st z : Int) (g o : Value) (w : World) (hT : Tabs w) (hs : s.size ≤ 4294967296) (ha : a ≤ 12) (hz : 0 ≤ z ∧ z ≤ 8192) (he : -149 ≤ st - 1) (he2 : st - 1 ≤ 100)
    (hk : k ≤ 2 ^ a + 1) (hlo : ∀ t : Nat, t < k → belowB s.data.toList (nearF s.data.toList) (nomW (2 * ((t : Int) - z) - 1) (st - 1)) = false)
    (hhi : ∀ t : Nat, k ≤ t → t < 2 ^ a + 1 → belowB s.data.toList (nearF s.data.toList) (nomW (2 * ((t : Int) - z) - 1) (st - 1)) = true) :
    Calls Tryz.prog 85 #[.agg #[.int .i64 a, .int .i64 st, .int .i64 z, g, o], .string s] w fun e w' =>
      e = .returned (.tuple #[.int .i64 (if k = 0 then 0 else if k = 2 ^ a + 1 then ((2 ^ a - 1 : Nat) : Int) else (k : Int) - 1), .int .i64 (if k = 0 then -1 else if k = 2 ^ a + 1 then 1 else 0)]) ∧ Below w.heap.size w w' := by
  have hp : 2 ^ a ≤ 4096 := by
    have := Nat.pow_le_pow_right (show 0 < 2 by omega) ha
    have e : (2 : Nat) ^ 12 = 4096 := by decide
    omega
  have hp0 := Nat.two_pow_pos a
  have htop := fun W : World => top_any a st z g o W (by omega)
  have hT1 : 2 ^ a + 1 = (2 ^ a - 1) + 2 := by omega
  rw [hT1] at hk hhi ⊢
  generalize hTT : 2 ^ a - 1 = T at *
  have hTb : T ≤ 4096 := by omega
  clear hTT hp hp0 hT1
  have HTOP := Lib.hid htop
  clear htop
  generalize hC : (if k = 0 then (0 : Int) else if k = T + 2 then (T : Int) else (k : Int) - 1) = C
  generalize hD : (if k = 0 then (-1 : Int) else if k = T + 2 then 1 else 0) = D
  have HC := Lib.hid hC
  have HD := Lib.hid hD
  clear hC hD
  have hb0 : Below w.heap.size w ((w.alloc (.cells #[.int .i64 a, .int .i64 st, .int .i64 z, g, o] 91)).alloc (.cells #[.string s] 89)) := ((Below.refl _ _).alloc (Nat.le_refl _) _).alloc (by simp) _
  have hnf := nearestFloat_any s _ (hT.later hb0) hs
  generalize nearF s.data.toList = nf at *
  have HNF := Lib.hid hnf
  have HL := Lib.hid hlo
  have HH := Lib.hid hhi
  clear hnf hlo hhi
  go_enter Tryz.func85, Tryz.ntmps85
  go_wp2_with fail
  refine HNF.out.mono ?_
  rintro e w1 ⟨rfl, hb1⟩
  have hB1 : Below w.heap.size w w1 := hb0.trans (hb1.mono (by simp; omega))
  have q1 : BlkAt w1 w.heap.size #[.int .i64 a, .int .i64 st, .int .i64 z, g, o] 91 := ((BlkAt.new w _ _ _ rfl).below ((Below.refl _ _).alloc (Nat.le_refl _) _) (by simp)).below hb1 (by simp; omega)
  have r1 : BlkAt w1 (w.heap.size + 1) #[.string s] 89 := (BlkAt.new _ _ _ _ (by simp)).below hb1 (by simp)
  have hb2 : Below w1.heap.size w1 (w1.alloc (.cells #[.float .f32 nf] 23)) := (Below.refl _ _).alloc (Nat.le_refl _) _
  have q2 := q1.below hb2 q1.lt
  have r2 := r1.below hb2 r1.lt
  have f2 := BlkAt.new w1 #[.float .f32 nf] 23 w1.heap.size rfl
  have hB2 : Below w.heap.size w (w1.alloc (.cells #[.float .f32 nf] 23)) := hB1.trans (hb2.mono hB1.size)
  have y0 := q1.cell 0
  have y1 := q1.cell 1
  have y2 := q1.cell 2
  have y3 := q1.cell 3
  have y4 := q1.cell 4
  have hmf : ∀ (fn : Fn) (first cap : Array Value) (w : World), (Instr.makeFunc fn first cap).run Tryz.prog w = .ok (.func fn first cap) w := fun _ _ _ _ => rfl
  have hql := q1.lt
  have hst := fun (W : World) (a : Addr) (x : Nat) (m : _) => run_store Tryz.prog W a (.float .f32 x) m rfl
  go_wp2_with fail
  refine (HTOP.out _).mono ?_
  rintro e w3 ⟨rfl, hb3⟩
  have q3 := q2.below hb3 q2.lt
  have r3 := r2.below hb3 r2.lt
  have f3 := f2.below hb3 f2.lt
  have hB3 : Below w.heap.size w w3 := hB2.trans (hb3.mono hB2.size)
  have hT3 : Tabs w3 := hT.later hB3
  have w2' : wrap64 ((T : Int) + 2) = ((T + 2 : Nat) : Int) := by rw [IntWalk.wrap64_in _ (by omega)]; omega
  have w3' : wrap64 ((k : Int) - 1) = (k : Int) - 1 := IntWalk.wrap64_in _ (by omega)
  have hse := search_any 120 #[.pointer (some ⟨w.heap.size + 1, 0, none⟩), .pointer (some ⟨w1.heap.size, 0, none⟩), .pointer (some ⟨w.heap.size, 0, none⟩)] (T + 2) k (fun t => belowB s.data.toList nf (nomW (2 * ((t : Int) - z) - 1) (st - 1))) w3 code1_enter (by omega) hk HL.out HH.out (by
    intro W i hW hi
    have q4 := q3.below hW q3.lt
    have r4 := r3.below hW r3.lt
    have f4 := f3.below hW f3.lt
    have := code1_any s nf (w.heap.size + 1) w1.heap.size w.heap.size a st z i g o W (hT3.later hW) hs (by omega) (by omega) he he2 (r4.cell 0) (f4.cell 0) (q4.cell 0) (q4.cell 1) (q4.cell 2) (q4.cell 3) (q4.cell 4) r4.lt f4.lt q4.lt
    exact this.mono fun e w' ⟨h1, h2⟩ => ⟨h1, h2.mono hW.size⟩)
  have HS := Lib.hid hse
  clear hse
  clear y0 y1 y2 y3 y4
  go_wp2_with fail
  refine HS.out.mono ?_
  rintro e w4 ⟨rfl, hb4⟩
  have q4 := q3.below hb4 q3.lt
  have hB4 : Below w.heap.size w w4 := hB3.trans (hb4.mono hB3.size)
  have y0 := q4.cell 0
  have y1 := q4.cell 1
  have y2 := q4.cell 2
  have y3 := q4.cell 3
  have y4 := q4.cell 4
  clear HS HNF HL HH
  by_cases hk0 : k = 0
  · subst hk0
    have hC : C = 0 := by have := HC.out; rw [if_pos rfl] at this; exact this.symm
    have hD : D = -1 := by have := HD.out; rw [if_pos rfl] at this; exact this.symm
    have HC2 := Lib.hid hC
    have HD2 := Lib.hid hD
    clear hC hD HC HD
    go_wp2_with fail
    go_ret2
    exact ⟨by rw [HC2.out, HD2.out]; rfl, hB4⟩
  · have hd0 : decide ((k : Int) - 1 < 0) = false := by simpa using (show ¬ ((k : Int) - 1 < 0) from by omega)
    by_cases hkT : k = T + 2
    · have hd1 : decide ((T : Int) < (k : Int) - 1) = true := by simpa using (show (T : Int) < (k : Int) - 1 from by omega)
      have hC : C = T := by have := HC.out; rw [if_neg hk0, if_pos hkT] at this; exact this.symm
      have hD : D = 1 := by have := HD.out; rw [if_neg hk0, if_pos hkT] at this; exact this.symm
      have HC2 := Lib.hid hC
      have HD2 := Lib.hid hD
      clear hC hD HC HD
      go_wp2_with fail
      refine (HTOP.out _).mono ?_
      rintro e w5 ⟨rfl, hb5⟩
      have q5 := q4.below hb5 q4.lt
      have hB5 : Below w.heap.size w w5 := hB4.trans (hb5.mono hB4.size)
      have y0 := q5.cell 0
      have y1 := q5.cell 1
      have y2 := q5.cell 2
      have y3 := q5.cell 3
      have y4 := q5.cell 4
      go_wp2_with fail
      refine (HTOP.out _).mono ?_
      rintro e w6 ⟨rfl, hb6⟩
      go_wp2_with fail
      go_ret2
      exact ⟨by rw [HC2.out, HD2.out]; rfl, hB5.trans (hb6.mono hB5.size)⟩
    · have hd1 : decide ((T : Int) < (k : Int) - 1) = false := by simpa using (show ¬ ((T : Int) < (k : Int) - 1) from by omega)
      have hC : C = (k : Int) - 1 := by have := HC.out; rw [if_neg hk0, if_neg hkT] at this; exact this.symm
      have hD : D = 0 := by have := HD.out; rw [if_neg hk0, if_neg hkT] at this; exact this.symm
      have HC2 := Lib.hid hC
      have HD2 := Lib.hid hD
      clear hC hD HC HD
      go_wp2_with fail
      refine (HTOP.out _).mono ?_
      rintro e w5 ⟨rfl, hb5⟩
      go_wp2_with fail
      go_ret2
      exact ⟨by rw [HC2.out, HD2.out]; rfl, hB4.trans (hb5.mono hB4.size)⟩

end Go.Proofs.YtboaojkblmddkaaGreatDoor

/- Contracts of package common's small functions: AtMost, InRange, FirstError, PositiveZero. -/
namespace Go.Proofs.YtboaojkblmddkaaGreatDoor
open Go.RowKit

theorem catMost_u16 (A : Option Addr) (n c : Nat) (k : Int) (w : World) : Calls Tryz.prog 67 #[.slice A n c, .int .i64 k] w fun e w' => e = .returned (.int .i64 (if k < n then 5 else 0)) ∧ w = w' := by
  go_enter Tryz.func67, Tryz.ntmps67
  by_cases h : k < n
  · rw [if_pos h]
    go_wp2
    go_ret
    exact ⟨rfl, rfl⟩
  · rw [if_neg h]
    go_wp2
    go_ret
    exact ⟨rfl, rfl⟩

theorem catMost_block (A : Option Addr) (n c : Nat) (k : Int) (w : World) : Calls Tryz.prog 72 #[.slice A n c, .int .i64 k] w fun e w' => e = .returned (.int .i64 (if k < n then 5 else 0)) ∧ w = w' := by
  go_enter Tryz.func72, Tryz.ntmps72
  by_cases h : k < n
  · rw [if_pos h]
    go_wp2
    go_ret
    exact ⟨rfl, rfl⟩
  · rw [if_neg h]
    go_wp2
    go_ret
    exact ⟨rfl, rfl⟩

theorem catMost_bool (A : Option Addr) (n c : Nat) (k : Int) (w : World) : Calls Tryz.prog 61 #[.slice A n c, .int .i64 k] w fun e w' => e = .returned (.int .i64 (if k < n then 5 else 0)) ∧ w = w' := by
  go_enter Tryz.func61, Tryz.ntmps61
  by_cases h : k < n
  · rw [if_pos h]
    go_wp2
    go_ret
    exact ⟨rfl, rfl⟩
  · rw [if_neg h]
    go_wp2
    go_ret
    exact ⟨rfl, rfl⟩

theorem catMost_int (A : Option Addr) (n c : Nat) (k : Int) (w : World) : Calls Tryz.prog 63 #[.slice A n c, .int .i64 k] w fun e w' => e = .returned (.int .i64 (if k < n then 5 else 0)) ∧ w = w' := by
  go_enter Tryz.func63, Tryz.ntmps63
  by_cases h : k < n
  · rw [if_pos h]
    go_wp2
    go_ret
    exact ⟨rfl, rfl⟩
  · rw [if_neg h]
    go_wp2
    go_ret
    exact ⟨rfl, rfl⟩

theorem catMost_floats (A : Option Addr) (n c : Nat) (k : Int) (w : World) : Calls Tryz.prog 111 #[.slice A n c, .int .i64 k] w fun e w' => e = .returned (.int .i64 (if k < n then 5 else 0)) ∧ w = w' := by
  go_enter Tryz.func111, Tryz.ntmps111
  by_cases h : k < n
  · rw [if_pos h]
    go_wp2
    go_ret
    exact ⟨rfl, rfl⟩
  · rw [if_neg h]
    go_wp2
    go_ret
    exact ⟨rfl, rfl⟩

theorem catMost_bools (A : Option Addr) (n c : Nat) (k : Int) (w : World) : Calls Tryz.prog 108 #[.slice A n c, .int .i64 k] w fun e w' => e = .returned (.int .i64 (if k < n then 5 else 0)) ∧ w = w' := by
  go_enter Tryz.func108, Tryz.ntmps108
  by_cases h : k < n
  · rw [if_pos h]
    go_wp2
    go_ret
    exact ⟨rfl, rfl⟩
  · rw [if_neg h]
    go_wp2
    go_ret
    exact ⟨rfl, rfl⟩

set_option maxHeartbeats 400000 in
theorem cfirst_any (A : Option Addr) (n c : Nat) (l : List Int) (w : World) (h : Reads w w.heap.size 1 A n (l.map i64v)) (hn : n ≤ maxLen) :
    Calls Tryz.prog 57 #[.slice A n c] w fun e w' => e = .returned (.int .i64 (firstE l)) ∧ w = w' := by
  unfold maxLen at hn
  have hl : l.length = n := by have := h.1; rw [List.length_map] at this; omega
  go_enter Tryz.func57, Tryz.ntmps57
  go_wp2
  have HL := Lib.hid hl
  clear hl
  go_loop [7] (fun s => ∃ k : Nat, k ≤ n ∧ s = .int .i64 k ∧ Hid (firstE l = firstE (l.drop k))) (fun s => n - (intOf s).toNat)
  case atStart => exact ⟨0, Nat.zero_le _, rfl, rfl⟩
  case round =>
    obtain ⟨k, hk, rfl, hf⟩ := hrel
    by_cases h0 : k < n
    · obtain ⟨ad, u, rfl, hb, hu, hcell⟩ := h.at_ h0
      have hkl : k < l.length := by have := HL.out; omega
      have hu2 : u = .int .i64 l[k] := by
        rw [List.getElem?_map, List.getElem?_eq_getElem hkl] at hu
        injection hu with hu; exact hu.symm
      have hf2 := hf.out
      rw [List.drop_eq_getElem_cons hkl] at hf2
      generalize l[k] = x at hu2 hf2
      subst hu2
      by_cases hx : x = 0
      · subst hx
        have hf3 : Hid (firstE l = firstE (l.drop (k + 1))) := by unfold Hid; rw [hf2]; rfl
        clear hf2 hu
        go_wp2
        go_round
        case rel => exact ⟨k + 1, by omega, by go_num, hf3⟩
        case measure => simp [intOf]; omega
      · have hf3 : Hid (firstE l = x) := by unfold Hid; rw [hf2]; unfold firstE; rw [if_pos hx]
        have hx1 : (x != 0) = true := by simpa using hx
        clear hf2 hu hx
        go_wp2
        go_ret
        exact ⟨by rw [hf3.out]; rfl, rfl⟩
    · have hk2 : k = n := by omega
      have hf3 : Hid (firstE l = 0) := by
        unfold Hid; rw [hf.out, List.drop_eq_nil_of_le (by have := HL.out; omega)]; rfl
      clear hk2
      go_wp2
      go_ret
      exact ⟨by rw [hf3.out]; rfl, rfl⟩

/-- two errors, laid out as a slice -/
theorem cfirst_two (x y : Int) (w : World) (t : TypeId) (g : Nat) (hg : w.heap.size = g) :
    Calls Tryz.prog 57 #[.slice (some ⟨g, 0, none⟩) 2 2] (w.alloc (.cells #[.int .i64 x, .int .i64 y] t)) fun e w' => e = .returned (.int .i64 (if x ≠ 0 then x else y)) ∧ w.alloc (.cells #[.int .i64 x, .int .i64 y] t) = w' := by
  subst hg
  have h := cfirst_any (some ⟨w.heap.size, 0, none⟩) 2 2 [x, y] (w.alloc (.cells #[.int .i64 x, .int .i64 y] t)) (Reads.lit w [.int .i64 x, .int .i64 y] t) (by unfold maxLen; omega)
  have e : firstE [x, y] = if x ≠ 0 then x else y := by unfold firstE; split <;> (try rfl); unfold firstE; split <;> simp_all [firstE]
  rwa [e] at h

/-- three times no error -/
theorem cfirst_three (w : World) (t : TypeId) (g : Nat) (hg : w.heap.size = g) :
    Calls Tryz.prog 57 #[.slice (some ⟨g, 0, none⟩) 3 3] (w.alloc (.cells #[.int .i64 0, .int .i64 0, .int .i64 0] t)) fun e w' => e = .returned (.int .i64 0) ∧ w.alloc (.cells #[.int .i64 0, .int .i64 0, .int .i64 0] t) = w' := by
  subst hg
  exact cfirst_any (some ⟨w.heap.size, 0, none⟩) 3 3 [0, 0, 0] (w.alloc (.cells #[.int .i64 0, .int .i64 0, .int .i64 0] t)) (Reads.lit w [.int .i64 0, .int .i64 0, .int .i64 0] t) (by unfold maxLen; omega)

theorem cinRange_any (n a b : Int) (w : World) :
    Calls Tryz.prog 64 #[.int .i64 n, .int .i64 a, .int .i64 b] w fun e w' => e = .returned (.int .i64 (rangeE n a b)) ∧ w = w' := by
  by_cases h1 : n < a
  · have d1 : decide (n < a) = true := by simpa using h1
    have hv : Hid (rangeE n a b = 3) := by unfold Hid rangeE; rw [if_pos (.inl h1)]
    go_enter Tryz.func64, Tryz.ntmps64
    go_wp2
    go_ret
    exact ⟨by rw [hv.out]; rfl, rfl⟩
  · have d1 : decide (n < a) = false := by simpa using h1
    by_cases h2 : b < n
    · have d2 : decide (b < n) = true := by simpa using h2
      have hv : Hid (rangeE n a b = 3) := by unfold Hid rangeE; rw [if_pos (.inr h2)]
      go_enter Tryz.func64, Tryz.ntmps64
      go_wp2
      go_ret
      exact ⟨by rw [hv.out]; rfl, rfl⟩
    · have d2 : decide (b < n) = false := by simpa using h2
      have hv : Hid (rangeE n a b = 0) := by unfold Hid rangeE; rw [if_neg (by omega)]
      go_enter Tryz.func64, Tryz.ntmps64
      go_wp2
      go_ret
      exact ⟨by rw [hv.out]; rfl, rfl⟩

theorem cposZero_any (x : Nat) (w : World) : Calls Tryz.prog 79 #[.float .f32 x] w fun e w' => e = .returned (.float .f32 (if FloatKind.f32.format.order x 0 == some .eq then 0 else x)) ∧ w = w' := by
  go_enter Tryz.func79, Tryz.ntmps79
  by_cases h : (FloatKind.f32.format.order x 0 == some .eq) = true
  · rw [if_pos h]
    go_wp2
    go_ret
    exact ⟨rfl, rfl⟩
  · rw [if_neg h]
    have h' : (FloatKind.f32.format.order x 0 == some .eq) = false := by simpa using h
    go_wp2
    go_ret
    exact ⟨rfl, rfl⟩

end Go.Proofs.YtboaojkblmddkaaGreatDoor

/- Slices of slices, and rows of one's own, in words; what is kept while only one block turns. -/
namespace Go.Proofs.YtboaojkblmddkaaGreatDoor
open Go.RowKit

def f32v (x : Nat) : Value := .float .f32 x
def boolv (b : Bool) : Value := .bool b
def u16v (d : Nat) : Value := .int .u16 (d : Int)
def natv (d : Nat) : Value := .int .i64 (d : Int)
theorem f32v_one : ∀ l : List Nat, ∀ u ∈ l.map f32v, u.oneCell' = true := by
  intro l u hu
  obtain ⟨d, _, rfl⟩ := List.mem_map.1 hu
  rfl
theorem boolv_one : ∀ l : List Bool, ∀ u ∈ l.map boolv, u.oneCell' = true := by
  intro l u hu
  obtain ⟨d, _, rfl⟩ := List.mem_map.1 hu
  rfl
theorem u16v_one : ∀ l : List Nat, ∀ u ∈ l.map u16v, u.oneCell' = true := by
  intro l u hu
  obtain ⟨d, _, rfl⟩ := List.mem_map.1 hu
  rfl
theorem natv_one : ∀ l : List Nat, ∀ u ∈ l.map natv, u.oneCell' = true := by
  intro l u hu
  obtain ⟨d, _, rfl⟩ := List.mem_map.1 hu
  rfl
theorem i64v_one : ∀ l : List Int, ∀ u ∈ l.map i64v, u.oneCell' = true := by
  intro l u hu
  obtain ⟨d, _, rfl⟩ := List.mem_map.1 hu
  rfl

/-- the cell with an index of a slice that reads as a mapped list -/
theorem Reads.cellM {α : Type} {w : World} {B n : Nat} {A : Option Addr} {l : List α} {f : α → Value} (h : Reads w B 1 A n (l.map f)) {k : Nat} (hk : k < n) :
    ∃ (ad : Addr) (hl : k < l.length), A = some ad ∧ ad.block < B ∧ w.cell? (ad.add k) = some (f l[k]) := by
  obtain ⟨ad, u, hA, hb, hu, hc⟩ := h.at_ hk
  have hl : k < l.length := by have := h.1; rw [List.length_map] at this; omega
  rw [List.getElem?_map, List.getElem?_eq_getElem hl] at hu
  injection hu with hu
  exact ⟨ad, hl, hA, hb, by rw [hc, ← hu]⟩
theorem Reads.lenM {α : Type} {w : World} {B n : Nat} {A : Option Addr} {l : List α} {f : α → Value} (h : Reads w B 1 A n (l.map f)) : l.length = n := by
  have := h.1; rw [List.length_map] at this; omega
theorem Reads.later {w w' : World} {size n : Nat} {A : Option Addr} {xs : List Value} (h : Reads w w.heap.size size A n xs) (hb : Below w.heap.size w w') : Reads w' w'.heap.size size A n xs := (h.below hb).more hb.size
theorem Reads.keptBy {w w' : World} {size n g : Nat} {A : Option Addr} {xs : List Value} (h : Reads w w.heap.size size A n xs) (hg : w.grownBy w' (some g)) (ho : 0 < n → Off A g) : Reads w' w'.heap.size size A n xs :=
  ⟨h.1, fun hn => by
    obtain ⟨ad, e, hb, hc⟩ := h.2 hn
    refine ⟨ad, e, Nat.lt_of_lt_of_le hb hg.size, fun j u hu => ?_⟩
    rw [← hc j u hu]
    exact World.cell?_of_block (hg.block (ad.add j).block (by rw [block_of_add]; omega) (by rw [block_of_add]; intro e'; exact ho hn ad e (by injection e')))⟩

/-- the slice (A, n) reads as these rows -/
def RowsR {α : Type} (f : α → Value) (w : World) (B : Nat) (A : Option Addr) (n : Nat) (rows : List (List α)) : Prop :=
  rows.length = n ∧ ∃ vs : List Value, Reads w B 1 A n vs ∧ ∀ i (h : i < rows.length), ∃ A' c', vs[i]? = some (.slice A' rows[i].length c') ∧ rows[i].length ≤ c' ∧ c' ≤ maxLen ∧ Reads w B 1 A' rows[i].length (rows[i].map f)

section
variable {α : Type} {f : α → Value} {w w' : World} {B B' n : Nat} {A : Option Addr} {rows : List (List α)}
theorem RowsR.below (h : RowsR f w B A n rows) (hb : Below B w w') : RowsR f w' B A n rows := by
  obtain ⟨hl, vs, hr, hv⟩ := h
  exact ⟨hl, vs, hr.below hb, fun i hi => by
    obtain ⟨A', c', h1, h2, h3, h4⟩ := hv i hi
    exact ⟨A', c', h1, h2, h3, h4.below hb⟩⟩
theorem RowsR.more (h : RowsR f w B A n rows) (hB : B ≤ B') : RowsR f w B' A n rows := by
  obtain ⟨hl, vs, hr, hv⟩ := h
  exact ⟨hl, vs, hr.more hB, fun i hi => by
    obtain ⟨A', c', h1, h2, h3, h4⟩ := hv i hi
    exact ⟨A', c', h1, h2, h3, h4.more hB⟩⟩
theorem RowsR.later (h : RowsR f w w.heap.size A n rows) (hb : Below w.heap.size w w') : RowsR f w' w'.heap.size A n rows := (h.below hb).more hb.size
/-- the row with an index -/
theorem RowsR.row (h : RowsR f w B A n rows) {k : Nat} (hk : k < n) :
    ∃ (ad : Addr) (hl : k < rows.length) (A' : Option Addr) (c' : Nat), A = some ad ∧ ad.block < B ∧ w.cell? (ad.add k) = some (.slice A' rows[k].length c') ∧ rows[k].length ≤ c' ∧ c' ≤ maxLen ∧ Reads w B 1 A' rows[k].length (rows[k].map f) := by
  obtain ⟨hl, vs, hr, hv⟩ := h
  have hk2 : k < rows.length := by omega
  obtain ⟨A', c', h1, h2, h3, h4⟩ := hv k hk2
  obtain ⟨ad, u, hA, hb, hu, hc⟩ := hr.at_ hk
  rw [h1] at hu
  injection hu with hu
  exact ⟨ad, hk2, A', c', hA, hb, by rw [hc, ← hu], h2, h3, h4⟩
end

/-! ### rows of one's own, whatever they hold -/
theorem gtrans {a b c : World} {row : Option Nat} (h : a.grownBy b row) (k : b.grownBy c row) : a.grownBy c row :=
  ⟨k.os.trans h.os, k.tape.trans h.tape, k.output.trans h.output, Nat.le_trans h.size k.size, fun i hi hne => (k.block i (Nat.lt_of_lt_of_le hi h.size) hne).trans (h.block i hi hne)⟩
theorem gbelow {a b c : World} {row : Option Nat} (h : a.grownBy b row) (k : Below b.heap.size b c) : a.grownBy c row := gtrans h (only_of_below k _)
/-- a turn of a block that is new is none -/
theorem gnew {a b c : World} {row : Option Nat} {g : Nat} (h : a.grownBy b row) (k : b.grownBy c (some g)) (hg : a.heap.size ≤ g) : a.grownBy c row :=
  ⟨k.os.trans h.os, k.tape.trans h.tape, k.output.trans h.output, Nat.le_trans h.size k.size, fun i hi hne => (k.block i (Nat.lt_of_lt_of_le hi h.size) (fun e => by injection e with e; omega)).trans (h.block i hi hne)⟩
theorem gset {a b : World} {row : Option Nat} (h : a.grownBy b row) {p : Addr} (hp : a.heap.size ≤ p.block) (u : Value) : a.grownBy (b.setCell p u) row :=
  ⟨h.os, h.tape, h.output, by simpa [World.setCell] using h.size, fun i hi hne => (Below.heap_setCell b p u i (by omega)).trans (h.block i hi hne)⟩
theorem gnone {a b : World} {B : Nat} (h : a.grownBy b none) (hB : B ≤ a.heap.size) : Below B a b := (Below.refl _ _).grown h hB (fun k e => by cases e)

theorem own_lt {w : World} {base g n c size : Nat} {e : TypeId} {xs : List Value} (h : w.ownsRow base e size (.slice (some ⟨g, 0, none⟩) n c) n xs) : base ≤ g ∧ g < w.heap.size := World.ownsRow.lt h g rfl
theorem own_kept {w w' : World} {base g n c size : Nat} {e : TypeId} {xs : List Value} {row : Option Nat} (h : w.ownsRow base e size (.slice (some ⟨g, 0, none⟩) n c) n xs) (hg : w.grownBy w' row) (hr : row ≠ some g) :
    w'.ownsRow base e size (.slice (some ⟨g, 0, none⟩) n c) n xs := World.ownsRow.kept h hg (.inr (by simpa [Value.ownBlock] using fun e => hr e.symm))
theorem own_set {w : World} {base g n c : Nat} {e : TypeId} {xs : List Value} (h : w.ownsRow base e 1 (.slice (some ⟨g, 0, none⟩) n c) n xs) (k : Nat) (u : Value) :
    (w.setCell ⟨g, k, none⟩ u).ownsRow base e 1 (.slice (some ⟨g, 0, none⟩) n c) n (xs.set k u) := (World.ownsRow.stored h k u).1
theorem own_cell {w : World} {base g n c : Nat} {e : TypeId} {xs : List Value} (h : w.ownsRow base e 1 (.slice (some ⟨g, 0, none⟩) n c) n xs) (k : Nat) (hk : k < n) : ∃ u, w.cell? ⟨g, k, none⟩ = some u := by
  rw [World.ownsRow.cellAt h k (by omega)]
  have := h.1
  exact ⟨_, List.getElem?_eq_getElem (by omega)⟩
theorem own_free {w : World} {base g n c : Nat} {e : TypeId} {xs : List Value} (h : w.ownsRow base e 1 (.slice (some ⟨g, 0, none⟩) n c) n xs) (k : Nat) : w.frozen? ⟨g, k, none⟩ = false := World.ownsRow.frozenAt h k

/-- a block of plain cells -/
def CBlk (w : World) (g : Nat) (c : Array Value) (t : TypeId) : Prop := w.heap[g]? = some (.cells c t (0, 0))
section
variable {w w' : World} {g B : Nat} {c : Array Value} {t : TypeId}
theorem CBlk.new (w : World) (c : Array Value) (t : TypeId) (g : Nat) (hg : g = w.heap.size) : CBlk (w.alloc (.cells c t)) g c t := by subst hg; exact heap_alloc_new w _
theorem CBlk.below (h : CBlk w g c t) (hb : Below B w w') (hg : g < B) : CBlk w' g c t := (hb.block g hg).trans h
theorem CBlk.grown {row : Option Nat} (h : CBlk w g c t) (hb : w.grownBy w' row) (hg : g < w.heap.size) (hr : row ≠ some g) : CBlk w' g c t := (hb.block g hg (fun e => hr e.symm)).trans h
theorem CBlk.cell (h : CBlk w g c t) (i : Nat) : w.cell? ⟨g, i, none⟩ = c[i]? := cell_of_row w g i _ _ _ h
theorem CBlk.frozen (h : CBlk w g c t) (i : Nat) : w.frozen? ⟨g, i, none⟩ = false := by
  unfold CBlk at h
  simp [World.frozen?, h]
theorem CBlk.lt (h : CBlk w g c t) : g < w.heap.size := by
  unfold CBlk at h
  rcases Nat.lt_or_ge g w.heap.size with hlt | hge
  · exact hlt
  · rw [Array.getElem?_eq_none hge] at h; cases h
theorem CBlk.set0 {v u : Value} (h : CBlk w g #[v] t) : CBlk (w.setCell ⟨g, 0, none⟩ u) g #[u] t := heap_setCell_same w g 0 #[v] t u h
end
theorem own_mono {w : World} {base base' size n : Nat} {e : TypeId} {v : Value} {xs : List Value} (h : w.ownsRow base e size v n xs) (hb : base' ≤ base) : w.ownsRow base' e size v n xs := by
  refine ⟨h.1, ?_⟩
  rcases h.2 with h' | ⟨g', cap', cur, h', hb', r⟩
  · exact .inl h'
  · exact .inr ⟨g', cap', cur, h', by omega, r⟩

/-- a row of one's own as a slice that reads -/
theorem own_slice {w : World} {base size n : Nat} {e : TypeId} {v : Value} {xs : List Value} (h : w.ownsRow base e size v n xs) : ∃ A c, v = .slice A n c ∧ n ≤ c ∧ c ≤ maxLen ∧ Reads w w.heap.size size A n xs := by
  rcases h.2 with ⟨rfl, rfl⟩ | ⟨g, cap, cur, rfl, hb, hg, hnc, hcm, hcs, htake⟩
  · exact ⟨none, 0, rfl, Nat.le_refl _, by unfold maxLen; omega, h.1, fun h0 => absurd h0 (by omega)⟩
  · exact ⟨some ⟨g, 0, none⟩, cap, rfl, hnc, hcm, Reads.of_own h⟩

/-- a full row of one's own, as a block -/
theorem own_block {w : World} {base size n g : Nat} {e : TypeId} {xs : List Value} (h : w.ownsRow base e size (.slice (some ⟨g, 0, none⟩) n n) n xs) : w.heap[g]? = some (.cells xs.toArray e (0, 0)) := by
  rcases h.2 with ⟨h', _⟩ | ⟨g', cap, cur, h', hb, hg, hnc, hcm, hcs, htake⟩
  · simp at h'
  · simp only [Value.slice.injEq, Option.some.injEq, Addr.mk.injEq, and_true, true_and] at h'
    obtain ⟨rfl, rfl⟩ := h'
    rw [List.take_of_length_le (by rw [Array.length_toList, hcs]; exact Nat.le_refl _)] at htake
    rw [← htake]
    exact hg
theorem own_of_block {w : World} {base size n g : Nat} {e : TypeId} {xs : List Value} (h : w.heap[g]? = some (.cells xs.toArray e (0, 0))) (hb : base ≤ g) (hn : n ≤ maxLen) (hl : xs.length = n * size) : w.ownsRow base e size (.slice (some ⟨g, 0, none⟩) n n) n xs :=
  ⟨hl, .inr ⟨g, n, xs.toArray, rfl, hb, h, Nat.le_refl _, hn, by simpa using hl, by rw [List.take_of_length_le (by simp; omega)]⟩⟩

end Go.Proofs.YtboaojkblmddkaaGreatDoor
