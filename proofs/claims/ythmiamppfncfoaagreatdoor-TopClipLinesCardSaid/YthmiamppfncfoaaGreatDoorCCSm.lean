/- Contracts of package common's small functions: AtMost, InRange, FirstError, PositiveZero. -/
import Derived.Test.YthmiamppfncfoaaGreatDoorCFlt
import Derived.Test.YthmiamppfncfoaaGreatDoorCErr0
import Derived.Laws.Cover2
namespace Go.Proofs.YthmiamppfncfoaaGreatDoor
open Go.RowKit

theorem catMost_u16 (A : Option Addr) (n c : Nat) (k : Int) (w : World) : Calls Tryz.prog 33 #[.slice A n c, .int .i64 k] w fun e w' => e = .returned (.int .i64 (if k < n then 5 else 0)) ∧ w = w' := by
  go_enter Tryz.func33, Tryz.ntmps33
  by_cases h : k < n
  · rw [if_pos h]
    go_wp2
    go_ret
    exact ⟨rfl, rfl⟩
  · rw [if_neg h]
    go_wp2
    go_ret
    exact ⟨rfl, rfl⟩

theorem catMost_block (A : Option Addr) (n c : Nat) (k : Int) (w : World) : Calls Tryz.prog 35 #[.slice A n c, .int .i64 k] w fun e w' => e = .returned (.int .i64 (if k < n then 5 else 0)) ∧ w = w' := by
  go_enter Tryz.func35, Tryz.ntmps35
  by_cases h : k < n
  · rw [if_pos h]
    go_wp2
    go_ret
    exact ⟨rfl, rfl⟩
  · rw [if_neg h]
    go_wp2
    go_ret
    exact ⟨rfl, rfl⟩

theorem catMost_bool (A : Option Addr) (n c : Nat) (k : Int) (w : World) : Calls Tryz.prog 40 #[.slice A n c, .int .i64 k] w fun e w' => e = .returned (.int .i64 (if k < n then 5 else 0)) ∧ w = w' := by
  go_enter Tryz.func40, Tryz.ntmps40
  by_cases h : k < n
  · rw [if_pos h]
    go_wp2
    go_ret
    exact ⟨rfl, rfl⟩
  · rw [if_neg h]
    go_wp2
    go_ret
    exact ⟨rfl, rfl⟩

theorem catMost_int (A : Option Addr) (n c : Nat) (k : Int) (w : World) : Calls Tryz.prog 41 #[.slice A n c, .int .i64 k] w fun e w' => e = .returned (.int .i64 (if k < n then 5 else 0)) ∧ w = w' := by
  go_enter Tryz.func41, Tryz.ntmps41
  by_cases h : k < n
  · rw [if_pos h]
    go_wp2
    go_ret
    exact ⟨rfl, rfl⟩
  · rw [if_neg h]
    go_wp2
    go_ret
    exact ⟨rfl, rfl⟩

theorem catMost_floats (A : Option Addr) (n c : Nat) (k : Int) (w : World) : Calls Tryz.prog 53 #[.slice A n c, .int .i64 k] w fun e w' => e = .returned (.int .i64 (if k < n then 5 else 0)) ∧ w = w' := by
  go_enter Tryz.func53, Tryz.ntmps53
  by_cases h : k < n
  · rw [if_pos h]
    go_wp2
    go_ret
    exact ⟨rfl, rfl⟩
  · rw [if_neg h]
    go_wp2
    go_ret
    exact ⟨rfl, rfl⟩

theorem catMost_bools (A : Option Addr) (n c : Nat) (k : Int) (w : World) : Calls Tryz.prog 61 #[.slice A n c, .int .i64 k] w fun e w' => e = .returned (.int .i64 (if k < n then 5 else 0)) ∧ w = w' := by
  go_enter Tryz.func61, Tryz.ntmps61
  by_cases h : k < n
  · rw [if_pos h]
    go_wp2
    go_ret
    exact ⟨rfl, rfl⟩
  · rw [if_neg h]
    go_wp2
    go_ret
    exact ⟨rfl, rfl⟩

set_option maxHeartbeats 400000 in
theorem cfirst_any (A : Option Addr) (n c : Nat) (l : List Int) (w : World) (h : Reads w w.heap.size 1 A n (l.map i64v)) (hn : n ≤ maxLen) :
    Calls Tryz.prog 22 #[.slice A n c] w fun e w' => e = .returned (.int .i64 (firstE l)) ∧ w = w' := by
  unfold maxLen at hn
  have hl : l.length = n := by have := h.1; rw [List.length_map] at this; omega
  go_enter Tryz.func22, Tryz.ntmps22
  go_wp2
  have HL := Lib.hid hl
  clear hl
  go_loop [7] (fun s => ∃ k : Nat, k ≤ n ∧ s = .int .i64 k ∧ Hid (firstE l = firstE (l.drop k))) (fun s => n - (intOf s).toNat)
  case atStart => exact ⟨0, Nat.zero_le _, rfl, rfl⟩
  case round =>
    obtain ⟨k, hk, rfl, hf⟩ := hrel
    by_cases h0 : k < n
    · obtain ⟨ad, u, rfl, hb, hu, hcell⟩ := h.at_ h0
      have hkl : k < l.length := by have := HL.out; omega
      have hu2 : u = .int .i64 l[k] := by
        rw [List.getElem?_map, List.getElem?_eq_getElem hkl] at hu
        injection hu with hu; exact hu.symm
      have hf2 := hf.out
      rw [List.drop_eq_getElem_cons hkl] at hf2
      generalize l[k] = x at hu2 hf2
      subst hu2
      by_cases hx : x = 0
      · subst hx
        have hf3 : Hid (firstE l = firstE (l.drop (k + 1))) := by unfold Hid; rw [hf2]; rfl
        clear hf2 hu
        go_wp2
        go_round
        case rel => exact ⟨k + 1, by omega, by go_num, hf3⟩
        case measure => simp [intOf]; omega
      · have hf3 : Hid (firstE l = x) := by unfold Hid; rw [hf2]; unfold firstE; rw [if_pos hx]
        have hx1 : (x != 0) = true := by simpa using hx
        clear hf2 hu hx
        go_wp2
        go_ret
        exact ⟨by rw [hf3.out]; rfl, rfl⟩
    · have hk2 : k = n := by omega
      have hf3 : Hid (firstE l = 0) := by
        unfold Hid; rw [hf.out, List.drop_eq_nil_of_le (by have := HL.out; omega)]; rfl
      clear hk2
      go_wp2
      go_ret
      exact ⟨by rw [hf3.out]; rfl, rfl⟩

/-- two errors, laid out as a slice -/
theorem cfirst_two (x y : Int) (w : World) (t : TypeId) (g : Nat) (hg : w.heap.size = g) :
    Calls Tryz.prog 22 #[.slice (some ⟨g, 0, none⟩) 2 2] (w.alloc (.cells #[.int .i64 x, .int .i64 y] t)) fun e w' => e = .returned (.int .i64 (if x ≠ 0 then x else y)) ∧ w.alloc (.cells #[.int .i64 x, .int .i64 y] t) = w' := by
  subst hg
  have h := cfirst_any (some ⟨w.heap.size, 0, none⟩) 2 2 [x, y] (w.alloc (.cells #[.int .i64 x, .int .i64 y] t)) (Reads.lit w [.int .i64 x, .int .i64 y] t) (by unfold maxLen; omega)
  have e : firstE [x, y] = if x ≠ 0 then x else y := by unfold firstE; split <;> (try rfl); unfold firstE; split <;> simp_all [firstE]
  rwa [e] at h

/-- three times no error -/
theorem cfirst_three (w : World) (t : TypeId) (g : Nat) (hg : w.heap.size = g) :
    Calls Tryz.prog 22 #[.slice (some ⟨g, 0, none⟩) 3 3] (w.alloc (.cells #[.int .i64 0, .int .i64 0, .int .i64 0] t)) fun e w' => e = .returned (.int .i64 0) ∧ w.alloc (.cells #[.int .i64 0, .int .i64 0, .int .i64 0] t) = w' := by
  subst hg
  exact cfirst_any (some ⟨w.heap.size, 0, none⟩) 3 3 [0, 0, 0] (w.alloc (.cells #[.int .i64 0, .int .i64 0, .int .i64 0] t)) (Reads.lit w [.int .i64 0, .int .i64 0, .int .i64 0] t) (by unfold maxLen; omega)

theorem cinRange_any (n a b : Int) (w : World) :
    Calls Tryz.prog 36 #[.int .i64 n, .int .i64 a, .int .i64 b] w fun e w' => e = .returned (.int .i64 (rangeE n a b)) ∧ w = w' := by
  by_cases h1 : n < a
  · have d1 : decide (n < a) = true := by simpa using h1
    have hv : Hid (rangeE n a b = 3) := by unfold Hid rangeE; rw [if_pos (.inl h1)]
    go_enter Tryz.func36, Tryz.ntmps36
    go_wp2
    go_ret
    exact ⟨by rw [hv.out]; rfl, rfl⟩
  · have d1 : decide (n < a) = false := by simpa using h1
    by_cases h2 : b < n
    · have d2 : decide (b < n) = true := by simpa using h2
      have hv : Hid (rangeE n a b = 3) := by unfold Hid rangeE; rw [if_pos (.inr h2)]
      go_enter Tryz.func36, Tryz.ntmps36
      go_wp2
      go_ret
      exact ⟨by rw [hv.out]; rfl, rfl⟩
    · have d2 : decide (b < n) = false := by simpa using h2
      have hv : Hid (rangeE n a b = 0) := by unfold Hid rangeE; rw [if_neg (by omega)]
      go_enter Tryz.func36, Tryz.ntmps36
      go_wp2
      go_ret
      exact ⟨by rw [hv.out]; rfl, rfl⟩

theorem cposZero_any (x : Nat) (w : World) : Calls Tryz.prog 27 #[.float .f32 x] w fun e w' => e = .returned (.float .f32 (if FloatKind.f32.format.order x 0 == some .eq then 0 else x)) ∧ w = w' := by
  go_enter Tryz.func27, Tryz.ntmps27
  by_cases h : (FloatKind.f32.format.order x 0 == some .eq) = true
  · rw [if_pos h]
    go_wp2
    go_ret
    exact ⟨rfl, rfl⟩
  · rw [if_neg h]
    have h' : (FloatKind.f32.format.order x 0 == some .eq) = false := by simpa using h
    go_wp2
    go_ret
    exact ⟨rfl, rfl⟩

end Go.Proofs.YthmiamppfncfoaaGreatDoor
