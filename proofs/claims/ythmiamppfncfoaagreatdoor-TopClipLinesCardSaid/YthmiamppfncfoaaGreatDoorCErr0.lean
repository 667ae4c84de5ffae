/- Errors: the first of a list; a number in a range. Slices of ints. -/
import Derived.Test.YthmiamppfncfoaaGreatDoorCMem
namespace Go.Proofs.YthmiamppfncfoaaGreatDoor
open Go.RowKit

def i64v (d : Int) : Value := .int .i64 d
/-- the first error, or 0 -/
def firstE : List Int → Int
  | [] => 0
  | x :: t => if x ≠ 0 then x else firstE t
/-- ErrRange if n is not from a to b -/
def rangeE (n a b : Int) : Int := if n < a ∨ b < n then 3 else 0

/-- cells laid as a new block read as these values -/
theorem Reads.lit (w : World) (l : List Value) (t : TypeId) : Reads (w.alloc (.cells l.toArray t)) (w.alloc (.cells l.toArray t)).heap.size 1 (some ⟨w.heap.size, 0, none⟩) l.length l := by
  refine ⟨by simp, fun _ => ⟨_, rfl, by simp, fun j u hu => ?_⟩⟩
  have h := cell_of_row (w.alloc (.cells l.toArray t)) w.heap.size j l.toArray t (0, 0) (heap_alloc_new w _)
  have e : (⟨w.heap.size, 0, none⟩ : Addr).add j = ⟨w.heap.size, j, none⟩ := by
    unfold Addr.add
    by_cases hj : j = 0 <;> simp [hj]
  rw [e, h]
  simpa using hu

end Go.Proofs.YthmiamppfncfoaaGreatDoor

/- Contracts of first and inRange. -/
namespace Go.Proofs.YthmiamppfncfoaaGreatDoor
open Go.RowKit

set_option maxHeartbeats 400000 in
theorem nfirst_any (A : Option Addr) (n c : Nat) (l : List Int) (w : World) (h : Reads w w.heap.size 1 A n (l.map i64v)) (hn : n ≤ maxLen) :
    Calls Tryz.prog 110 #[.slice A n c] w fun e w' => e = .returned (.int .i64 (firstE l)) ∧ w = w' := by
  unfold maxLen at hn
  have hl : l.length = n := by have := h.1; rw [List.length_map] at this; omega
  go_enter Tryz.func110, Tryz.ntmps110
  go_wp2
  have HL := Lib.hid hl
  clear hl
  go_loop [7] (fun s => ∃ k : Nat, k ≤ n ∧ s = .int .i64 k ∧ Hid (firstE l = firstE (l.drop k))) (fun s => n - (intOf s).toNat)
  case atStart => exact ⟨0, Nat.zero_le _, rfl, rfl⟩
  case round =>
    obtain ⟨k, hk, rfl, hf⟩ := hrel
    by_cases h0 : k < n
    · obtain ⟨ad, u, rfl, hb, hu, hcell⟩ := h.at_ h0
      have hkl : k < l.length := by have := HL.out; omega
      have hu2 : u = .int .i64 l[k] := by
        rw [List.getElem?_map, List.getElem?_eq_getElem hkl] at hu
        injection hu with hu; exact hu.symm
      have hf2 := hf.out
      rw [List.drop_eq_getElem_cons hkl] at hf2
      generalize l[k] = x at hu2 hf2
      subst hu2
      by_cases hx : x = 0
      · subst hx
        have hf3 : Hid (firstE l = firstE (l.drop (k + 1))) := by unfold Hid; rw [hf2]; rfl
        clear hf2 hu
        go_wp2
        go_round
        case rel => exact ⟨k + 1, by omega, by go_num, hf3⟩
        case measure => simp [intOf]; omega
      · have hf3 : Hid (firstE l = x) := by unfold Hid; rw [hf2]; unfold firstE; rw [if_pos hx]
        have hx1 : (x != 0) = true := by simpa using hx
        clear hf2 hu hx
        go_wp2
        go_ret
        exact ⟨by rw [hf3.out]; rfl, rfl⟩
    · have hk2 : k = n := by omega
      have hf3 : Hid (firstE l = 0) := by
        unfold Hid; rw [hf.out, List.drop_eq_nil_of_le (by have := HL.out; omega)]; rfl
      clear hk2
      go_wp2
      go_ret
      exact ⟨by rw [hf3.out]; rfl, rfl⟩

/-- two errors, laid out as a slice -/
theorem nfirst_two (x y : Int) (w : World) (t : TypeId) (g : Nat) (hg : w.heap.size = g) :
    Calls Tryz.prog 110 #[.slice (some ⟨g, 0, none⟩) 2 2] (w.alloc (.cells #[.int .i64 x, .int .i64 y] t)) fun e w' => e = .returned (.int .i64 (if x ≠ 0 then x else y)) ∧ w.alloc (.cells #[.int .i64 x, .int .i64 y] t) = w' := by
  subst hg
  have h := nfirst_any (some ⟨w.heap.size, 0, none⟩) 2 2 [x, y] (w.alloc (.cells #[.int .i64 x, .int .i64 y] t)) (Reads.lit w [.int .i64 x, .int .i64 y] t) (by unfold maxLen; omega)
  have e : firstE [x, y] = if x ≠ 0 then x else y := by unfold firstE; split <;> (try rfl); unfold firstE; split <;> simp_all [firstE]
  rwa [e] at h

end Go.Proofs.YthmiamppfncfoaaGreatDoor
