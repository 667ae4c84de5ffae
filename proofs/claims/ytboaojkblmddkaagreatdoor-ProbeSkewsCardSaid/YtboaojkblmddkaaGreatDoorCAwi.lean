/- Chapter 2's examples, the second half: lines, words, blocks, alignment. -/
import Derived.Test.YtboaojkblmddkaaGreatDoorCAwb
import Derived.Test.YtboaojkblmddkaaGreatDoorCAw8
import Derived.Test.YtboaojkblmddkaaGreatDoorCWds
import Derived.Test.YtboaojkblmddkaaGreatDoorCUnp
import Derived.Test.YtboaojkblmddkaaGreatDoorCAwe
namespace Go.Proofs.YtboaojkblmddkaaGreatDoor
open Go.RowKit Bn
open Flt

/-- a literal slice -/
theorem Reads.blk {w : World} {g : Nat} {xs : List Value} {t : TypeId} (h : CBlk w g xs.toArray t) (hn : xs.length ≤ maxLen) : Reads w w.heap.size 1 (some ⟨g, 0, none⟩) xs.length xs :=
  Reads.of_own (own_of_block (base := 0) (size := 1) h (Nat.zero_le _) hn (by omega))

/-- two literal rows as a slice of slices -/
theorem RowsR.blk2 {α : Type} {f : α → Value} {w : World} {g g1 g2 m1 m2 : Nat} {r1 r2 : List α} {t : TypeId} (h : CBlk w g #[.slice (some ⟨g1, 0, none⟩) m1 m1, .slice (some ⟨g2, 0, none⟩) m2 m2] t)
    (h1 : Reads w w.heap.size 1 (some ⟨g1, 0, none⟩) m1 (r1.map f)) (h2 : Reads w w.heap.size 1 (some ⟨g2, 0, none⟩) m2 (r2.map f)) (hm1 : m1 ≤ maxLen) (hm2 : m2 ≤ maxLen) :
    RowsR f w w.heap.size (some ⟨g, 0, none⟩) 2 [r1, r2] := by
  have l1 := h1.lenM
  have l2 := h2.lenM
  refine ⟨rfl, _, Reads.blk (xs := [.slice (some ⟨g1, 0, none⟩) m1 m1, .slice (some ⟨g2, 0, none⟩) m2 m2]) h (by show 2 ≤ maxLen; unfold maxLen; omega), fun i hi => ?_⟩
  have hi2 : i < 2 := hi
  rcases (show i = 0 ∨ i = 1 from by omega) with rfl | rfl
  · refine ⟨some ⟨g1, 0, none⟩, m1, ?_, ?_, hm1, ?_⟩
    · show some _ = some (Value.slice _ r1.length m1); rw [l1]
    · show r1.length ≤ m1; omega
    · show Reads _ _ 1 _ r1.length (r1.map f); rw [l1]; exact h1
  · refine ⟨some ⟨g2, 0, none⟩, m2, ?_, ?_, hm2, ?_⟩
    · show some _ = some (Value.slice _ r2.length m2); rw [l2]
    · show r2.length ≤ m2; omega
    · show Reads _ _ 1 _ r2.length (r2.map f); rw [l2]; exact h2

theorem aw_dfin : ∀ x ∈ [0, 1065353216, 1056964608, 0, 1056964608, 1065353216], fin Ieee.single x = true := by decide +kernel
theorem aw_dig : digL 0 1065353216 false [0, 1065353216, 1056964608, 0, 1056964608, 1065353216] = [false, true, true, false, false, true] := by decide +kernel
theorem aw_digital (g : Nat) (t : TypeId) (w : World) (h : CBlk w g #[.float .f32 0, .float .f32 1065353216, .float .f32 1056964608, .float .f32 0, .float .f32 1056964608, .float .f32 1065353216] t) :
    Calls Tryz.prog 13 #[.slice (some ⟨g, 0, none⟩) 6 6, .agg #[.float .f32 0, .float .f32 1065353216], .bool false] w fun e w' =>
      ∃ g, e = .returned (.tuple #[.slice (some ⟨g, 0, none⟩) 6 6, .int .i64 0]) ∧ Reads w' w'.heap.size 1 (some ⟨g, 0, none⟩) 6 ([false, true, true, false, false, true].map boolv) ∧ Below w.heap.size w w' := by
  have hr : Reads w w.heap.size 1 (some ⟨g, 0, none⟩) 6 ([0, 1065353216, 1056964608, 0, 1056964608, 1065353216].map f32v) := Reads.blk (xs := [.float .f32 0, .float .f32 1065353216, .float .f32 1056964608, .float .f32 0, .float .f32 1056964608, .float .f32 1065353216]) h (by show 6 ≤ maxLen; unfold maxLen; omega)
  refine (digital_ok (some ⟨g, 0, none⟩) 6 6 0 1065353216 false [0, 1065353216, 1056964608, 0, 1056964608, 1065353216] w hr aw_dfin (by omega) (by decide +kernel) (by decide +kernel) (by decide +kernel)).mono ?_
  rintro e w' ⟨g', rfl, ho, hb⟩
  rw [aw_dig] at ho
  exact ⟨g', rfl, Reads.of_own ho, hb⟩

theorem aw_chg : chg false [false, true, true, false, false, true] 6 = [1, 3, 5] := by decide +kernel
theorem aw_changes (g : Nat) (w : World) (h : Reads w w.heap.size 1 (some ⟨g, 0, none⟩) 6 ([false, true, true, false, false, true].map boolv)) :
    Calls Tryz.prog 15 #[.slice (some ⟨g, 0, none⟩) 6 6, .bool false] w fun e w' =>
      ∃ A' c', e = .returned (.tuple #[.slice A' 3 c', .int .i64 0]) ∧ Reads w' w'.heap.size 1 A' 3 ([1, 3, 5].map i64v) ∧ Below w.heap.size w w' := by
  refine (changes_ok (some ⟨g, 0, none⟩) 6 6 false [false, true, true, false, false, true] w h (by omega)).mono ?_
  rintro e w' ⟨A', c', rfl, hr, hb⟩
  rw [aw_chg] at hr ⊢
  exact ⟨A', c', rfl, hr, hb⟩

theorem aw_wd : (List.range 3).map (wd [[true, false, true], [true, true, false]]) = [3, 2, 1] := by decide +kernel
theorem aw_words (g g1 g2 : Nat) (t1 t2 t3 : TypeId) (w : World) (h1 : CBlk w g1 #[.bool true, .bool false, .bool true] t1) (h2 : CBlk w g2 #[.bool true, .bool true, .bool false] t2) (h : CBlk w g #[.slice (some ⟨g1, 0, none⟩) 3 3, .slice (some ⟨g2, 0, none⟩) 3 3] t3) :
    Calls Tryz.prog 27 #[.slice (some ⟨g, 0, none⟩) 2 2] w fun e w' =>
      ∃ g, e = .returned (.tuple #[.slice (some ⟨g, 0, none⟩) 3 3, .int .i64 0]) ∧ Reads w' w'.heap.size 1 (some ⟨g, 0, none⟩) 3 ([3, 2, 1].map u16v) ∧ Below w.heap.size w w' := by
  have r1 : Reads w w.heap.size 1 (some ⟨g1, 0, none⟩) 3 ([true, false, true].map boolv) := Reads.blk (xs := [.bool true, .bool false, .bool true]) h1 (by show 3 ≤ maxLen; unfold maxLen; omega)
  have r2 : Reads w w.heap.size 1 (some ⟨g2, 0, none⟩) 3 ([true, true, false].map boolv) := Reads.blk (xs := [.bool true, .bool true, .bool false]) h2 (by show 3 ≤ maxLen; unfold maxLen; omega)
  have hR := RowsR.blk2 h r1 r2 (by unfold maxLen; omega) (by unfold maxLen; omega)
  refine (words_ok (some ⟨g, 0, none⟩) 2 2 3 [[true, false, true], [true, true, false]] w hR (by omega) (by omega) (by intro r hr; simp at hr; rcases hr with rfl | rfl <;> rfl) (by omega)).mono ?_
  rintro e w' ⟨g', rfl, ho, hb⟩
  rw [aw_wd] at ho
  exact ⟨g', rfl, Reads.of_own ho, hb⟩

theorem aw_blocks (g : Nat) (w : World) (h : Reads w w.heap.size 1 (some ⟨g, 0, none⟩) 3 ([3, 2, 1].map u16v)) :
    Calls Tryz.prog 36 #[.slice (some ⟨g, 0, none⟩) 3 3] w fun e w' =>
      ∃ g, e = .returned (.tuple #[.slice (some ⟨g, 0, none⟩) 1 1, .int .i64 0]) ∧ CBlk w' g #[.int .u16 3, .int .u16 2, .int .u16 1, .int .u16 0, .int .u16 0, .int .u16 0, .int .u16 0, .int .u16 0, .int .u16 0, .int .u16 0, .int .u16 0, .int .u16 0, .int .u16 0, .int .u16 0, .int .u16 0, .int .u16 0] 64 ∧ Below w.heap.size w w' := by
  refine (blocks_ok (some ⟨g, 0, none⟩) 3 3 [3, 2, 1] w h (by omega) (Nat.le_refl _) (by unfold maxLen; omega)).mono ?_
  rintro e w' ⟨g', rfl, ho, hb⟩
  exact ⟨g', rfl, own_block ho, hb⟩

theorem aw_valid : Valid [[1065353216, 1073741824, 1077936128, 1082130432], [1073741824, 1077936128, 1082130432]] [1, 0] where
  some_ := by decide
  few := by decide
  len := by decide
  fin := by decide +kernel
  same := by decide
  small := by decide
theorem aw_alg : algR [[1065353216, 1073741824, 1077936128, 1082130432], [1073741824, 1077936128, 1082130432]] [1, 0] = [[1073741824, 1077936128, 1082130432], [1073741824, 1077936128, 1082130432]] := by decide +kernel
theorem aw_aligned (g g1 g2 gk : Nat) (t1 t2 t3 t4 : TypeId) (w : World) (h1 : CBlk w g1 #[.float .f32 1065353216, .float .f32 1073741824, .float .f32 1077936128, .float .f32 1082130432] t1) (h2 : CBlk w g2 #[.float .f32 1073741824, .float .f32 1077936128, .float .f32 1082130432] t2) (h : CBlk w g #[.slice (some ⟨g1, 0, none⟩) 4 4, .slice (some ⟨g2, 0, none⟩) 3 3] t3) (hk : CBlk w gk #[.int .i64 1, .int .i64 0] t4) :
    Calls Tryz.prog 41 #[.slice (some ⟨g, 0, none⟩) 2 2, .slice (some ⟨gk, 0, none⟩) 2 2] w fun e w' =>
      ∃ G a b, e = .returned (.tuple #[.slice (some ⟨G, 0, none⟩) 2 2, .int .i64 0]) ∧ CBlk w' G #[.slice (some ⟨a, 0, none⟩) 3 3, .slice (some ⟨b, 0, none⟩) 3 3] 22 ∧
        Reads w' w'.heap.size 1 (some ⟨a, 0, none⟩) 3 ([1073741824, 1077936128, 1082130432].map f32v) ∧ Reads w' w'.heap.size 1 (some ⟨b, 0, none⟩) 3 ([1073741824, 1077936128, 1082130432].map f32v) ∧ Below w.heap.size w w' := by
  have r1 : Reads w w.heap.size 1 (some ⟨g1, 0, none⟩) 4 ([1065353216, 1073741824, 1077936128, 1082130432].map f32v) := Reads.blk (xs := [.float .f32 1065353216, .float .f32 1073741824, .float .f32 1077936128, .float .f32 1082130432]) h1 (by show 4 ≤ maxLen; unfold maxLen; omega)
  have r2 : Reads w w.heap.size 1 (some ⟨g2, 0, none⟩) 3 ([1073741824, 1077936128, 1082130432].map f32v) := Reads.blk (xs := [.float .f32 1073741824, .float .f32 1077936128, .float .f32 1082130432]) h2 (by show 3 ≤ maxLen; unfold maxLen; omega)
  have rk : Reads w w.heap.size 1 (some ⟨gk, 0, none⟩) 2 (([1, 0] : List Int).map i64v) := Reads.blk (xs := [.int .i64 1, .int .i64 0]) hk (by show 2 ≤ maxLen; unfold maxLen; omega)
  have hR := RowsR.blk2 h r1 r2 (by unfold maxLen; omega) (by unfold maxLen; omega)
  refine (aligned_ok (some ⟨g, 0, none⟩) (some ⟨gk, 0, none⟩) 2 2 2 3 [[1065353216, 1073741824, 1077936128, 1082130432], [1073741824, 1077936128, 1082130432]] [1, 0] w hR rk aw_valid (by decide) (by decide)).mono ?_
  rintro e w' ⟨G, gs, rfl, hl, ho, hb⟩
  rw [aw_alg] at hl
  obtain ⟨hgl, hl⟩ := hl
  match gs, hgl with
  | [a, b], _ =>
    have ha := (hl 0 (by decide) (by simp)).2.2
    have hb2 := (hl 1 (by decide) (by simp)).2.2
    exact ⟨G, a, b, rfl, own_block ho, Reads.of_own ha, Reads.of_own hb2, hb⟩

end Go.Proofs.YtboaojkblmddkaaGreatDoor
