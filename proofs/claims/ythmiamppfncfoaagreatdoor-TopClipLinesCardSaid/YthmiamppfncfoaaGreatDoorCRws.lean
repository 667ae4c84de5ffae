/- Slices of slices, and rows of one's own, in words; what is kept while only one block turns. -/
import Derived.Test.YthmiamppfncfoaaGreatDoorCMem
import Derived.Test.YthmiamppfncfoaaGreatDoorCErr0
namespace Go.Proofs.YthmiamppfncfoaaGreatDoor
open Go.RowKit

def f32v (x : Nat) : Value := .float .f32 x
def boolv (b : Bool) : Value := .bool b
def u16v (d : Nat) : Value := .int .u16 (d : Int)
def natv (d : Nat) : Value := .int .i64 (d : Int)
theorem f32v_one : ∀ l : List Nat, ∀ u ∈ l.map f32v, u.oneCell' = true := by
  intro l u hu
  obtain ⟨d, _, rfl⟩ := List.mem_map.1 hu
  rfl
theorem boolv_one : ∀ l : List Bool, ∀ u ∈ l.map boolv, u.oneCell' = true := by
  intro l u hu
  obtain ⟨d, _, rfl⟩ := List.mem_map.1 hu
  rfl
theorem u16v_one : ∀ l : List Nat, ∀ u ∈ l.map u16v, u.oneCell' = true := by
  intro l u hu
  obtain ⟨d, _, rfl⟩ := List.mem_map.1 hu
  rfl
theorem natv_one : ∀ l : List Nat, ∀ u ∈ l.map natv, u.oneCell' = true := by
  intro l u hu
  obtain ⟨d, _, rfl⟩ := List.mem_map.1 hu
  rfl
theorem i64v_one : ∀ l : List Int, ∀ u ∈ l.map i64v, u.oneCell' = true := by
  intro l u hu
  obtain ⟨d, _, rfl⟩ := List.mem_map.1 hu
  rfl

/-- the cell with an index of a slice that reads as a mapped list -/
theorem Reads.cellM {α : Type} {w : World} {B n : Nat} {A : Option Addr} {l : List α} {f : α → Value} (h : Reads w B 1 A n (l.map f)) {k : Nat} (hk : k < n) :
    ∃ (ad : Addr) (hl : k < l.length), A = some ad ∧ ad.block < B ∧ w.cell? (ad.add k) = some (f l[k]) := by
  obtain ⟨ad, u, hA, hb, hu, hc⟩ := h.at_ hk
  have hl : k < l.length := by have := h.1; rw [List.length_map] at this; omega
  rw [List.getElem?_map, List.getElem?_eq_getElem hl] at hu
  injection hu with hu
  exact ⟨ad, hl, hA, hb, by rw [hc, ← hu]⟩
theorem Reads.lenM {α : Type} {w : World} {B n : Nat} {A : Option Addr} {l : List α} {f : α → Value} (h : Reads w B 1 A n (l.map f)) : l.length = n := by
  have := h.1; rw [List.length_map] at this; omega
theorem Reads.later {w w' : World} {size n : Nat} {A : Option Addr} {xs : List Value} (h : Reads w w.heap.size size A n xs) (hb : Below w.heap.size w w') : Reads w' w'.heap.size size A n xs := (h.below hb).more hb.size
theorem Reads.keptBy {w w' : World} {size n g : Nat} {A : Option Addr} {xs : List Value} (h : Reads w w.heap.size size A n xs) (hg : w.grownBy w' (some g)) (ho : 0 < n → Off A g) : Reads w' w'.heap.size size A n xs :=
  ⟨h.1, fun hn => by
    obtain ⟨ad, e, hb, hc⟩ := h.2 hn
    refine ⟨ad, e, Nat.lt_of_lt_of_le hb hg.size, fun j u hu => ?_⟩
    rw [← hc j u hu]
    exact World.cell?_of_block (hg.block (ad.add j).block (by rw [block_of_add]; omega) (by rw [block_of_add]; intro e'; exact ho hn ad e (by injection e')))⟩

/-- the slice (A, n) reads as these rows -/
def RowsR {α : Type} (f : α → Value) (w : World) (B : Nat) (A : Option Addr) (n : Nat) (rows : List (List α)) : Prop :=
  rows.length = n ∧ ∃ vs : List Value, Reads w B 1 A n vs ∧ ∀ i (h : i < rows.length), ∃ A' c', vs[i]? = some (.slice A' rows[i].length c') ∧ rows[i].length ≤ c' ∧ c' ≤ maxLen ∧ Reads w B 1 A' rows[i].length (rows[i].map f)

section
variable {α : Type} {f : α → Value} {w w' : World} {B B' n : Nat} {A : Option Addr} {rows : List (List α)}
theorem RowsR.below (h : RowsR f w B A n rows) (hb : Below B w w') : RowsR f w' B A n rows := by
  obtain ⟨hl, vs, hr, hv⟩ := h
  exact ⟨hl, vs, hr.below hb, fun i hi => by
    obtain ⟨A', c', h1, h2, h3, h4⟩ := hv i hi
    exact ⟨A', c', h1, h2, h3, h4.below hb⟩⟩
theorem RowsR.more (h : RowsR f w B A n rows) (hB : B ≤ B') : RowsR f w B' A n rows := by
  obtain ⟨hl, vs, hr, hv⟩ := h
  exact ⟨hl, vs, hr.more hB, fun i hi => by
    obtain ⟨A', c', h1, h2, h3, h4⟩ := hv i hi
    exact ⟨A', c', h1, h2, h3, h4.more hB⟩⟩
theorem RowsR.later (h : RowsR f w w.heap.size A n rows) (hb : Below w.heap.size w w') : RowsR f w' w'.heap.size A n rows := (h.below hb).more hb.size
/-- the row with an index -/
theorem RowsR.row (h : RowsR f w B A n rows) {k : Nat} (hk : k < n) :
    ∃ (ad : Addr) (hl : k < rows.length) (A' : Option Addr) (c' : Nat), A = some ad ∧ ad.block < B ∧ w.cell? (ad.add k) = some (.slice A' rows[k].length c') ∧ rows[k].length ≤ c' ∧ c' ≤ maxLen ∧ Reads w B 1 A' rows[k].length (rows[k].map f) := by
  obtain ⟨hl, vs, hr, hv⟩ := h
  have hk2 : k < rows.length := by omega
  obtain ⟨A', c', h1, h2, h3, h4⟩ := hv k hk2
  obtain ⟨ad, u, hA, hb, hu, hc⟩ := hr.at_ hk
  rw [h1] at hu
  injection hu with hu
  exact ⟨ad, hk2, A', c', hA, hb, by rw [hc, ← hu], h2, h3, h4⟩
end

/-! ### rows of one's own, whatever they hold -/
theorem gtrans {a b c : World} {row : Option Nat} (h : a.grownBy b row) (k : b.grownBy c row) : a.grownBy c row :=
  ⟨k.os.trans h.os, k.tape.trans h.tape, k.output.trans h.output, Nat.le_trans h.size k.size, fun i hi hne => (k.block i (Nat.lt_of_lt_of_le hi h.size) hne).trans (h.block i hi hne)⟩
theorem gbelow {a b c : World} {row : Option Nat} (h : a.grownBy b row) (k : Below b.heap.size b c) : a.grownBy c row := gtrans h (only_of_below k _)
/-- a turn of a block that is new is none -/
theorem gnew {a b c : World} {row : Option Nat} {g : Nat} (h : a.grownBy b row) (k : b.grownBy c (some g)) (hg : a.heap.size ≤ g) : a.grownBy c row :=
  ⟨k.os.trans h.os, k.tape.trans h.tape, k.output.trans h.output, Nat.le_trans h.size k.size, fun i hi hne => (k.block i (Nat.lt_of_lt_of_le hi h.size) (fun e => by injection e with e; omega)).trans (h.block i hi hne)⟩
theorem gset {a b : World} {row : Option Nat} (h : a.grownBy b row) {p : Addr} (hp : a.heap.size ≤ p.block) (u : Value) : a.grownBy (b.setCell p u) row :=
  ⟨h.os, h.tape, h.output, by simpa [World.setCell] using h.size, fun i hi hne => (Below.heap_setCell b p u i (by omega)).trans (h.block i hi hne)⟩
theorem gnone {a b : World} {B : Nat} (h : a.grownBy b none) (hB : B ≤ a.heap.size) : Below B a b := (Below.refl _ _).grown h hB (fun k e => by cases e)

theorem own_lt {w : World} {base g n c size : Nat} {e : TypeId} {xs : List Value} (h : w.ownsRow base e size (.slice (some ⟨g, 0, none⟩) n c) n xs) : base ≤ g ∧ g < w.heap.size := World.ownsRow.lt h g rfl
theorem own_kept {w w' : World} {base g n c size : Nat} {e : TypeId} {xs : List Value} {row : Option Nat} (h : w.ownsRow base e size (.slice (some ⟨g, 0, none⟩) n c) n xs) (hg : w.grownBy w' row) (hr : row ≠ some g) :
    w'.ownsRow base e size (.slice (some ⟨g, 0, none⟩) n c) n xs := World.ownsRow.kept h hg (.inr (by simpa [Value.ownBlock] using fun e => hr e.symm))
theorem own_set {w : World} {base g n c : Nat} {e : TypeId} {xs : List Value} (h : w.ownsRow base e 1 (.slice (some ⟨g, 0, none⟩) n c) n xs) (k : Nat) (u : Value) :
    (w.setCell ⟨g, k, none⟩ u).ownsRow base e 1 (.slice (some ⟨g, 0, none⟩) n c) n (xs.set k u) := (World.ownsRow.stored h k u).1
theorem own_cell {w : World} {base g n c : Nat} {e : TypeId} {xs : List Value} (h : w.ownsRow base e 1 (.slice (some ⟨g, 0, none⟩) n c) n xs) (k : Nat) (hk : k < n) : ∃ u, w.cell? ⟨g, k, none⟩ = some u := by
  rw [World.ownsRow.cellAt h k (by omega)]
  have := h.1
  exact ⟨_, List.getElem?_eq_getElem (by omega)⟩
theorem own_free {w : World} {base g n c : Nat} {e : TypeId} {xs : List Value} (h : w.ownsRow base e 1 (.slice (some ⟨g, 0, none⟩) n c) n xs) (k : Nat) : w.frozen? ⟨g, k, none⟩ = false := World.ownsRow.frozenAt h k

/-- a block of plain cells -/
def CBlk (w : World) (g : Nat) (c : Array Value) (t : TypeId) : Prop := w.heap[g]? = some (.cells c t (0, 0))
section
variable {w w' : World} {g B : Nat} {c : Array Value} {t : TypeId}
theorem CBlk.new (w : World) (c : Array Value) (t : TypeId) (g : Nat) (hg : g = w.heap.size) : CBlk (w.alloc (.cells c t)) g c t := by subst hg; exact heap_alloc_new w _
theorem CBlk.below (h : CBlk w g c t) (hb : Below B w w') (hg : g < B) : CBlk w' g c t := (hb.block g hg).trans h
theorem CBlk.grown {row : Option Nat} (h : CBlk w g c t) (hb : w.grownBy w' row) (hg : g < w.heap.size) (hr : row ≠ some g) : CBlk w' g c t := (hb.block g hg (fun e => hr e.symm)).trans h
theorem CBlk.cell (h : CBlk w g c t) (i : Nat) : w.cell? ⟨g, i, none⟩ = c[i]? := cell_of_row w g i _ _ _ h
theorem CBlk.frozen (h : CBlk w g c t) (i : Nat) : w.frozen? ⟨g, i, none⟩ = false := by
  unfold CBlk at h
  simp [World.frozen?, h]
theorem CBlk.lt (h : CBlk w g c t) : g < w.heap.size := by
  unfold CBlk at h
  rcases Nat.lt_or_ge g w.heap.size with hlt | hge
  · exact hlt
  · rw [Array.getElem?_eq_none hge] at h; cases h
theorem CBlk.set0 {v u : Value} (h : CBlk w g #[v] t) : CBlk (w.setCell ⟨g, 0, none⟩ u) g #[u] t := heap_setCell_same w g 0 #[v] t u h
end
theorem own_mono {w : World} {base base' size n : Nat} {e : TypeId} {v : Value} {xs : List Value} (h : w.ownsRow base e size v n xs) (hb : base' ≤ base) : w.ownsRow base' e size v n xs := by
  refine ⟨h.1, ?_⟩
  rcases h.2 with h' | ⟨g', cap', cur, h', hb', r⟩
  · exact .inl h'
  · exact .inr ⟨g', cap', cur, h', by omega, r⟩

/-- a row of one's own as a slice that reads -/
theorem own_slice {w : World} {base size n : Nat} {e : TypeId} {v : Value} {xs : List Value} (h : w.ownsRow base e size v n xs) : ∃ A c, v = .slice A n c ∧ n ≤ c ∧ c ≤ maxLen ∧ Reads w w.heap.size size A n xs := by
  rcases h.2 with ⟨rfl, rfl⟩ | ⟨g, cap, cur, rfl, hb, hg, hnc, hcm, hcs, htake⟩
  · exact ⟨none, 0, rfl, Nat.le_refl _, by unfold maxLen; omega, h.1, fun h0 => absurd h0 (by omega)⟩
  · exact ⟨some ⟨g, 0, none⟩, cap, rfl, hnc, hcm, Reads.of_own h⟩

/-- a full row of one's own, as a block -/
theorem own_block {w : World} {base size n g : Nat} {e : TypeId} {xs : List Value} (h : w.ownsRow base e size (.slice (some ⟨g, 0, none⟩) n n) n xs) : w.heap[g]? = some (.cells xs.toArray e (0, 0)) := by
  rcases h.2 with ⟨h', _⟩ | ⟨g', cap, cur, h', hb, hg, hnc, hcm, hcs, htake⟩
  · simp at h'
  · simp only [Value.slice.injEq, Option.some.injEq, Addr.mk.injEq, and_true, true_and] at h'
    obtain ⟨rfl, rfl⟩ := h'
    rw [List.take_of_length_le (by rw [Array.length_toList, hcs]; exact Nat.le_refl _)] at htake
    rw [← htake]
    exact hg
theorem own_of_block {w : World} {base size n g : Nat} {e : TypeId} {xs : List Value} (h : w.heap[g]? = some (.cells xs.toArray e (0, 0))) (hb : base ≤ g) (hn : n ≤ maxLen) (hl : xs.length = n * size) : w.ownsRow base e size (.slice (some ⟨g, 0, none⟩) n n) n xs :=
  ⟨hl, .inr ⟨g, n, xs.toArray, rfl, hb, h, Nat.le_refl _, hn, by simpa using hl, by rw [List.take_of_length_le (by simp; omega)]⟩⟩

end Go.Proofs.YthmiamppfncfoaaGreatDoor
