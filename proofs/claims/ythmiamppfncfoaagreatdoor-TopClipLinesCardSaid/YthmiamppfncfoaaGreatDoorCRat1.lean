/- Contracts of package number's rational numbers: lowest. -/
import Derived.Test.YthmiamppfncfoaaGreatDoorCGcd1
namespace Go.Proofs.YthmiamppfncfoaaGreatDoor
open Go.RowKit Bn

/-- a rational number as the program holds it; a bottom 0 stands for none -/
structure Q where
  neg : Bool
  top : Nat
  bot : Nat

/-- a value that reads as a rational number -/
def RatS (w : World) (B : Nat) (v : Value) (q : Q) : Prop :=
  ∃ A n c A' n' c', v = .agg #[.bool q.neg, .slice A n c, .slice A' n' c'] ∧ NatS w B A n c q.top ∧ NatS w B A' n' c' q.bot
def RetRat (w : World) (q : Q) (e : Ending) (w' : World) : Prop := ∃ v, e = .returned v ∧ RatS w' w'.heap.size v q ∧ Below w.heap.size w w'

/-- in lowest terms -/
def lowQ (neg : Bool) (t b : Nat) : Q := if b = 0 then ⟨false, 0, 0⟩ else if t = 0 then ⟨false, 0, 1⟩ else ⟨neg, t / Nat.gcd t b, b / Nat.gcd t b⟩

theorem isZero_val (A : Option Addr) (n c x : Nat) (w : World) (h : NatS w w.heap.size A n c x) :
    Calls Tryz.prog 78 #[.slice A n c] w fun e w' => e = .returned (.bool (decide (x = 0))) ∧ w = w' := by
  have hz := isZero_any A n c w (by have := h.nc; have := h.cm; omega)
  have e : ((n : Int) == 0) = decide (x = 0) := by
    rw [Bool.eq_iff_iff]
    simp only [beq_iff_eq, decide_eq_true_eq]
    rw [← digs_length_zero (n := x), h.len]
    omega
  rwa [e] at hz

/-- the block of a result that lies in memory, as it was laid, behind calls -/
def ResBlk (w : World) (g : Nat) (b : Bool) (v1 v2 : Value) : Prop := w.heap[g]? = some (.cells #[.bool b, v1, v2] 93 (0, 0))
theorem ResBlk.new (w : World) (b : Bool) (v1 v2 : Value) : ResBlk (w.alloc (.cells #[.bool b, v1, v2] 93)) w.heap.size b v1 v2 := heap_alloc_new w _
theorem ResBlk.below {w w' : World} {g B : Nat} {b : Bool} {v1 v2 : Value} (h : ResBlk w g b v1 v2) (hb : Below B w w') (hg : g < B) : ResBlk w' g b v1 v2 := (hb.block g hg).trans h
theorem ResBlk.cells {w : World} {g : Nat} {b : Bool} {v1 v2 : Value} (h : ResBlk w g b v1 v2) :
    w.cell? ⟨g, 0, none⟩ = some (.bool b) ∧ w.cell? ⟨g, 1, none⟩ = some v1 ∧ w.cell? ⟨g, 2, none⟩ = some v2 ∧ w.frozen? ⟨g, 0, none⟩ = false ∧ w.frozen? ⟨g, 1, none⟩ = false ∧ w.frozen? ⟨g, 2, none⟩ = false ∧ g < w.heap.size := by
  unfold ResBlk at h
  have hlt : g < w.heap.size := by
    rcases Nat.lt_or_ge g w.heap.size with hlt | hge
    · exact hlt
    · rw [Array.getElem?_eq_none hge] at h; cases h
  exact ⟨by rw [cell_of_row w g 0 _ _ _ h]; rfl, by rw [cell_of_row w g 1 _ _ _ h]; rfl, by rw [cell_of_row w g 2 _ _ _ h]; rfl, by simp [World.frozen?, h], by simp [World.frozen?, h], by simp [World.frozen?, h], hlt⟩

theorem size_set3 (w : World) (p q r : Addr) (u v x : Value) : (((w.setCell p u).setCell q v).setCell r x).heap.size = w.heap.size := by simp [World.setCell]

/-- words do not lie in the result's block -/
theorem NatS.res {w : World} {B n c x g : Nat} {A A1 A2 : Option Addr} {b : Bool} {n1 c1 n2 c2 : Nat} (h : NatS w B A n c x) (hk : ResBlk w g b (.slice A1 n1 c1) (.slice A2 n2 c2)) (u v y : Value) :
    NatS (((w.setCell ⟨g, 0, none⟩ u).setCell ⟨g, 1, none⟩ v).setCell ⟨g, 2, none⟩ y) B A n c x := by
  obtain ⟨k0, k1, k2, _, _, _, _⟩ := hk.cells
  refine ⟨⟨h.words.1, fun hn => ?_⟩, h.nc, h.cm⟩
  obtain ⟨ad, e, hb, hc⟩ := h.words.2 hn
  refine ⟨ad, e, hb, fun j z hz => ?_⟩
  have hcell := hc j z hz
  have hint : ∃ d : Nat, z = .int .u64 (d : Int) := by
    rw [List.getElem?_map] at hz
    cases hd : (digs x)[j]? with
    | none => rw [hd] at hz; cases hz
    | some d => rw [hd] at hz; injection hz with hz; exact ⟨d, hz.symm⟩
  obtain ⟨d, rfl⟩ := hint
  have n0 : ad.add j ≠ ⟨g, 0, none⟩ := fun e0 => by rw [e0, k0] at hcell; injection hcell with hcell; cases hcell
  have n1' : ad.add j ≠ ⟨g, 1, none⟩ := fun e0 => by rw [e0, k1] at hcell; injection hcell with hcell; cases hcell
  have n2' : ad.add j ≠ ⟨g, 2, none⟩ := fun e0 => by rw [e0, k2] at hcell; injection hcell with hcell; cases hcell
  rw [World.cell?_setCell_other _ _ _ _ n2'.symm, World.cell?_setCell_other _ _ _ _ n1'.symm, World.cell?_setCell_other _ _ _ _ n0.symm]
  exact hcell

theorem three_set {a w : World} {B g : Nat} (h : Below B a w) (hg : B ≤ g) (u v x : Value) : Below B a (((w.setCell ⟨g, 0, none⟩ u).setCell ⟨g, 1, none⟩ v).setCell ⟨g, 2, none⟩ x) :=
  ((h.setCell (p := ⟨g, 0, none⟩) hg _).setCell (p := ⟨g, 1, none⟩) hg _).setCell (p := ⟨g, 2, none⟩) hg _

set_option maxHeartbeats 2000000 in
set_option maxRecDepth 100000 in
theorem lowest_any (neg : Bool) (A A' : Option Addr) (n c n' c' x y : Nat) (w : World) (hT : Tabs w) (ha : NatS w w.heap.size A n c x) (hb : NatS w w.heap.size A' n' c' y) (hn : n ≤ 1073741824) (hn' : n' ≤ 1073741824) :
    Calls Tryz.prog 125 #[.bool neg, .slice A n c, .slice A' n' c'] w (RetRat w (lowQ neg x y)) := by
  have hb0 : Below w.heap.size w (w.alloc (.cells #[.bool false, .slice none 0 0, .slice none 0 0] 93)) := (Below.refl _ _).alloc (Nat.le_refl _) _
  by_cases hy0 : y = 0
  · subst hy0
    have hz := fun W : World => fun h => isZero_val A' n' c' 0 W h
    go_enter Tryz.func125, Tryz.ntmps125
    go_wp2_with fail
    refine (hz _ (hb.later hb0)).mono ?_
    rintro e w1 ⟨rfl, rfl⟩
    go_wp2
    refine bodyPost_ret (v := .agg #[.bool false, .slice none 0 0, .slice none 0 0]) (by simp [results, Tryz.results125, go_sem]) rfl ⟨_, rfl, ⟨none, 0, 0, none, 0, 0, by simp [lowQ], ?_, ?_⟩, ?_⟩
    · simp only [lowQ, if_pos]; exact NatS.nil _ _
    · simp only [lowQ, if_pos]; exact NatS.nil _ _
    · exact hb0
  · have hz := fun W : World => fun h => isZero_val A' n' c' y W h
    have d1 : decide (y = 0) = false := by simpa using hy0
    simp only [d1] at hz
    by_cases hx0 : x = 0
    · subst hx0
      have hz2 := fun W : World => fun h => isZero_val A n c 0 W h
      go_enter Tryz.func125, Tryz.ntmps125
      go_wp2_with fail
      refine (hz _ (hb.later hb0)).mono ?_
      rintro e w1 ⟨rfl, rfl⟩
      go_wp2_with fail
      refine (hz2 _ (ha.later hb0)).mono ?_
      rintro e w1 ⟨rfl, rfl⟩
      have hno := naturalOf_any 1 (w.alloc (.cells #[.bool false, .slice none 0 0, .slice none 0 0] 93)) (by omega) (by omega)
      go_wp2_with fail
      refine hno.mono ?_
      rintro e w2 ⟨A2, m2, c2, rfl, hn2, hb2⟩
      have hblk := (ResBlk.new w false (.slice none 0 0) (.slice none 0 0)).below hb2 (by simp)
      obtain ⟨k0, k1, k2, f0, f1, f2, hlt⟩ := hblk.cells
      have HE : Hid (lowQ neg 0 y = ⟨false, 0, 1⟩) := by unfold Hid lowQ; rw [if_neg hy0, if_pos rfl]
      have hb3 := hb0.trans (hb2.mono hb0.size)
      have hset := three_set hb3 (g := w.heap.size) (Nat.le_refl _) (.bool false) (.slice none 0 0) (.slice A2 m2 c2)
      go_wp2
      refine bodyPost_ret (v := .agg #[.bool false, .slice none 0 0, .slice A2 m2 c2]) (by simp [results, Tryz.results125, go_sem, k0, k1, k2]) rfl ⟨_, rfl, ⟨none, 0, 0, A2, m2, c2, by rw [HE.out], ?_, ?_⟩, ?_⟩
      · rw [HE.out]; exact NatS.nil _ _
      · rw [HE.out, size_set3]; exact hn2.res hblk _ _ _
      · exact hset
    · have hz2 := fun W : World => fun h => isZero_val A n c x W h
      have d2 : decide (x = 0) = false := by simpa using hx0
      simp only [d2] at hz2
      have hx : 0 < x := by omega
      have hy : 0 < y := by omega
      obtain ⟨g, hgg⟩ : ∃ g, g = Nat.gcd x y := ⟨_, rfl⟩
      have hg0 : 0 < g := by rw [hgg]; exact Nat.gcd_pos_of_pos_left _ hx
      have HE : Hid (lowQ neg x y = ⟨neg, x / g, y / g⟩) := by unfold Hid lowQ; rw [if_neg hy0, if_neg hx0, hgg]
      have hgc := gcd_any A A' n c n' c' x y _ (hT.later hb0) (ha.later hb0) (hb.later hb0) hn hn'
      rw [← hgg] at hgc
      have hgl : g ≤ x := by rw [hgg]; exact Nat.gcd_le_left _ hx
      have HG := Lib.hid hgg
      clear hgg d1 d2 hx0 hy0
      go_enter Tryz.func125, Tryz.ntmps125
      go_wp2_with fail
      refine (hz _ (hb.later hb0)).mono ?_
      rintro e w1 ⟨rfl, rfl⟩
      go_wp2_with fail
      refine (hz2 _ (ha.later hb0)).mono ?_
      rintro e w1 ⟨rfl, rfl⟩
      go_wp2_with fail
      refine hgc.mono ?_
      rintro e w2 ⟨A2, m2, c2, rfl, hn2, hb2⟩
      have hb02 := hb0.trans (hb2.mono hb0.size)
      have ho := isOne_any A2 m2 c2 g w2 hn2
      by_cases hg1 : g = 1
      · have d3 : decide (g = 1) = true := by simpa using hg1
        rw [d3] at ho
        have HG1 := Lib.hid hg1
        clear hg1 d3
        have hblk := (ResBlk.new w false (.slice none 0 0) (.slice none 0 0)).below hb2 (by simp)
        obtain ⟨k0, k1, k2, f0, f1, f2, hlt⟩ := hblk.cells
        have hset := three_set hb02 (g := w.heap.size) (Nat.le_refl _) (.bool neg) (.slice A n c) (.slice A' n' c')
        go_wp2_with fail
        refine ho.mono ?_
        rintro e w3 ⟨rfl, rfl⟩
        go_wp2
        refine bodyPost_ret (v := .agg #[.bool neg, .slice A n c, .slice A' n' c']) (by simp [results, Tryz.results125, go_sem, k0, k1, k2]) rfl ⟨_, rfl, ⟨A, n, c, A', n', c', by rw [HE.out], ?_, ?_⟩, hset⟩
        · rw [HE.out, size_set3]; show NatS _ _ A n c (x / g); rw [HG1.out, Nat.div_one]; exact (ha.later hb02).res hblk _ _ _
        · rw [HE.out, size_set3]; show NatS _ _ A' n' c' (y / g); rw [HG1.out, Nat.div_one]; exact (hb.later hb02).res hblk _ _ _
      · have d3 : decide (g = 1) = false := by simpa using hg1
        rw [d3] at ho
        clear hg1 d3
        go_wp2_with fail
        refine ho.mono ?_
        rintro e w3 ⟨rfl, rfl⟩
        go_wp2_with fail
        refine (over_any A A2 n c m2 c2 x g _ (ha.later hb02) hn2 hg0 (by omega)).mono ?_
        rintro e w4 ⟨A4, m4, c4, _, _, _, rfl, hq4, _, hb4⟩
        have hb04 := hb02.trans (hb4.mono hb02.size)
        go_wp2_with fail
        refine (over_any A' A2 n' c' m2 c2 y g _ (hb.later hb04) (hn2.later hb4) hg0 (by omega)).mono ?_
        rintro e w5 ⟨A5, m5, c5, _, _, _, rfl, hq5, _, hb5⟩
        have hb05 := hb04.trans (hb5.mono hb04.size)
        have hblk := (((ResBlk.new w false (.slice none 0 0) (.slice none 0 0)).below hb2 (by simp)).below hb4 (by have := hb2.size; simp at this; omega)).below hb5 (by have := hb2.size; have := hb4.size; simp at *; omega)
        obtain ⟨k0, k1, k2, f0, f1, f2, hlt⟩ := hblk.cells
        have hset := three_set hb05 (g := w.heap.size) (Nat.le_refl _) (.bool neg) (.slice A4 m4 c4) (.slice A5 m5 c5)
        go_wp2
        refine bodyPost_ret (v := .agg #[.bool neg, .slice A4 m4 c4, .slice A5 m5 c5]) (by simp [results, Tryz.results125, go_sem, k0, k1, k2]) rfl ⟨_, rfl, ⟨A4, m4, c4, A5, m5, c5, by rw [HE.out], ?_, ?_⟩, hset⟩
        · rw [HE.out, size_set3]; exact (hq4.later hb5).res hblk _ _ _
        · rw [HE.out, size_set3]; exact hq5.res hblk _ _ _

end Go.Proofs.YthmiamppfncfoaaGreatDoor
