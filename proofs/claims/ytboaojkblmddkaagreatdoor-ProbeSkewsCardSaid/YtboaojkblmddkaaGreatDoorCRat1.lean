/- Contracts of package number's rational numbers: lowest. -/
import Derived.Test.YtboaojkblmddkaaGreatDoorCGcd1
import Derived.Test.YtboaojkblmddkaaGreatDoorCNat4
import Derived.Deep.RegionHeld3
import Derived.Lib.ItoaNum
import Derived.Test.YtboaojkblmddkaaGreatDoorCNat1
import Derived.Test.YtboaojkblmddkaaGreatDoorCShelf
import Derived.Shelf.Strings.Builder1
import Derived.Test.YtboaojkblmddkaaGreatDoorCNat5
import Derived.Lib.ItoaMem
import Derived.Lib.AppendIntMem
import Derived.Shelf.Strconv.Itoa2
namespace Go.Proofs.YtboaojkblmddkaaGreatDoor
open Go.RowKit Bn

/-- a rational number as the program holds it; a bottom 0 stands for none -/
structure Q where
  neg : Bool
  top : Nat
  bot : Nat

/-- a value that reads as a rational number -/
def RatS (w : World) (B : Nat) (v : Value) (q : Q) : Prop :=
  ∃ A n c A' n' c', v = .agg #[.bool q.neg, .slice A n c, .slice A' n' c'] ∧ NatS w B A n c q.top ∧ NatS w B A' n' c' q.bot
def RetRat (w : World) (q : Q) (e : Ending) (w' : World) : Prop := ∃ v, e = .returned v ∧ RatS w' w'.heap.size v q ∧ Below w.heap.size w w'

/-- in lowest terms -/
def lowQ (neg : Bool) (t b : Nat) : Q := if b = 0 then ⟨false, 0, 0⟩ else if t = 0 then ⟨false, 0, 1⟩ else ⟨neg, t / Nat.gcd t b, b / Nat.gcd t b⟩

theorem isZero_val (A : Option Addr) (n c x : Nat) (w : World) (h : NatS w w.heap.size A n c x) :
    Calls Tryz.prog 174 #[.slice A n c] w fun e w' => e = .returned (.bool (decide (x = 0))) ∧ w = w' := by
  have hz := isZero_any A n c w (by have := h.nc; have := h.cm; omega)
  have e : ((n : Int) == 0) = decide (x = 0) := by
    rw [Bool.eq_iff_iff]
    simp only [beq_iff_eq, decide_eq_true_eq]
    rw [← digs_length_zero (n := x), h.len]
    omega
  rwa [e] at hz

/-- the block of a result that lies in memory, as it was laid, behind calls -/
def ResBlk (w : World) (g : Nat) (b : Bool) (v1 v2 : Value) : Prop := w.heap[g]? = some (.cells #[.bool b, v1, v2] 176 (0, 0))
theorem ResBlk.new (w : World) (b : Bool) (v1 v2 : Value) : ResBlk (w.alloc (.cells #[.bool b, v1, v2] 176)) w.heap.size b v1 v2 := heap_alloc_new w _
theorem ResBlk.below {w w' : World} {g B : Nat} {b : Bool} {v1 v2 : Value} (h : ResBlk w g b v1 v2) (hb : Below B w w') (hg : g < B) : ResBlk w' g b v1 v2 := (hb.block g hg).trans h
theorem ResBlk.cells {w : World} {g : Nat} {b : Bool} {v1 v2 : Value} (h : ResBlk w g b v1 v2) :
    w.cell? ⟨g, 0, none⟩ = some (.bool b) ∧ w.cell? ⟨g, 1, none⟩ = some v1 ∧ w.cell? ⟨g, 2, none⟩ = some v2 ∧ w.frozen? ⟨g, 0, none⟩ = false ∧ w.frozen? ⟨g, 1, none⟩ = false ∧ w.frozen? ⟨g, 2, none⟩ = false ∧ g < w.heap.size := by
  unfold ResBlk at h
  have hlt : g < w.heap.size := by
    rcases Nat.lt_or_ge g w.heap.size with hlt | hge
    · exact hlt
    · rw [Array.getElem?_eq_none hge] at h; cases h
  exact ⟨by rw [cell_of_row w g 0 _ _ _ h]; rfl, by rw [cell_of_row w g 1 _ _ _ h]; rfl, by rw [cell_of_row w g 2 _ _ _ h]; rfl, by simp [World.frozen?, h], by simp [World.frozen?, h], by simp [World.frozen?, h], hlt⟩

theorem size_set3 (w : World) (p q r : Addr) (u v x : Value) : (((w.setCell p u).setCell q v).setCell r x).heap.size = w.heap.size := by simp [World.setCell]

/-- words do not lie in the result's block -/
theorem NatS.res {w : World} {B n c x g : Nat} {A A1 A2 : Option Addr} {b : Bool} {n1 c1 n2 c2 : Nat} (h : NatS w B A n c x) (hk : ResBlk w g b (.slice A1 n1 c1) (.slice A2 n2 c2)) (u v y : Value) :
    NatS (((w.setCell ⟨g, 0, none⟩ u).setCell ⟨g, 1, none⟩ v).setCell ⟨g, 2, none⟩ y) B A n c x := by
  obtain ⟨k0, k1, k2, _, _, _, _⟩ := hk.cells
  refine ⟨⟨h.words.1, fun hn => ?_⟩, h.nc, h.cm⟩
  obtain ⟨ad, e, hb, hc⟩ := h.words.2 hn
  refine ⟨ad, e, hb, fun j z hz => ?_⟩
  have hcell := hc j z hz
  have hint : ∃ d : Nat, z = .int .u64 (d : Int) := by
    rw [List.getElem?_map] at hz
    cases hd : (digs x)[j]? with
    | none => rw [hd] at hz; cases hz
    | some d => rw [hd] at hz; injection hz with hz; exact ⟨d, hz.symm⟩
  obtain ⟨d, rfl⟩ := hint
  have n0 : ad.add j ≠ ⟨g, 0, none⟩ := fun e0 => by rw [e0, k0] at hcell; injection hcell with hcell; cases hcell
  have n1' : ad.add j ≠ ⟨g, 1, none⟩ := fun e0 => by rw [e0, k1] at hcell; injection hcell with hcell; cases hcell
  have n2' : ad.add j ≠ ⟨g, 2, none⟩ := fun e0 => by rw [e0, k2] at hcell; injection hcell with hcell; cases hcell
  rw [World.cell?_setCell_other _ _ _ _ n2'.symm, World.cell?_setCell_other _ _ _ _ n1'.symm, World.cell?_setCell_other _ _ _ _ n0.symm]
  exact hcell

theorem three_set {a w : World} {B g : Nat} (h : Below B a w) (hg : B ≤ g) (u v x : Value) : Below B a (((w.setCell ⟨g, 0, none⟩ u).setCell ⟨g, 1, none⟩ v).setCell ⟨g, 2, none⟩ x) :=
  ((h.setCell (p := ⟨g, 0, none⟩) hg _).setCell (p := ⟨g, 1, none⟩) hg _).setCell (p := ⟨g, 2, none⟩) hg _

set_option maxHeartbeats 2000000 in
set_option maxRecDepth 100000 in
theorem lowest_any (neg : Bool) (A A' : Option Addr) (n c n' c' x y : Nat) (w : World) (hT : Tabs w) (ha : NatS w w.heap.size A n c x) (hb : NatS w w.heap.size A' n' c' y) (hn : n ≤ 1073741824) (hn' : n' ≤ 1073741824) :
    Calls Tryz.prog 150 #[.bool neg, .slice A n c, .slice A' n' c'] w (RetRat w (lowQ neg x y)) := by
  have hb0 : Below w.heap.size w (w.alloc (.cells #[.bool false, .slice none 0 0, .slice none 0 0] 176)) := (Below.refl _ _).alloc (Nat.le_refl _) _
  by_cases hy0 : y = 0
  · subst hy0
    have hz := fun W : World => fun h => isZero_val A' n' c' 0 W h
    go_enter Tryz.func150, Tryz.ntmps150
    go_wp2_with fail
    refine (hz _ (hb.later hb0)).mono ?_
    rintro e w1 ⟨rfl, rfl⟩
    go_wp2
    refine bodyPost_ret (v := .agg #[.bool false, .slice none 0 0, .slice none 0 0]) (by simp [results, Tryz.results150, go_sem]) rfl ⟨_, rfl, ⟨none, 0, 0, none, 0, 0, by simp [lowQ], ?_, ?_⟩, ?_⟩
    · simp only [lowQ, if_pos]; exact NatS.nil _ _
    · simp only [lowQ, if_pos]; exact NatS.nil _ _
    · exact hb0
  · have hz := fun W : World => fun h => isZero_val A' n' c' y W h
    have d1 : decide (y = 0) = false := by simpa using hy0
    simp only [d1] at hz
    by_cases hx0 : x = 0
    · subst hx0
      have hz2 := fun W : World => fun h => isZero_val A n c 0 W h
      go_enter Tryz.func150, Tryz.ntmps150
      go_wp2_with fail
      refine (hz _ (hb.later hb0)).mono ?_
      rintro e w1 ⟨rfl, rfl⟩
      go_wp2_with fail
      refine (hz2 _ (ha.later hb0)).mono ?_
      rintro e w1 ⟨rfl, rfl⟩
      have hno := naturalOf_any 1 (w.alloc (.cells #[.bool false, .slice none 0 0, .slice none 0 0] 176)) (by omega) (by omega)
      go_wp2_with fail
      refine hno.mono ?_
      rintro e w2 ⟨A2, m2, c2, rfl, hn2, hb2⟩
      have hblk := (ResBlk.new w false (.slice none 0 0) (.slice none 0 0)).below hb2 (by simp)
      obtain ⟨k0, k1, k2, f0, f1, f2, hlt⟩ := hblk.cells
      have HE : Hid (lowQ neg 0 y = ⟨false, 0, 1⟩) := by unfold Hid lowQ; rw [if_neg hy0, if_pos rfl]
      have hb3 := hb0.trans (hb2.mono hb0.size)
      have hset := three_set hb3 (g := w.heap.size) (Nat.le_refl _) (.bool false) (.slice none 0 0) (.slice A2 m2 c2)
      go_wp2
      refine bodyPost_ret (v := .agg #[.bool false, .slice none 0 0, .slice A2 m2 c2]) (by simp [results, Tryz.results150, go_sem, k0, k1, k2]) rfl ⟨_, rfl, ⟨none, 0, 0, A2, m2, c2, by rw [HE.out], ?_, ?_⟩, ?_⟩
      · rw [HE.out]; exact NatS.nil _ _
      · rw [HE.out, size_set3]; exact hn2.res hblk _ _ _
      · exact hset
    · have hz2 := fun W : World => fun h => isZero_val A n c x W h
      have d2 : decide (x = 0) = false := by simpa using hx0
      simp only [d2] at hz2
      have hx : 0 < x := by omega
      have hy : 0 < y := by omega
      obtain ⟨g, hgg⟩ : ∃ g, g = Nat.gcd x y := ⟨_, rfl⟩
      have hg0 : 0 < g := by rw [hgg]; exact Nat.gcd_pos_of_pos_left _ hx
      have HE : Hid (lowQ neg x y = ⟨neg, x / g, y / g⟩) := by unfold Hid lowQ; rw [if_neg hy0, if_neg hx0, hgg]
      have hgc := gcd_any A A' n c n' c' x y _ (hT.later hb0) (ha.later hb0) (hb.later hb0) hn hn'
      rw [← hgg] at hgc
      have hgl : g ≤ x := by rw [hgg]; exact Nat.gcd_le_left _ hx
      have HG := Lib.hid hgg
      clear hgg d1 d2 hx0 hy0
      go_enter Tryz.func150, Tryz.ntmps150
      go_wp2_with fail
      refine (hz _ (hb.later hb0)).mono ?_
      rintro e w1 ⟨rfl, rfl⟩
      go_wp2_with fail
      refine (hz2 _ (ha.later hb0)).mono ?_
      rintro e w1 ⟨rfl, rfl⟩
      go_wp2_with fail
      refine hgc.mono ?_
      rintro e w2 ⟨A2, m2, c2, rfl, hn2, hb2⟩
      have hb02 := hb0.trans (hb2.mono hb0.size)
      have ho := isOne_any A2 m2 c2 g w2 hn2
      by_cases hg1 : g = 1
      · have d3 : decide (g = 1) = true := by simpa using hg1
        rw [d3] at ho
        have HG1 := Lib.hid hg1
        clear hg1 d3
        have hblk := (ResBlk.new w false (.slice none 0 0) (.slice none 0 0)).below hb2 (by simp)
        obtain ⟨k0, k1, k2, f0, f1, f2, hlt⟩ := hblk.cells
        have hset := three_set hb02 (g := w.heap.size) (Nat.le_refl _) (.bool neg) (.slice A n c) (.slice A' n' c')
        go_wp2_with fail
        refine ho.mono ?_
        rintro e w3 ⟨rfl, rfl⟩
        go_wp2
        refine bodyPost_ret (v := .agg #[.bool neg, .slice A n c, .slice A' n' c']) (by simp [results, Tryz.results150, go_sem, k0, k1, k2]) rfl ⟨_, rfl, ⟨A, n, c, A', n', c', by rw [HE.out], ?_, ?_⟩, hset⟩
        · rw [HE.out, size_set3]; show NatS _ _ A n c (x / g); rw [HG1.out, Nat.div_one]; exact (ha.later hb02).res hblk _ _ _
        · rw [HE.out, size_set3]; show NatS _ _ A' n' c' (y / g); rw [HG1.out, Nat.div_one]; exact (hb.later hb02).res hblk _ _ _
      · have d3 : decide (g = 1) = false := by simpa using hg1
        rw [d3] at ho
        clear hg1 d3
        go_wp2_with fail
        refine ho.mono ?_
        rintro e w3 ⟨rfl, rfl⟩
        go_wp2_with fail
        refine (over_any A A2 n c m2 c2 x g _ (ha.later hb02) hn2 hg0 (by omega)).mono ?_
        rintro e w4 ⟨A4, m4, c4, _, _, _, rfl, hq4, _, hb4⟩
        have hb04 := hb02.trans (hb4.mono hb02.size)
        go_wp2_with fail
        refine (over_any A' A2 n' c' m2 c2 y g _ (hb.later hb04) (hn2.later hb4) hg0 (by omega)).mono ?_
        rintro e w5 ⟨A5, m5, c5, _, _, _, rfl, hq5, _, hb5⟩
        have hb05 := hb04.trans (hb5.mono hb04.size)
        have hblk := (((ResBlk.new w false (.slice none 0 0) (.slice none 0 0)).below hb2 (by simp)).below hb4 (by have := hb2.size; simp at this; omega)).below hb5 (by have := hb2.size; have := hb4.size; simp at *; omega)
        obtain ⟨k0, k1, k2, f0, f1, f2, hlt⟩ := hblk.cells
        have hset := three_set hb05 (g := w.heap.size) (Nat.le_refl _) (.bool neg) (.slice A4 m4 c4) (.slice A5 m5 c5)
        go_wp2
        refine bodyPost_ret (v := .agg #[.bool neg, .slice A4 m4 c4, .slice A5 m5 c5]) (by simp [results, Tryz.results150, go_sem, k0, k1, k2]) rfl ⟨_, rfl, ⟨A4, m4, c4, A5, m5, c5, by rw [HE.out], ?_, ?_⟩, hset⟩
        · rw [HE.out, size_set3]; exact (hq4.later hb5).res hblk _ _ _
        · rw [HE.out, size_set3]; exact hq5.res hblk _ _ _

end Go.Proofs.YtboaojkblmddkaaGreatDoor

/- Contracts of package number's rational numbers: times. -/
namespace Go.Proofs.YtboaojkblmddkaaGreatDoor
open Go.RowKit Bn

/-- the fields of a boxed rational number -/
def BoxAt (w : World) (g : Nat) (b : Bool) (v1 v2 : Value) : Prop := w.cell? ⟨g, 0, none⟩ = some (.bool b) ∧ w.cell? ⟨g, 1, none⟩ = some v1 ∧ w.cell? ⟨g, 2, none⟩ = some v2

theorem times_len {A : Option Addr} {n c m k x y : Nat} {w : World} (h : NatS w w.heap.size A n c (x * y)) (hx : (digs x).length ≤ m) (hy : (digs y).length ≤ k) : n ≤ m + k := by
  rw [← h.len]
  refine digs_length_le ?_
  rw [Nat.pow_add]
  have h1 := lt_of_digs_length x
  have h2 := lt_of_digs_length y
  have h3 : B ^ (digs x).length ≤ B ^ m := Nat.pow_le_pow_right B_pos hx
  have h4 : B ^ (digs y).length ≤ B ^ k := Nat.pow_le_pow_right B_pos hy
  exact Nat.mul_lt_mul'' (Nat.lt_of_lt_of_le h1 h3) (Nat.lt_of_lt_of_le h2 h4)

theorem far3 {g : Nat} (w : World) (u v x : Value) {q : Addr} (h : g ≠ q.block) : (((w.setCell ⟨g, 0, none⟩ u).setCell ⟨g, 1, none⟩ v).setCell ⟨g, 2, none⟩ x).cell? q = w.cell? q := by
  rw [World.cell?_setCell_far _ _ _ _ (by exact h), World.cell?_setCell_far _ _ _ _ (by exact h), World.cell?_setCell_far _ _ _ _ (by exact h)]

end Go.Proofs.YtboaojkblmddkaaGreatDoor

/- Contract of integer. -/
namespace Go.Proofs.YtboaojkblmddkaaGreatDoor
open Go.RowKit Bn

theorem u64_mod (z : Int) : IntKind.u64.wrap z = z % 18446744073709551616 := by
  first | rfl | (unfold IntKind.wrap; rfl) | (unfold IntKind.wrap IntKind.signed IntKind.bits; simp)

set_option maxHeartbeats 2000000 in
set_option maxRecDepth 100000 in
theorem integer_any (z : Int) (w : World) (h0 : -9223372036854775808 ≤ z) (h1 : z < 9223372036854775808) :
    Calls Tryz.prog 148 #[.int .i64 z] w (RetRat w ⟨decide (z < 0), z.natAbs, 1⟩) := by
  have hb3 : Below w.heap.size w (w.alloc (.cells #[.bool false, .slice none 0 0, .slice none 0 0] 176)) := (Below.refl _ _).alloc (Nat.le_refl _) _
  go_enter Tryz.func148, Tryz.ntmps148
  by_cases hz : z < 0
  · have hd : decide (z < 0) = true := by simpa using hz
    have hw1 : IntKind.u64.wrap z = z + 18446744073709551616 := by rw [u64_mod]; omega
    have hw2 : IntKind.u64.wrap (-(z + 18446744073709551616)) = -z := by rw [u64_mod]; omega
    go_wp2_with fail
    refine (naturalOf_any (-z) _ (by omega) (by omega)).mono ?_
    rintro e w4 ⟨A5, m5, c5, rfl, hn5, hb5⟩
    go_wp2_with fail
    refine (naturalOf_any 1 _ (by omega) (by omega)).mono ?_
    rintro e w6 ⟨A6, m6, c6, rfl, hn6, hb6⟩
    have hk := ((ResBlk.new w false (.slice none 0 0) (.slice none 0 0)).below hb5 (by simp)).below hb6 (by have := hb5.size; simp at this; omega)
    obtain ⟨k0, k1, k2, f0, f1, f2, _⟩ := hk.cells
    have hball := (hb3.trans (hb5.mono hb3.size)).trans (hb6.mono (by have := hb5.size; simp at this; omega))
    have hset := three_set hball (g := w.heap.size) (Nat.le_refl _) (.bool true) (.slice A5 m5 c5) (.slice A6 m6 c6)
    have hna : (-z).toNat = z.natAbs := by omega
    go_wp2
    refine bodyPost_ret (v := .agg #[.bool true, .slice A5 m5 c5, .slice A6 m6 c6]) (by simp [results, Tryz.results148, go_sem, k0, k1, k2]) rfl ⟨_, rfl, ⟨A5, m5, c5, A6, m6, c6, by rw [hd], ?_, ?_⟩, hset⟩
    · rw [size_set3]; show NatS _ _ A5 m5 c5 z.natAbs; rw [← hna]; exact (hn5.later hb6).res hk _ _ _
    · rw [size_set3]; exact hn6.res hk _ _ _
  · have hd : decide (z < 0) = false := by simpa using hz
    have hw1 : IntKind.u64.wrap z = z := by rw [u64_mod]; omega
    go_wp2_with fail
    refine (naturalOf_any (z) _ (by omega) (by omega)).mono ?_
    rintro e w4 ⟨A5, m5, c5, rfl, hn5, hb5⟩
    go_wp2_with fail
    refine (naturalOf_any 1 _ (by omega) (by omega)).mono ?_
    rintro e w6 ⟨A6, m6, c6, rfl, hn6, hb6⟩
    have hk := ((ResBlk.new w false (.slice none 0 0) (.slice none 0 0)).below hb5 (by simp)).below hb6 (by have := hb5.size; simp at this; omega)
    obtain ⟨k0, k1, k2, f0, f1, f2, _⟩ := hk.cells
    have hball := (hb3.trans (hb5.mono hb3.size)).trans (hb6.mono (by have := hb5.size; simp at this; omega))
    have hset := three_set hball (g := w.heap.size) (Nat.le_refl _) (.bool false) (.slice A5 m5 c5) (.slice A6 m6 c6)
    have hna : (z).toNat = z.natAbs := by omega
    go_wp2
    refine bodyPost_ret (v := .agg #[.bool false, .slice A5 m5 c5, .slice A6 m6 c6]) (by simp [results, Tryz.results148, go_sem, k0, k1, k2]) rfl ⟨_, rfl, ⟨A5, m5, c5, A6, m6, c6, by rw [hd], ?_, ?_⟩, hset⟩
    · rw [size_set3]; show NatS _ _ A5 m5 c5 z.natAbs; rw [← hna]; exact (hn5.later hb6).res hk _ _ _
    · rw [size_set3]; exact hn6.res hk _ _ _

end Go.Proofs.YtboaojkblmddkaaGreatDoor

/- Plain mathematics: the decimal text of a natural number, in chunks of 19 digits. No program. -/
namespace Go.Proofs.YtboaojkblmddkaaGreatDoor.Dec
open Go.Lib

/-- a digit -/
def dgt (n : Nat) : UInt8 := UInt8.ofNat (48 + n)
/-- the last k decimal digits of a number, with leading zeros -/
def pad : Nat → Nat → List UInt8
  | 0, _ => []
  | k + 1, r => pad k (r / 10) ++ [dgt (r % 10)]

theorem dec_lt {u : Nat} (h : u < 10) : decDigits u = [dgt u] := by rw [decDigits, dif_pos h]; rfl
theorem dec_ge {u : Nat} (h : ¬ u < 10) : decDigits u = decDigits (u / 10) ++ [dgt (u % 10)] := by rw [decDigits, dif_neg h]; rfl
theorem pad_length (k r : Nat) : (pad k r).length = k := by
  induction k generalizing r with
  | zero => rfl
  | succ k ih => simp [pad, ih]

theorem dec_append (k q r : Nat) (hq : 0 < q) (hr : r < 10 ^ k) : decDigits (q * 10 ^ k + r) = decDigits q ++ pad k r := by
  induction k generalizing r with
  | zero =>
    have : r = 0 := by simpa using hr
    subst this
    simp [pad]
  | succ k ih =>
    rw [Nat.pow_succ] at hr
    have hp : 0 < 10 ^ k := Nat.pow_pos (by omega)
    have h1 : ¬ q * 10 ^ (k + 1) + r < 10 := by
      rw [Nat.pow_succ]
      have : 1 * (10 ^ k * 10) ≤ q * (10 ^ k * 10) := Nat.mul_le_mul_right _ hq
      omega
    have h2 : (q * 10 ^ (k + 1) + r) / 10 = q * 10 ^ k + r / 10 := by
      rw [Nat.pow_succ, ← Nat.mul_assoc]; omega
    have h3 : (q * 10 ^ (k + 1) + r) % 10 = r % 10 := by
      rw [Nat.pow_succ, ← Nat.mul_assoc]; omega
    rw [dec_ge h1, h2, h3, ih (r / 10) (by omega), pad, List.append_assoc]

theorem pad_dec (k r : Nat) (hk : 0 < k) (hr : r < 10 ^ k) : pad k r = List.replicate (k - (decDigits r).length) 48 ++ decDigits r := by
  induction k generalizing r with
  | zero => omega
  | succ k ih =>
    rw [pad]
    rcases Nat.eq_zero_or_pos k with rfl | hk0
    · have h1 : r < 10 := by simpa using hr
      rw [dec_lt h1, Nat.mod_eq_of_lt h1]; simp [pad]
    · rw [Nat.pow_succ] at hr
      rw [ih (r / 10) hk0 (by omega)]
      by_cases h1 : r < 10
      · have h0 : r / 10 = 0 := by omega
        rw [h0, dec_lt h1, dec_lt (by omega : 0 < 10), Nat.mod_eq_of_lt h1]
        simp only [List.length_singleton, Nat.add_sub_cancel]
        have e : k = (k - 1) + 1 := by omega
        rw [show List.replicate k (48 : UInt8) = List.replicate (k - 1) 48 ++ [48] from by rw [← List.replicate_succ', ← e]]
        rfl
      · rw [dec_ge h1, List.length_append, List.length_singleton]
        have hl : (decDigits (r / 10)).length + 1 ≤ k + 1 ∨ True := .inr trivial
        rw [show k + 1 - ((decDigits (r / 10)).length + 1) = k - (decDigits (r / 10)).length from by omega, List.append_assoc]

theorem dec_length_le {k r : Nat} (hk : 0 < k) (hr : r < 10 ^ k) : (decDigits r).length ≤ k := by
  have h := congrArg List.length (pad_dec k r hk hr)
  rw [pad_length, List.length_append, List.length_replicate] at h
  omega
theorem dec_length_pos (r : Nat) : 0 < (decDigits r).length := by
  by_cases h : r < 10
  · rw [dec_lt h]; simp
  · rw [dec_ge h]; simp

/-- the chunk's base -/
def T : Nat := 10000000000000000000
theorem T_def : T = 10000000000000000000 := rfl
theorem T_pow : T = 10 ^ 19 := by decide
theorem T_pos : 0 < T := by decide

/-- one more chunk behind those that stand -/
theorem dec_chunk (x k : Nat) (hq : 0 < x / T ^ (k + 1)) :
    decDigits (x / T ^ k) = decDigits (x / T ^ (k + 1)) ++ (List.replicate (19 - (decDigits (x / T ^ k % T)).length) 48 ++ decDigits (x / T ^ k % T)) := by
  have h1 : x / T ^ (k + 1) = x / T ^ k / T := by rw [Nat.pow_succ, Nat.div_div_eq_div_mul]
  rw [h1] at hq ⊢
  generalize x / T ^ k = y at *
  have hr : y % T < 10 ^ 19 := by rw [← T_pow]; exact Nat.mod_lt _ T_pos
  rw [← pad_dec 19 (y % T) (by omega) hr, ← dec_append 19 (y / T) (y % T) hq hr, ← T_pow, Nat.mul_comm (y / T) T, Nat.div_add_mod]

/-- the chunks, the least first -/
def chunks (x k : Nat) : List Nat := (List.range k).map fun j => x / T ^ j % T
theorem chunks_length (x k : Nat) : (chunks x k).length = k := by simp [chunks]
theorem chunks_succ (x k : Nat) : chunks x (k + 1) = chunks x k ++ [x / T ^ k % T] := by simp [chunks, List.range_succ]
theorem chunks_get (x k j : Nat) (h : j < k) : (chunks x k).getD j 0 = x / T ^ j % T := by simp [chunks, List.getD, h]

end Go.Proofs.YtboaojkblmddkaaGreatDoor.Dec

/- Contracts of copyCheck and WriteString of a strings.Builder (after the shelf's own, whose text another Go had). -/
namespace Go.Proofs.YtboaojkblmddkaaGreatDoor
open Go.RowKit

theorem bldSize : (Tryz.prog.info? 219).map (·.size) = some 2 := by kernel_rfl
theorem bldLies : liesAt Tryz.prog Tryz.prog.depth 219 (2 / Tryz.prog.cellsOf 219) 0 219 1 = true := by kernel_rfl

set_option maxHeartbeats 1000000 in
theorem copyCheck_used (b : Nat) (w : World) (h0 : w.cell? ⟨b, 0, none⟩ = some (.pointer (some ⟨b, 0, none⟩))) :
    Calls Tryz.prog 191 #[.pointer (some ⟨b, 0, none⟩)] w fun e w' => e = .returned (.tuple #[]) ∧ w' = w := by
  obtain ⟨j, hj, _⟩ := Option.map_eq_some_iff.1 bldSize
  have hne := Lib.run_neq_ptr_same w ⟨b, 0, none⟩ Tryz.underlying216 hj
  go_enter Tryz.func191, Tryz.ntmps191
  go_wp2
  go_end0
  exact ⟨rfl, rfl⟩

set_option maxHeartbeats 1000000 in
theorem copyCheck_fresh (b : Nat) (w : World) (h0 : w.cell? ⟨b, 0, none⟩ = some (.pointer none)) (hsh : w.shape? b = some (219, 2)) (hfz : w.frozen? ⟨b, 0, none⟩ = false) :
    Calls Tryz.prog 191 #[.pointer (some ⟨b, 0, none⟩)] w fun e w' => e = .returned (.tuple #[]) ∧ w' = w.setCell ⟨b, 0, none⟩ (.pointer (some ⟨b, 0, none⟩)) := by
  obtain ⟨j, hj, hjs⟩ := Option.map_eq_some_iff.1 bldSize
  have a1 := Lib.run_to_unsafe w ⟨b, 0, none⟩ Tryz.underlying216 Tryz.underlying254 hj (by rw [hjs]; decide) hsh (Nat.zero_lt_succ 1)
  have a2 := Lib.run_from_unsafe w ⟨b, 0, none⟩ Tryz.underlying254 Tryz.underlying216 hj hsh bldLies
  have a3 : ∀ x : Value, (callFunc 209 #[x]).run Tryz.prog w = .ok (.value x) w := fun x => by
    rw [run_callFunc_extern Tryz.func209 (by kernel_rfl) (by kernel_rfl) (by kernel_rfl) (e := Extern.AbiNoEscape.same) (by kernel_rfl), Lib.run_noEscape]
    rfl
  have hne : ∀ W : World, (binOp .neq 216 (.pointer (some ⟨b, 0, none⟩)) (.pointer (some ⟨b, 0, none⟩))).run Tryz.prog W = .ok (.bool false) W := fun W => Lib.run_neq_ptr_same W ⟨b, 0, none⟩ Tryz.underlying216 hj
  clear hjs hj
  go_enter Tryz.func191, Tryz.ntmps191
  go_wp2
  go_end0
  exact ⟨rfl, rfl⟩

theorem copyCheck_any (B b : Nat) (bs : List Value) (w : World) (h : Lib.IsBuilder 219 5 B b bs w) :
    Calls Tryz.prog 191 #[.pointer (some ⟨b, 0, none⟩)] w fun e w' => e = .returned (.tuple #[]) ∧ (Lib.BuilderAt 219 5 B b (.pointer (some ⟨b, 0, none⟩)) bs w' ∧ Below B w w') := by
  rcases h with h | h
  · refine (copyCheck_fresh b w h.cell0 h.shape h.frozen0).mono ?_
    rintro e w' ⟨rfl, rfl⟩
    exact ⟨rfl, h.used _, (Below.refl B w).setCell (p := ⟨b, 0, none⟩) h.1 _⟩
  · refine (copyCheck_used b w h.cell0).mono ?_
    rintro e w' ⟨rfl, rfl⟩
    exact ⟨rfl, h, Below.refl B _⟩

theorem info_u8 : (Tryz.prog.info? 5).map (fun i => (i.zero, i.size, i.bytes)) = some (some (.int .u8 0), 1, 1) := by kernel_rfl

set_option maxHeartbeats 1000000 in
theorem writeString_any (B b : Nat) (bs : List Value) (s : ByteArray) (w : World) (h : Lib.IsBuilder 219 5 B b bs w) (hlen : bs.length + s.size ≤ 140737488355328) (hBw : B ≤ w.heap.size) :
    Calls Tryz.prog 159 #[.pointer (some ⟨b, 0, none⟩), .string s] w fun e w' => e = .returned (.tuple #[.int .i64 s.size, .nilIface]) ∧ (Lib.BuilderAt 219 5 B b (.pointer (some ⟨b, 0, none⟩)) (bs ++ Lib.strCells s) w' ∧ Below B w w') := by
  obtain ⟨i0, hi, hz0, hz1, hz2⟩ := info_parts info_u8
  go_enter Tryz.func159, Tryz.ntmps159
  go_wp2_with fail
  refine (copyCheck_any B b bs _ h).mono ?_
  rintro e w1 ⟨rfl, h1, hb1⟩
  obtain ⟨hB, v, hbk, hown, hne⟩ := h1
  have c0 : w1.cell? ⟨b, 0, none⟩ = some (.pointer (some ⟨b, 0, none⟩)) := by rw [Lib.cell_of_heap hbk]; rfl
  have c1 : w1.cell? ⟨b, 1, none⟩ = some v := by rw [Lib.cell_of_heap hbk]; rfl
  go_wp2_with (at_builtin; refine Lib.wpList_append_own_string _ rfl _ _ 217 9 rfl B 5 i0 Tryz.underlying217 Tryz.underlying9 hi hz0 hz1 hz2 _ _ _ rfl hown s rfl ?c3 ?c4 ?c5 ?_)
  case c3 => unfold maxLen; omega
  case c4 => omega
  case c5 => have := hb1.size; omega
  intro v' w2 hown' hgrow _
  have hlt : b < w1.heap.size := by
    rcases Nat.lt_or_ge b w1.heap.size with h' | h'
    · exact h'
    · simp [Array.getElem?_eq_none h'] at hbk
  have hb2 : w2.heap[b]? = some (.cells #[.pointer (some ⟨b, 0, none⟩), v] 219 (0, 0)) := by
    rw [hgrow.block b hlt (fun e => hne e.symm)]
    exact hbk
  have d0 : w2.cell? ⟨b, 0, none⟩ = some (.pointer (some ⟨b, 0, none⟩)) := by rw [Lib.cell_of_heap hb2]; rfl
  have d1 : w2.cell? ⟨b, 1, none⟩ = some v := by rw [Lib.cell_of_heap hb2]; rfl
  have f1 : w2.frozen? ⟨b, 1, none⟩ = false := Lib.frozen_of_heap hb2 1
  obtain ⟨ao, n', cap, rfl⟩ : ∃ ao n' cap, v' = .slice ao n' cap := by
    rcases hown'.2 with ⟨hv, _⟩ | ⟨g, cap, cur, hv, _⟩
    · exact ⟨_, _, _, hv⟩
    · exact ⟨_, _, _, hv⟩
  go_wp2
  go_ret2
  refine ⟨rfl, ?_, ?_⟩
  · exact Lib.BuilderAt.put (T := 219) (e := 5) hB hb2 (bs' := bs ++ Lib.strCells s) (by simpa [Lib.strCells_length] using hown') (by decide)
  · exact (hb1.grown hgrow (by have := hb1.size; omega) (fun k hk => (hown.lt k hk).1)).setCell (p := ⟨b, 1, none⟩) hB _

end Go.Proofs.YtboaojkblmddkaaGreatDoor

/- Contract of strconv.FormatUint at base 10. -/
namespace Go.Proofs.YtboaojkblmddkaaGreatDoor
open Go.RowKit Go.Lib Go.Sort

set_option maxHeartbeats 2000000 in
set_option maxRecDepth 100000 in
theorem formatUint_in (u : Nat) (hu64 : u < 18446744073709551616) (w : World) (hT : Tabs w) :
    Calls Tryz.prog 192 #[.int .u64 u, .int .i64 10] w fun e w' => e = .returned (.string ⟨(Lib.decDigits u).toArray⟩) ∧ Below w.heap.size w w' := by
  by_cases hs : u < 100
  · have hw : IntKind.i64.wrap (u : Int) = (u : Int) := IntWalk.i64_in _ (by omega)
    have hd : decide ((u : Int) < 100) = true := by simp; omega
    go_enter Tryz.func192, Tryz.ntmps192
    go_wp2_with fail
    refine (Tryz.internal_strconv_small u hs _).mono ?_
    rintro e w1 ⟨rfl, rfl⟩
    go_wp2
    go_ret
    exact ⟨rfl, Below.refl _ _⟩
  · have hd : decide ((u : Int) < 100) = false := by simp; omega
    have hu1 : 1 ≤ u := by omega
    have hnd20 : Lib.nDigits u ≤ 20 := by have := Lib.numDigits_eq u hu1 hu64; split at this <;> omega
    have hal : Tryz.prog.arrayLen 257 = 24 := by kernel_rfl
    have hsl : ∀ W, (Instr.sliceAt 257 (.pointer (some ⟨w.heap.size, 0, none⟩)) none (some (.int .i64 (Lib.nDigits u : Int))) none).run Tryz.prog W = .ok (.slice (some ⟨w.heap.size, 0, none⟩) (Lib.nDigits u) 24) W := fun W => by
      rw [run_sliceAt_array_h W 257 ⟨w.heap.size, 0, none⟩ (by kernel_rfl) .i64 (Lib.nDigits u : Int) (by omega) (by rw [hal]; omega)]
      go_simp
    have hH0 := Lib.holds_zero0 w 257 (Lib.nDigits u) (by omega)
    have hfmt := Tryz.internal_strconv_formatBase10 w.heap.size 0 24 u (Array.replicate (Lib.nDigits u) 0) (w.alloc (.cells Lib.zeros24 257)) hH0 (by rw [Array.size_replicate]; exact Lib.lt_pow_nDigits u) hu64 (by rw [Array.size_replicate]; omega)
    rw [Array.size_replicate] at hfmt
    have HH0 := Lib.hid hH0
    have HN := Lib.hid (Tryz.internal_strconv_numDigits u hu1 hu64 (w.alloc (.cells Lib.zeros24 257)) (Lib.tabIs_alloc hT.pow _))
    clear hH0 hal hu1
    go_enter Tryz.func192, Tryz.ntmps192
    go_wp2_with fail
    refine HN.out.mono ?_
    rintro e w1 ⟨rfl, rfl⟩
    go_wp2_with fail
    refine hfmt.mono ?_
    rintro e w' ⟨rfl, k, v', dk, rfl, hF⟩
    have hcv : (convert 217 9 (.slice (some ⟨w.heap.size, 0, none⟩) (Lib.nDigits u) 24)).run Tryz.prog ((putRow (fun (b : UInt8) => Value.int .u8 (b.toNat : Int)) (w.alloc (.cells Lib.zeros24 257)) w.heap.size 0 dk).drewN k) = .ok (.string ⟨(Lib.decDigits u).toArray⟩) ((putRow (fun (b : UInt8) => Value.int .u8 (b.toNat : Int)) (w.alloc (.cells Lib.zeros24 257)) w.heap.size 0 dk).drewN k) := by
      have h := run_convert_bytes_back (P := Tryz.prog) ((putRow (fun (b : UInt8) => Value.int .u8 (b.toNat : Int)) (w.alloc (.cells Lib.zeros24 257)) w.heap.size 0 dk).drewN k) 217 9 5 ⟨w.heap.size, 0, none⟩ 24 (Lib.decDigits u) Tryz.underlying217 Tryz.underlying5 Tryz.underlying9 (fun j hj => by
        rw [Lib.row_is_numeral hF j hj, Lib.add_plain, World.cell?_drewN]
        exact cell?_putRow (fun (b : UInt8) => Value.int .u8 (b.toNat : Int)) _ w.heap.size 0 _ dk HH0.out (by rw [hF.size, Array.size_replicate]) j (by rw [hF.size]; rw [Lib.decDigits_length] at hj; exact hj))
      rw [Lib.decDigits_length] at h
      exact h
    have hB : Below w.heap.size w ((putRow (fun (b : UInt8) => Value.int .u8 (b.toNat : Int)) (w.alloc (.cells Lib.zeros24 257)) w.heap.size 0 dk).drewN k) := by
      refine below_drewN ?_ k
      rw [alloc_eq_grow]
      obtain ⟨os', _, e⟩ := putRow_grow_new (fun (b : UInt8) => Value.int .u8 (b.toNat : Int)) w #[.cells Lib.zeros24 257] w.heap.size 0 dk (Nat.le_refl _)
      rw [e]
      have h := below_grow w.heap.size w (Nat.le_refl _) 0 os'
      rwa [World.drewN_zero] at h
    go_wp2
    go_ret
    exact ⟨rfl, hB⟩

theorem formatUint_any (u : Nat) (hu64 : u < 18446744073709551616) (w : World) (hT : Tabs w) :
    Calls Tryz.prog 160 #[.int .u64 u, .int .i64 10] w fun e w' => e = .returned (.string ⟨(Lib.decDigits u).toArray⟩) ∧ Below w.heap.size w w' := by
  have h := formatUint_in u hu64 w hT
  generalize (⟨(Lib.decDigits u).toArray⟩ : ByteArray) = s at h ⊢
  go_enter Tryz.func160, Tryz.ntmps160
  go_wp2_with fail
  refine h.mono ?_
  rintro e w1 ⟨rfl, hb⟩
  go_wp2
  go_ret
  exact ⟨rfl, hb⟩

end Go.Proofs.YtboaojkblmddkaaGreatDoor
