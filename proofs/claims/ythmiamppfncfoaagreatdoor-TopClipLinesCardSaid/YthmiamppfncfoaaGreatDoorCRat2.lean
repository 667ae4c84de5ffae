/- Contracts of package number's rational numbers: times. -/
import Derived.Test.YthmiamppfncfoaaGreatDoorCRat1
import Derived.Test.YthmiamppfncfoaaGreatDoorCNat3
import Derived.Deep.RegionHeld3
namespace Go.Proofs.YthmiamppfncfoaaGreatDoor
open Go.RowKit Bn

/-- the fields of a boxed rational number -/
def BoxAt (w : World) (g : Nat) (b : Bool) (v1 v2 : Value) : Prop := w.cell? ⟨g, 0, none⟩ = some (.bool b) ∧ w.cell? ⟨g, 1, none⟩ = some v1 ∧ w.cell? ⟨g, 2, none⟩ = some v2

theorem times_len {A : Option Addr} {n c m k x y : Nat} {w : World} (h : NatS w w.heap.size A n c (x * y)) (hx : (digs x).length ≤ m) (hy : (digs y).length ≤ k) : n ≤ m + k := by
  rw [← h.len]
  refine digs_length_le ?_
  rw [Nat.pow_add]
  have h1 := lt_of_digs_length x
  have h2 := lt_of_digs_length y
  have h3 : B ^ (digs x).length ≤ B ^ m := Nat.pow_le_pow_right B_pos hx
  have h4 : B ^ (digs y).length ≤ B ^ k := Nat.pow_le_pow_right B_pos hy
  exact Nat.mul_lt_mul'' (Nat.lt_of_lt_of_le h1 h3) (Nat.lt_of_lt_of_le h2 h4)

theorem far3 {g : Nat} (w : World) (u v x : Value) {q : Addr} (h : g ≠ q.block) : (((w.setCell ⟨g, 0, none⟩ u).setCell ⟨g, 1, none⟩ v).setCell ⟨g, 2, none⟩ x).cell? q = w.cell? q := by
  rw [World.cell?_setCell_far _ _ _ _ (by exact h), World.cell?_setCell_far _ _ _ _ (by exact h), World.cell?_setCell_far _ _ _ _ (by exact h)]

end Go.Proofs.YthmiamppfncfoaaGreatDoor

/- Contract of integer. -/
namespace Go.Proofs.YthmiamppfncfoaaGreatDoor
open Go.RowKit Bn

theorem u64_mod (z : Int) : IntKind.u64.wrap z = z % 18446744073709551616 := by
  first | rfl | (unfold IntKind.wrap; rfl) | (unfold IntKind.wrap IntKind.signed IntKind.bits; simp)

set_option maxHeartbeats 2000000 in
set_option maxRecDepth 100000 in
theorem integer_any (z : Int) (w : World) (h0 : -9223372036854775808 ≤ z) (h1 : z < 9223372036854775808) :
    Calls Tryz.prog 124 #[.int .i64 z] w (RetRat w ⟨decide (z < 0), z.natAbs, 1⟩) := by
  have hb3 : Below w.heap.size w (w.alloc (.cells #[.bool false, .slice none 0 0, .slice none 0 0] 93)) := (Below.refl _ _).alloc (Nat.le_refl _) _
  go_enter Tryz.func124, Tryz.ntmps124
  by_cases hz : z < 0
  · have hd : decide (z < 0) = true := by simpa using hz
    have hw1 : IntKind.u64.wrap z = z + 18446744073709551616 := by rw [u64_mod]; omega
    have hw2 : IntKind.u64.wrap (-(z + 18446744073709551616)) = -z := by rw [u64_mod]; omega
    go_wp2_with fail
    refine (naturalOf_any (-z) _ (by omega) (by omega)).mono ?_
    rintro e w4 ⟨A5, m5, c5, rfl, hn5, hb5⟩
    go_wp2_with fail
    refine (naturalOf_any 1 _ (by omega) (by omega)).mono ?_
    rintro e w6 ⟨A6, m6, c6, rfl, hn6, hb6⟩
    have hk := ((ResBlk.new w false (.slice none 0 0) (.slice none 0 0)).below hb5 (by simp)).below hb6 (by have := hb5.size; simp at this; omega)
    obtain ⟨k0, k1, k2, f0, f1, f2, _⟩ := hk.cells
    have hball := (hb3.trans (hb5.mono hb3.size)).trans (hb6.mono (by have := hb5.size; simp at this; omega))
    have hset := three_set hball (g := w.heap.size) (Nat.le_refl _) (.bool true) (.slice A5 m5 c5) (.slice A6 m6 c6)
    have hna : (-z).toNat = z.natAbs := by omega
    go_wp2
    refine bodyPost_ret (v := .agg #[.bool true, .slice A5 m5 c5, .slice A6 m6 c6]) (by simp [results, Tryz.results124, go_sem, k0, k1, k2]) rfl ⟨_, rfl, ⟨A5, m5, c5, A6, m6, c6, by rw [hd], ?_, ?_⟩, hset⟩
    · rw [size_set3]; show NatS _ _ A5 m5 c5 z.natAbs; rw [← hna]; exact (hn5.later hb6).res hk _ _ _
    · rw [size_set3]; exact hn6.res hk _ _ _
  · have hd : decide (z < 0) = false := by simpa using hz
    have hw1 : IntKind.u64.wrap z = z := by rw [u64_mod]; omega
    go_wp2_with fail
    refine (naturalOf_any (z) _ (by omega) (by omega)).mono ?_
    rintro e w4 ⟨A5, m5, c5, rfl, hn5, hb5⟩
    go_wp2_with fail
    refine (naturalOf_any 1 _ (by omega) (by omega)).mono ?_
    rintro e w6 ⟨A6, m6, c6, rfl, hn6, hb6⟩
    have hk := ((ResBlk.new w false (.slice none 0 0) (.slice none 0 0)).below hb5 (by simp)).below hb6 (by have := hb5.size; simp at this; omega)
    obtain ⟨k0, k1, k2, f0, f1, f2, _⟩ := hk.cells
    have hball := (hb3.trans (hb5.mono hb3.size)).trans (hb6.mono (by have := hb5.size; simp at this; omega))
    have hset := three_set hball (g := w.heap.size) (Nat.le_refl _) (.bool false) (.slice A5 m5 c5) (.slice A6 m6 c6)
    have hna : (z).toNat = z.natAbs := by omega
    go_wp2
    refine bodyPost_ret (v := .agg #[.bool false, .slice A5 m5 c5, .slice A6 m6 c6]) (by simp [results, Tryz.results124, go_sem, k0, k1, k2]) rfl ⟨_, rfl, ⟨A5, m5, c5, A6, m6, c6, by rw [hd], ?_, ?_⟩, hset⟩
    · rw [size_set3]; show NatS _ _ A5 m5 c5 z.natAbs; rw [← hna]; exact (hn5.later hb6).res hk _ _ _
    · rw [size_set3]; exact hn6.res hk _ _ _

end Go.Proofs.YthmiamppfncfoaaGreatDoor

/- Contracts of compare, isZero and negated of rational numbers. -/
namespace Go.Proofs.YthmiamppfncfoaaGreatDoor
open Go.RowKit Bn

/-- the order of two rational numbers as the program finds it -/
def rcmp (p q : Q) : Int := if p.neg = q.neg then (if p.neg then -(ncmp (p.top * q.bot) (q.top * p.bot)) else ncmp (p.top * q.bot) (q.top * p.bot)) else (if q.neg then 1 else -1)

theorem ncmp_three (x y : Nat) : ncmp x y = -1 ∨ ncmp x y = 0 ∨ ncmp x y = 1 := by
  unfold ncmp; split <;> (try split) <;> simp

theorem wrap_1 : wrap64 1 = 1 := by simp [wrap64]
theorem wrap_0 : wrap64 0 = 0 := by simp [wrap64]
theorem wrap_m1 : wrap64 (-1) = -1 := by simp [wrap64]

set_option maxHeartbeats 4000000 in
set_option maxRecDepth 100000 in
theorem ratCompare_same (b : Bool) (t1 u1 t2 u2 : Nat) (A1 A2 A3 A4 : Option Addr) (n1 c1 n2 c2 n3 c3 n4 c4 : Nat) (w : World)
    (h1 : NatS w w.heap.size A1 n1 c1 t1) (h2 : NatS w w.heap.size A2 n2 c2 u1) (h3 : NatS w w.heap.size A3 n3 c3 t2) (h4 : NatS w w.heap.size A4 n4 c4 u2)
    (k1 : n1 ≤ 268435456) (k2 : n2 ≤ 268435456) (k3 : n3 ≤ 268435456) (k4 : n4 ≤ 268435456) :
    Calls Tryz.prog 111 #[.agg #[.bool b, .slice A1 n1 c1, .slice A2 n2 c2], .agg #[.bool b, .slice A3 n3 c3, .slice A4 n4 c4]] w
      fun e w' => e = .returned (.int .i64 (if b then -(ncmp (t1 * u2) (t2 * u1)) else ncmp (t1 * u2) (t2 * u1))) ∧ Below w.heap.size w w' := by
  go_enter Tryz.func111, Tryz.ntmps111
  cases b
  · go_wp2_with fail
    have hb3 : Below w.heap.size w ((w.alloc (.cells #[.bool false, .slice A1 n1 c1, .slice A2 n2 c2] 93)).alloc (.cells #[.bool false, .slice A3 n3 c3, .slice A4 n4 c4] 93)) := ((Below.refl _ _).alloc (Nat.le_refl _) _).alloc (by simp) _
    have hx0 : ResBlk ((w.alloc (.cells #[.bool false, .slice A1 n1 c1, .slice A2 n2 c2] 93)).alloc (.cells #[.bool false, .slice A3 n3 c3, .slice A4 n4 c4] 93)) w.heap.size false (.slice A1 n1 c1) (.slice A2 n2 c2) := (ResBlk.new w _ _ _).below ((Below.refl _ _).alloc (Nat.le_refl _) _) (by simp)
    have hx1 : ResBlk ((w.alloc (.cells #[.bool false, .slice A1 n1 c1, .slice A2 n2 c2] 93)).alloc (.cells #[.bool false, .slice A3 n3 c3, .slice A4 n4 c4] 93)) (w.heap.size + 1) false (.slice A3 n3 c3) (.slice A4 n4 c4) := by
      have h := ResBlk.new (w.alloc (.cells #[.bool false, .slice A1 n1 c1, .slice A2 n2 c2] 93)) false (.slice A3 n3 c3) (.slice A4 n4 c4)
      simpa using h
    generalize ((w.alloc (.cells #[.bool false, .slice A1 n1 c1, .slice A2 n2 c2] 93)).alloc (.cells #[.bool false, .slice A3 n3 c3, .slice A4 n4 c4] 93)) = w3 at *
    obtain ⟨a0, a1, a2, _, _, _, al⟩ := hx0.cells
    obtain ⟨b0, b1, b2, _, _, _, bl⟩ := hx1.cells
    have hb3d : Below w.heap.size w w3.drew := hb3.drew
    have ht1 := times_any A1 A4 n1 c1 n4 c4 t1 u2 w3.drew (h1.later hb3d) (h4.later hb3d) (by omega) (by omega)
    have HT1 := Lib.hid ht1
    clear ht1
    go_region_held3 (fun w' => w'.cell? ⟨w.heap.size, 0, none⟩ = some (.bool false) ∧ w'.cell? ⟨w.heap.size, 1, none⟩ = some (.slice A1 n1 c1) ∧ w'.cell? ⟨w.heap.size, 2, none⟩ = some (.slice A2 n2 c2) ∧ w'.cell? ⟨w.heap.size + 1, 0, none⟩ = some (.bool false) ∧ w'.cell? ⟨w.heap.size + 1, 1, none⟩ = some (.slice A3 n3 c3) ∧ w'.cell? ⟨w.heap.size + 1, 2, none⟩ = some (.slice A4 n4 c4))
      (first | exact ⟨a0, a1, a2, b0, b1, b2⟩ | exact ⟨((hb5.cell (p := ⟨w.heap.size, 0, none⟩) al).trans a0), ((hb5.cell (p := ⟨w.heap.size, 1, none⟩) al).trans a1), ((hb5.cell (p := ⟨w.heap.size, 2, none⟩) al).trans a2), ((hb5.cell (p := ⟨w.heap.size + 1, 0, none⟩) bl).trans b0), ((hb5.cell (p := ⟨w.heap.size + 1, 1, none⟩) bl).trans b1), ((hb5.cell (p := ⟨w.heap.size + 1, 2, none⟩) bl).trans b2)⟩ | exact ⟨((hb6.cell (p := ⟨w.heap.size, 0, none⟩) (al6)).trans ((hb5.cell (p := ⟨w.heap.size, 0, none⟩) al).trans a0)), ((hb6.cell (p := ⟨w.heap.size, 1, none⟩) (al6)).trans ((hb5.cell (p := ⟨w.heap.size, 1, none⟩) al).trans a1)), ((hb6.cell (p := ⟨w.heap.size, 2, none⟩) (al6)).trans ((hb5.cell (p := ⟨w.heap.size, 2, none⟩) al).trans a2)), ((hb6.cell (p := ⟨w.heap.size + 1, 0, none⟩) (bl6)).trans ((hb5.cell (p := ⟨w.heap.size + 1, 0, none⟩) bl).trans b0)), ((hb6.cell (p := ⟨w.heap.size + 1, 1, none⟩) (bl6)).trans ((hb5.cell (p := ⟨w.heap.size + 1, 1, none⟩) bl).trans b1)), ((hb6.cell (p := ⟨w.heap.size + 1, 2, none⟩) (bl6)).trans ((hb5.cell (p := ⟨w.heap.size + 1, 2, none⟩) bl).trans b2))⟩)
      (first
        | (go_at_call_of 122 (Value.slice A1 n1 c1); refine (HT1.out).mono ?_; rintro e w4 ⟨A5, m5, c5, rfl, hn5, hb5⟩; have al6 := Nat.lt_of_lt_of_le al hb5.size; have bl6 := Nat.lt_of_lt_of_le bl hb5.size)
        | (go_at_call_of 122 (Value.slice A3 n3 c3); refine (times_any A3 A2 n3 c3 n2 c2 t2 u1 w4 ((h3.later hb3d).later hb5) ((h2.later hb3d).later hb5) (by omega) (by omega)).mono ?_; rintro e w6 ⟨A6, m6, c6, rfl, hn6, hb6⟩; have al7 := Nat.lt_of_lt_of_le al6 hb6.size; have bl7 := Nat.lt_of_lt_of_le bl6 hb6.size)
        | (go_at_call 81; refine (compare_any A5 A6 m5 c5 m6 c6 _ _ w6 (hn5.later hb6) hn6).mono ?_; rintro e w7 ⟨rfl, nq, rfl⟩))
    have hb7all : Below w.heap.size w (w6.drewN nq) := by
      have s5 := hb3d.size
      have s6 := hb5.size
      exact below_drewN ((hb3d.trans (hb5.mono s5)).trans (hb6.mono (by omega))) nq
    go_wp2
    refine bodyPost_ret (v := .int .i64 (ncmp (t1 * u2) (t2 * u1))) (by simp [results, Tryz.results111, go_sem]) rfl ⟨rfl, hb7all⟩
  · go_wp2_with fail
    have hb3 : Below w.heap.size w ((w.alloc (.cells #[.bool true, .slice A1 n1 c1, .slice A2 n2 c2] 93)).alloc (.cells #[.bool true, .slice A3 n3 c3, .slice A4 n4 c4] 93)) := ((Below.refl _ _).alloc (Nat.le_refl _) _).alloc (by simp) _
    have hx0 : ResBlk ((w.alloc (.cells #[.bool true, .slice A1 n1 c1, .slice A2 n2 c2] 93)).alloc (.cells #[.bool true, .slice A3 n3 c3, .slice A4 n4 c4] 93)) w.heap.size true (.slice A1 n1 c1) (.slice A2 n2 c2) := (ResBlk.new w _ _ _).below ((Below.refl _ _).alloc (Nat.le_refl _) _) (by simp)
    have hx1 : ResBlk ((w.alloc (.cells #[.bool true, .slice A1 n1 c1, .slice A2 n2 c2] 93)).alloc (.cells #[.bool true, .slice A3 n3 c3, .slice A4 n4 c4] 93)) (w.heap.size + 1) true (.slice A3 n3 c3) (.slice A4 n4 c4) := by
      have h := ResBlk.new (w.alloc (.cells #[.bool true, .slice A1 n1 c1, .slice A2 n2 c2] 93)) true (.slice A3 n3 c3) (.slice A4 n4 c4)
      simpa using h
    generalize ((w.alloc (.cells #[.bool true, .slice A1 n1 c1, .slice A2 n2 c2] 93)).alloc (.cells #[.bool true, .slice A3 n3 c3, .slice A4 n4 c4] 93)) = w3 at *
    obtain ⟨a0, a1, a2, _, _, _, al⟩ := hx0.cells
    obtain ⟨b0, b1, b2, _, _, _, bl⟩ := hx1.cells
    have hb3d : Below w.heap.size w w3.drew := hb3.drew
    have ht1 := times_any A1 A4 n1 c1 n4 c4 t1 u2 w3.drew (h1.later hb3d) (h4.later hb3d) (by omega) (by omega)
    have HT1 := Lib.hid ht1
    clear ht1
    go_region_held3 (fun w' => w'.cell? ⟨w.heap.size, 0, none⟩ = some (.bool true) ∧ w'.cell? ⟨w.heap.size, 1, none⟩ = some (.slice A1 n1 c1) ∧ w'.cell? ⟨w.heap.size, 2, none⟩ = some (.slice A2 n2 c2) ∧ w'.cell? ⟨w.heap.size + 1, 0, none⟩ = some (.bool true) ∧ w'.cell? ⟨w.heap.size + 1, 1, none⟩ = some (.slice A3 n3 c3) ∧ w'.cell? ⟨w.heap.size + 1, 2, none⟩ = some (.slice A4 n4 c4))
      (first | exact ⟨a0, a1, a2, b0, b1, b2⟩ | exact ⟨((hb5.cell (p := ⟨w.heap.size, 0, none⟩) al).trans a0), ((hb5.cell (p := ⟨w.heap.size, 1, none⟩) al).trans a1), ((hb5.cell (p := ⟨w.heap.size, 2, none⟩) al).trans a2), ((hb5.cell (p := ⟨w.heap.size + 1, 0, none⟩) bl).trans b0), ((hb5.cell (p := ⟨w.heap.size + 1, 1, none⟩) bl).trans b1), ((hb5.cell (p := ⟨w.heap.size + 1, 2, none⟩) bl).trans b2)⟩ | exact ⟨((hb6.cell (p := ⟨w.heap.size, 0, none⟩) (al6)).trans ((hb5.cell (p := ⟨w.heap.size, 0, none⟩) al).trans a0)), ((hb6.cell (p := ⟨w.heap.size, 1, none⟩) (al6)).trans ((hb5.cell (p := ⟨w.heap.size, 1, none⟩) al).trans a1)), ((hb6.cell (p := ⟨w.heap.size, 2, none⟩) (al6)).trans ((hb5.cell (p := ⟨w.heap.size, 2, none⟩) al).trans a2)), ((hb6.cell (p := ⟨w.heap.size + 1, 0, none⟩) (bl6)).trans ((hb5.cell (p := ⟨w.heap.size + 1, 0, none⟩) bl).trans b0)), ((hb6.cell (p := ⟨w.heap.size + 1, 1, none⟩) (bl6)).trans ((hb5.cell (p := ⟨w.heap.size + 1, 1, none⟩) bl).trans b1)), ((hb6.cell (p := ⟨w.heap.size + 1, 2, none⟩) (bl6)).trans ((hb5.cell (p := ⟨w.heap.size + 1, 2, none⟩) bl).trans b2))⟩)
      (first
        | (go_at_call_of 122 (Value.slice A1 n1 c1); refine (HT1.out).mono ?_; rintro e w4 ⟨A5, m5, c5, rfl, hn5, hb5⟩; have al6 := Nat.lt_of_lt_of_le al hb5.size; have bl6 := Nat.lt_of_lt_of_le bl hb5.size)
        | (go_at_call_of 122 (Value.slice A3 n3 c3); refine (times_any A3 A2 n3 c3 n2 c2 t2 u1 w4 ((h3.later hb3d).later hb5) ((h2.later hb3d).later hb5) (by omega) (by omega)).mono ?_; rintro e w6 ⟨A6, m6, c6, rfl, hn6, hb6⟩; have al7 := Nat.lt_of_lt_of_le al6 hb6.size; have bl7 := Nat.lt_of_lt_of_le bl6 hb6.size)
        | (go_at_call 81; refine (compare_any A5 A6 m5 c5 m6 c6 _ _ w6 (hn5.later hb6) hn6).mono ?_; rintro e w7 ⟨rfl, nq, rfl⟩))
    have hb7all : Below w.heap.size w (w6.drewN nq) := by
      have s5 := hb3d.size
      have s6 := hb5.size
      exact below_drewN ((hb3d.trans (hb5.mono s5)).trans (hb6.mono (by omega))) nq
    go_wp2_with fail
    rcases ncmp_three (t1 * u2) (t2 * u1) with e3 | e3 | e3
    all_goals
      rw [e3]
      go_wp2
      exact bodyPost_ret (by simp [results, Tryz.results111, go_sem, wrap_m1, wrap_0, wrap_1]; try rfl) rfl ⟨by simp, hb7all⟩

set_option maxHeartbeats 4000000 in
set_option maxRecDepth 100000 in
theorem ratCompare_diff (b : Bool) (A1 A2 A3 A4 : Option Addr) (n1 c1 n2 c2 n3 c3 n4 c4 : Nat) (w : World) :
    Calls Tryz.prog 111 #[.agg #[.bool (!b), .slice A1 n1 c1, .slice A2 n2 c2], .agg #[.bool b, .slice A3 n3 c3, .slice A4 n4 c4]] w
      fun e w' => e = .returned (.int .i64 (if b then 1 else -1)) ∧ Below w.heap.size w w' := by
  go_enter Tryz.func111, Tryz.ntmps111
  cases b
  · go_wp2_with fail
    refine (sign_any _ _).mono ?_
    rintro e w2 ⟨rfl, rfl⟩
    go_wp2
    exact bodyPost_ret (by simp [results, Tryz.results111, go_sem]; try rfl) rfl ⟨rfl, (((Below.refl _ _).alloc (Nat.le_refl _) _).alloc (by simp) _)⟩
  · go_wp2_with fail
    refine (sign_any _ _).mono ?_
    rintro e w2 ⟨rfl, rfl⟩
    go_wp2
    exact bodyPost_ret (by simp [results, Tryz.results111, go_sem]; try rfl) rfl ⟨rfl, (((Below.refl _ _).alloc (Nat.le_refl _) _).alloc (by simp) _)⟩

theorem ratCompare_any (p q : Q) (A1 A2 A3 A4 : Option Addr) (n1 c1 n2 c2 n3 c3 n4 c4 : Nat) (w : World)
    (h1 : NatS w w.heap.size A1 n1 c1 p.top) (h2 : NatS w w.heap.size A2 n2 c2 p.bot) (h3 : NatS w w.heap.size A3 n3 c3 q.top) (h4 : NatS w w.heap.size A4 n4 c4 q.bot)
    (k1 : n1 ≤ 268435456) (k2 : n2 ≤ 268435456) (k3 : n3 ≤ 268435456) (k4 : n4 ≤ 268435456) :
    Calls Tryz.prog 111 #[.agg #[.bool p.neg, .slice A1 n1 c1, .slice A2 n2 c2], .agg #[.bool q.neg, .slice A3 n3 c3, .slice A4 n4 c4]] w
      fun e w' => e = .returned (.int .i64 (rcmp p q)) ∧ Below w.heap.size w w' := by
  unfold rcmp
  by_cases h : p.neg = q.neg
  · rw [if_pos h, ← h]
    exact ratCompare_same p.neg p.top p.bot q.top q.bot A1 A2 A3 A4 n1 c1 n2 c2 n3 c3 n4 c4 w h1 h2 h3 h4 k1 k2 k3 k4
  · rw [if_neg h]
    have hq : p.neg = !q.neg := by revert h; cases p.neg <;> cases q.neg <;> simp
    rw [hq]
    exact ratCompare_diff q.neg A1 A2 A3 A4 n1 c1 n2 c2 n3 c3 n4 c4 w

theorem ratIsZero_any (b : Bool) (x : Nat) (A1 A2 : Option Addr) (n1 c1 n2 c2 : Nat) (w : World) (h1 : NatS w w.heap.size A1 n1 c1 x) :
    Calls Tryz.prog 47 #[.agg #[.bool b, .slice A1 n1 c1, .slice A2 n2 c2]] w
      fun e w' => e = .returned (.bool (decide (x = 0))) ∧ Below w.heap.size w w' := by
  go_enter Tryz.func47, Tryz.ntmps47
  go_wp2_with fail
  have hb := (Below.refl w.heap.size w).alloc (Nat.le_refl _) (.cells #[.bool b, .slice A1 n1 c1, .slice A2 n2 c2] 93)
  refine (isZero_val A1 n1 c1 x _ (h1.later hb)).mono ?_
  rintro e w2 ⟨rfl, rfl⟩
  go_wp2
  exact bodyPost_ret (by simp [results, Tryz.results47, go_sem]; try rfl) rfl ⟨rfl, hb⟩

end Go.Proofs.YthmiamppfncfoaaGreatDoor
