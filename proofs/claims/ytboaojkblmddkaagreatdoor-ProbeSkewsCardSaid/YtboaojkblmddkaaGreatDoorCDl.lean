/- Contracts of package rational: commonDivisor, lowest. -/
import Derived.Test.YtboaojkblmddkaaGreatDoorCDo
import Derived.Test.YtboaojkblmddkaaGreatDoorCRat1
import Derived.Deep.RegionHeld3
import Derived.Test.YtboaojkblmddkaaGreatDoorCRat4
import Derived.Test.YtboaojkblmddkaaGreatDoorCDiv1
namespace Go.Proofs.YtboaojkblmddkaaGreatDoor
open Go.RowKit Dn

theorem disZero_val (A : Option Addr) (n c x : Nat) (w : World) (h : NatD w w.heap.size A n c x) :
    Calls Tryz.prog 129 #[.slice A n c] w fun e w' => e = .returned (.bool (decide (x = 0))) ∧ w = w' := by
  have hz := disZero_any A n c w (by have := h.nc; have := h.cm; omega)
  have e : ((n : Int) == 0) = decide (x = 0) := by
    rw [Bool.eq_iff_iff]
    simp only [beq_iff_eq, decide_eq_true_eq]
    rw [← digs_length_zero (n := x), h.len]
    omega
  rwa [e] at hz

set_option maxHeartbeats 2000000 in
set_option maxRecDepth 100000 in
theorem dgcd_any (A A' : Option Addr) (n c n' c' x y : Nat) (w : World) (ha : NatD w w.heap.size A n c x) (hb : NatD w w.heap.size A' n' c' y) (hn : n ≤ 549755813888) (hn' : n' ≤ 549755813888) :
    Calls Tryz.prog 156 #[.slice A n c, .slice A' n' c'] w (RetD w (Nat.gcd x y)) := by
  go_enter Tryz.func156, Tryz.ntmps156
  go_wp2
  go_loopg [0, 1] y (fun q av bv W => ∃ (A : Option Addr) (n c : Nat) (A' : Option Addr) (n' c' u v : Nat), av = .slice A n c ∧ bv = .slice A' n' c' ∧ NatD W W.heap.size A n c u ∧ NatD W W.heap.size A' n' c' v ∧ n ≤ 549755813888 ∧ n' ≤ 549755813888 ∧ Hid (Nat.gcd u v = Nat.gcd x y) ∧ v ≤ q ∧ Below w.heap.size w W)
  case atStart => exact ⟨A, n, c, A', n', c', x, y, rfl, rfl, ha, hb, hn, hn', rfl, Nat.le_refl _, Below.refl _ _⟩
  case round =>
    obtain ⟨A, n, c, A', n', c', u, v, rfl, rfl, h1, h2, hn, hn', hg, hq, hbel⟩ := hrel
    have hz := disZero_val A' n' c' v wr h2
    by_cases hv : v = 0
    · have d1 : decide (v = 0) = true := by simpa using hv
      rw [d1] at hz
      have hgv : Nat.gcd x y = u := by rw [← hg.out, hv, Nat.gcd_zero_right]
      have HZ := Lib.hid hz
      have HR : Hid (RetD w (Nat.gcd x y) (.returned (.slice A n c)) wr) := ⟨A, n, c, rfl, by rw [hgv]; exact h1, hbel⟩
      clear hz hv d1 hgv
      go_wp2_with fail
      refine HZ.out.mono ?_
      rintro e w1 ⟨rfl, hw⟩
      obtain rfl : wr = w1 := hw
      go_wp2
      go_ret
      exact HR.out
    · have d1 : decide (v = 0) = false := by simpa using hv
      rw [d1] at hz
      have hv0 : 0 < v := by omega
      have hmod := Nat.mod_lt u hv0
      have HZ := Lib.hid hz
      have HO := Lib.hid (dover_any A A' n c n' c' u v wr h1 h2 hv0 hn hn')
      have HG : Hid (Nat.gcd v (u % v) = Nat.gcd x y) := by
        show Nat.gcd v (u % v) = Nat.gcd x y
        rw [← hg.out, Nat.gcd_comm v (u % v), ← Nat.gcd_rec, Nat.gcd_comm]
      have hl2 := h2.len
      have HL2 := Lib.hid hl2
      clear hz hv d1 hl2
      go_wp2_with fail
      refine HZ.out.mono ?_
      rintro e w1 ⟨rfl, hw⟩
      obtain rfl : wr = w1 := hw
      go_wp2_with fail
      refine HO.out.mono ?_
      rintro e w2 ⟨A3, n3, c3, A4, n4, c4, rfl, hq3, hr4, hb2⟩
      have hn4 : n4 ≤ n' := by rw [← hr4.len, ← HL2.out]; exact digs_length_mono (Nat.le_of_lt hmod)
      have h2' := h2.later hb2
      generalize u % v = r at *
      go_wp2
      go_roundg r
      case measure => omega
      case rel => exact ⟨A', n', c', A4, n4, c4, v, r, rfl, rfl, h2', hr4, hn', by omega, HG.out, Nat.le_refl _, hbel.trans (hb2.mono hbel.size)⟩

/-- a value that reads as a rational number of package rational -/
def RatD (w : World) (B : Nat) (v : Value) (q : Q) : Prop :=
  ∃ A n c A' n' c', v = .agg #[.bool q.neg, .slice A n c, .slice A' n' c'] ∧ NatD w B A n c q.top ∧ NatD w B A' n' c' q.bot
def RetRatD (w : World) (q : Q) (e : Ending) (w' : World) : Prop := ∃ v, e = .returned v ∧ RatD w' w'.heap.size v q ∧ Below w.heap.size w w'

/-- the block of a result that lies in memory, as it was laid, behind calls -/
def ResBlD (w : World) (g : Nat) (b : Bool) (v1 v2 : Value) : Prop := w.heap[g]? = some (.cells #[.bool b, v1, v2] 153 (0, 0))
theorem ResBlD.new (w : World) (b : Bool) (v1 v2 : Value) : ResBlD (w.alloc (.cells #[.bool b, v1, v2] 153)) w.heap.size b v1 v2 := heap_alloc_new w _
theorem ResBlD.below {w w' : World} {g B : Nat} {b : Bool} {v1 v2 : Value} (h : ResBlD w g b v1 v2) (hb : Below B w w') (hg : g < B) : ResBlD w' g b v1 v2 := (hb.block g hg).trans h
theorem ResBlD.cells {w : World} {g : Nat} {b : Bool} {v1 v2 : Value} (h : ResBlD w g b v1 v2) :
    w.cell? ⟨g, 0, none⟩ = some (.bool b) ∧ w.cell? ⟨g, 1, none⟩ = some v1 ∧ w.cell? ⟨g, 2, none⟩ = some v2 ∧ w.frozen? ⟨g, 0, none⟩ = false ∧ w.frozen? ⟨g, 1, none⟩ = false ∧ w.frozen? ⟨g, 2, none⟩ = false ∧ g < w.heap.size := by
  unfold ResBlD at h
  have hlt : g < w.heap.size := by
    rcases Nat.lt_or_ge g w.heap.size with hlt | hge
    · exact hlt
    · rw [Array.getElem?_eq_none hge] at h; cases h
  exact ⟨by rw [cell_of_row w g 0 _ _ _ h]; rfl, by rw [cell_of_row w g 1 _ _ _ h]; rfl, by rw [cell_of_row w g 2 _ _ _ h]; rfl, by simp [World.frozen?, h], by simp [World.frozen?, h], by simp [World.frozen?, h], hlt⟩
theorem NatD.res {w : World} {B n c x g : Nat} {A A1 A2 : Option Addr} {b : Bool} {n1 c1 n2 c2 : Nat} (h : NatD w B A n c x) (hk : ResBlD w g b (.slice A1 n1 c1) (.slice A2 n2 c2)) (u v y : Value) :
    NatD (((w.setCell ⟨g, 0, none⟩ u).setCell ⟨g, 1, none⟩ v).setCell ⟨g, 2, none⟩ y) B A n c x := by
  obtain ⟨k0, k1, k2, _, _, _, _⟩ := hk.cells
  refine ⟨⟨h.words.1, fun hn => ?_⟩, h.nc, h.cm⟩
  obtain ⟨ad, e, hb, hc⟩ := h.words.2 hn
  refine ⟨ad, e, hb, fun j z hz => ?_⟩
  have hcell := hc j z hz
  have hint : ∃ d : Nat, z = .int .u64 (d : Int) := by
    rw [List.getElem?_map] at hz
    cases hd : (digs x)[j]? with
    | none => rw [hd] at hz; cases hz
    | some d => rw [hd] at hz; injection hz with hz; exact ⟨d, hz.symm⟩
  obtain ⟨d, rfl⟩ := hint
  have n0 : ad.add j ≠ ⟨g, 0, none⟩ := fun e0 => by rw [e0, k0] at hcell; injection hcell with hcell; cases hcell
  have n1' : ad.add j ≠ ⟨g, 1, none⟩ := fun e0 => by rw [e0, k1] at hcell; injection hcell with hcell; cases hcell
  have n2' : ad.add j ≠ ⟨g, 2, none⟩ := fun e0 => by rw [e0, k2] at hcell; injection hcell with hcell; cases hcell
  rw [World.cell?_setCell_other _ _ _ _ n2'.symm, World.cell?_setCell_other _ _ _ _ n1'.symm, World.cell?_setCell_other _ _ _ _ n0.symm]
  exact hcell

/-- what lowest finds is in lowest terms -/
theorem lowQ_pos (neg : Bool) (x y : Nat) (hy : 0 < y) : lowQ neg x y = ⟨neg && !decide (x / Nat.gcd x y = 0), x / Nat.gcd x y, y / Nat.gcd x y⟩ := by
  unfold lowQ
  rw [if_neg (by omega)]
  by_cases hx : x = 0
  · subst hx
    rw [if_pos rfl, Nat.gcd_zero_left, Nat.zero_div, Nat.div_self hy]
    simp
  · rw [if_neg hx]
    have h1 : 0 < x / Nat.gcd x y := Nat.div_pos (Nat.gcd_le_left _ (by omega)) (Nat.gcd_pos_of_pos_right _ hy)
    have h2 : decide (x / Nat.gcd x y = 0) = false := decide_eq_false (Nat.ne_of_gt h1)
    rw [h2]
    simp

set_option maxHeartbeats 2000000 in
set_option maxRecDepth 100000 in
theorem dlowest_any (neg : Bool) (A A' : Option Addr) (n c n' c' x y : Nat) (w : World) (hT : Tabs w) (ha : NatD w w.heap.size A n c x) (hb : NatD w w.heap.size A' n' c' y) (hn : n ≤ 1073741824) (hn' : n' ≤ 1073741824) :
    Calls Tryz.prog 127 #[.bool neg, .slice A n c, .slice A' n' c'] w (RetRatD w (lowQ neg x y)) := by
  have hb0 : Below w.heap.size w (w.alloc (.cells #[.bool false, .slice none 0 0, .slice none 0 0] 153)) := (Below.refl _ _).alloc (Nat.le_refl _) _
  by_cases hy0 : y = 0
  · subst hy0
    have hz := fun W : World => fun h => disZero_val A' n' c' 0 W h
    go_enter Tryz.func127, Tryz.ntmps127
    go_wp2_with fail
    refine (hz _ (hb.later hb0)).mono ?_
    rintro e w1 ⟨rfl, rfl⟩
    go_wp2
    refine bodyPost_ret (v := .agg #[.bool false, .slice none 0 0, .slice none 0 0]) (by simp [results, Tryz.results127, go_sem]) rfl ⟨_, rfl, ⟨none, 0, 0, none, 0, 0, by simp [lowQ], ?_, ?_⟩, ?_⟩
    · simp only [lowQ, if_pos]; exact NatD.zero _ _
    · simp only [lowQ, if_pos]; exact NatD.zero _ _
    · exact hb0
  · have hy : 0 < y := by omega
    have hz := fun W : World => fun h => disZero_val A' n' c' y W h
    have d1 : decide (y = 0) = false := by simpa using hy0
    simp only [d1] at hz
    have hgc := dgcd_any A A' n c n' c' x y _ (ha.later hb0) (hb.later hb0) (by omega) (by omega)
    have HE := Lib.hid (lowQ_pos neg x y hy)
    have hg0 : 0 < Nat.gcd x y := Nat.gcd_pos_of_pos_right _ hy
    have hgl : Nat.gcd x y ≤ y := Nat.gcd_le_right _ hy
    have hgn : (digs (Nat.gcd x y)).length ≤ n' := by rw [← hb.len]; exact digs_length_mono hgl
    generalize Nat.gcd x y = g at *
    clear d1 hy0
    go_enter Tryz.func127, Tryz.ntmps127
    go_wp2_with fail
    refine (hz _ (hb.later hb0)).mono ?_
    rintro e w1 ⟨rfl, rfl⟩
    go_wp2_with fail
    refine hgc.mono ?_
    rintro e w2 ⟨A2, m2, c2, rfl, hn2, hb2⟩
    have hb02 := hb0.trans (hb2.mono hb0.size)
    have hm2 : m2 ≤ n' := by rw [← hn2.len]; exact hgn
    go_wp2_with fail
    refine (dover_any A A2 n c m2 c2 x g _ (ha.later hb02) hn2 hg0 (by omega) (by omega)).mono ?_
    rintro e w4 ⟨A4, m4, c4, _, _, _, rfl, hq4, _, hb4⟩
    have hb04 := hb02.trans (hb4.mono hb02.size)
    go_wp2_with fail
    refine (dover_any A' A2 n' c' m2 c2 y g _ (hb.later hb04) (hn2.later hb4) hg0 (by omega) (by omega)).mono ?_
    rintro e w5 ⟨A5, m5, c5, _, _, _, rfl, hq5, _, hb5⟩
    have hb05 := hb04.trans (hb5.mono hb04.size)
    have hblk := (((ResBlD.new w false (.slice none 0 0) (.slice none 0 0)).below hb2 (by simp)).below hb4 (by have := hb2.size; simp at this; omega)).below hb5 (by have := hb2.size; have := hb4.size; simp at *; omega)
    obtain ⟨k0, k1, k2, f0, f1, f2, hlt⟩ := hblk.cells
    have hq4' := hq4.later hb5
    have hz4 := disZero_val A4 m4 c4 (x / g) w5 hq4'
    obtain ⟨zb, hzb⟩ : ∃ zb, zb = decide (x / g = 0) := ⟨_, rfl⟩
    rw [← hzb] at hz4 HE
    clear hzb hgn
    have hset := three_set hb05 (g := w.heap.size) (Nat.le_refl _) (.bool (neg && !zb)) (.slice A4 m4 c4) (.slice A5 m5 c5)
    cases neg
    · go_wp2
      refine bodyPost_ret (v := .agg #[.bool false, .slice A4 m4 c4, .slice A5 m5 c5]) (by simp [results, Tryz.results127, go_sem, k0, k1, k2]) rfl ⟨_, rfl, ⟨A4, m4, c4, A5, m5, c5, by rw [HE.out]; rfl, ?_, ?_⟩, hset⟩
      · rw [HE.out, size_set3]; exact hq4'.res hblk _ _ _
      · rw [HE.out, size_set3]; exact hq5.res hblk _ _ _
    · have HZ4 := Lib.hid hz4
      clear hz4
      go_wp2_with fail
      refine HZ4.out.mono ?_
      rintro e w6 ⟨rfl, hw6⟩
      obtain rfl : w5 = w6 := hw6
      cases zb
      all_goals
        go_wp2
        refine bodyPost_ret (v := .agg #[.bool _, .slice A4 m4 c4, .slice A5 m5 c5]) (by simp [results, Tryz.results127, go_sem, k0, k1, k2]; first | rfl | done) rfl ⟨_, rfl, ⟨A4, m4, c4, A5, m5, c5, by rw [HE.out]; rfl, ?_, ?_⟩, hset⟩
        · rw [HE.out, size_set3]; exact hq4'.res hblk _ _ _
        · rw [HE.out, size_set3]; exact hq5.res hblk _ _ _

theorem dcompare_q (A A' : Option Addr) (n c n' c' x y : Nat) (w : World) (ha : NatD w w.heap.size A n c x) (hb : NatD w w.heap.size A' n' c' y) (hn : n ≤ 1099511627776) (hn' : n' ≤ 1099511627776) :
    Calls Tryz.prog 154 #[.slice A n c, .slice A' n' c'] w fun e w' => e = .returned (.int .i64 (Bn.ncmp x y)) ∧ ∃ q, w' = w.drewN q :=
  (dcompare_any A A' n c n' c' x y w ha hb hn hn').mono fun e w' ⟨he, hw⟩ => ⟨he, 0, by rw [← hw]; rfl⟩
theorem dminus_nat (A A' : Option Addr) (n c n' c' x y : Nat) (w : World) (ha : NatD w w.heap.size A n c x) (hb : NatD w w.heap.size A' n' c' y) (hyx : y ≤ x) (hn : n ≤ 1099511627776) :
    Calls Tryz.prog 155 #[.slice A n c, .slice A' n' c'] w (RetD w (x - y)) :=
  dminus_any A A' n c n' c' x y w ha hb hyx hn (by have := digs_length_mono hyx; have := ha.len; have := hb.len; omega)
end Go.Proofs.YtboaojkblmddkaaGreatDoor

/- Contracts of package rational's package rational's numbers: times. -/
namespace Go.Proofs.YtboaojkblmddkaaGreatDoor
open Go.RowKit Dn

theorem dtimes_len {A : Option Addr} {n c m k x y : Nat} {w : World} (h : NatD w w.heap.size A n c (x * y)) (hx : (digs x).length ≤ m) (hy : (digs y).length ≤ k) : n ≤ m + k := by
  rw [← h.len]
  refine digs_length_le ?_
  rw [Nat.pow_add]
  have h1 := lt_of_digs_length x
  have h2 := lt_of_digs_length y
  have h3 : B ^ (digs x).length ≤ B ^ m := Nat.pow_le_pow_right B_pos hx
  have h4 : B ^ (digs y).length ≤ B ^ k := Nat.pow_le_pow_right B_pos hy
  exact Nat.mul_lt_mul'' (Nat.lt_of_lt_of_le h1 h3) (Nat.lt_of_lt_of_le h2 h4)

set_option maxHeartbeats 4000000 in
set_option maxRecDepth 100000 in
theorem dratTimes_any (p q : Q) (A1 A2 A3 A4 : Option Addr) (n1 c1 n2 c2 n3 c3 n4 c4 : Nat) (w : World) (hT : Tabs w)
    (h1 : NatD w w.heap.size A1 n1 c1 p.top) (h2 : NatD w w.heap.size A2 n2 c2 p.bot) (h3 : NatD w w.heap.size A3 n3 c3 q.top) (h4 : NatD w w.heap.size A4 n4 c4 q.bot)
    (k1 : n1 ≤ 268435456) (k2 : n2 ≤ 268435456) (k3 : n3 ≤ 268435456) (k4 : n4 ≤ 268435456) :
    Calls Tryz.prog 99 #[.agg #[.bool p.neg, .slice A1 n1 c1, .slice A2 n2 c2], .agg #[.bool q.neg, .slice A3 n3 c3, .slice A4 n4 c4]] w (RetRatD w (lowQ (p.neg != q.neg) (p.top * q.top) (p.bot * q.bot))) := by
  go_enter Tryz.func99, Tryz.ntmps99
  go_wp2_with fail
  have hb3 : Below w.heap.size w (((w.alloc (.cells #[.bool p.neg, .slice A1 n1 c1, .slice A2 n2 c2] 153)).alloc (.cells #[.bool q.neg, .slice A3 n3 c3, .slice A4 n4 c4] 153)).alloc (.cells #[.bool false, .slice none 0 0, .slice none 0 0] 153)) :=
    (((Below.refl _ _).alloc (Nat.le_refl _) _).alloc (by simp) _).alloc (by simp; omega) _
  have hx0 : ResBlD (((w.alloc (.cells #[.bool p.neg, .slice A1 n1 c1, .slice A2 n2 c2] 153)).alloc (.cells #[.bool q.neg, .slice A3 n3 c3, .slice A4 n4 c4] 153)).alloc (.cells #[.bool false, .slice none 0 0, .slice none 0 0] 153)) w.heap.size p.neg (.slice A1 n1 c1) (.slice A2 n2 c2) :=
    (((ResBlD.new w _ _ _).below ((Below.refl _ _).alloc (Nat.le_refl _) _) (by simp))).below ((Below.refl _ _).alloc (Nat.le_refl _) _) (by simp; omega)
  have hx1 : ResBlD (((w.alloc (.cells #[.bool p.neg, .slice A1 n1 c1, .slice A2 n2 c2] 153)).alloc (.cells #[.bool q.neg, .slice A3 n3 c3, .slice A4 n4 c4] 153)).alloc (.cells #[.bool false, .slice none 0 0, .slice none 0 0] 153)) (w.heap.size + 1) q.neg (.slice A3 n3 c3) (.slice A4 n4 c4) := by
    have h := (ResBlD.new (w.alloc (.cells #[.bool p.neg, .slice A1 n1 c1, .slice A2 n2 c2] 153)) q.neg (.slice A3 n3 c3) (.slice A4 n4 c4)).below ((Below.refl _ _).alloc (Nat.le_refl _) (.cells #[.bool false, .slice none 0 0, .slice none 0 0] 153)) (by simp)
    simpa using h
  have hx2 : ResBlD (((w.alloc (.cells #[.bool p.neg, .slice A1 n1 c1, .slice A2 n2 c2] 153)).alloc (.cells #[.bool q.neg, .slice A3 n3 c3, .slice A4 n4 c4] 153)).alloc (.cells #[.bool false, .slice none 0 0, .slice none 0 0] 153)) (w.heap.size + 1 + 1) false (.slice none 0 0) (.slice none 0 0) := by
    have h := ResBlD.new ((w.alloc (.cells #[.bool p.neg, .slice A1 n1 c1, .slice A2 n2 c2] 153)).alloc (.cells #[.bool q.neg, .slice A3 n3 c3, .slice A4 n4 c4] 153)) false (.slice none 0 0) (.slice none 0 0)
    simpa using h
  generalize (((w.alloc (.cells #[.bool p.neg, .slice A1 n1 c1, .slice A2 n2 c2] 153)).alloc (.cells #[.bool q.neg, .slice A3 n3 c3, .slice A4 n4 c4] 153)).alloc (.cells #[.bool false, .slice none 0 0, .slice none 0 0] 153)) = w3 at *
  obtain ⟨a0, a1, a2, _, _, _, al⟩ := hx0.cells
  obtain ⟨b0, b1, b2, _, _, _, bl⟩ := hx1.cells
  have hb3d : Below w.heap.size w w3.drew := hb3.drew
  have ht1 := dtimes_nat A1 A3 n1 c1 n3 c3 p.top q.top w3.drew (h1.later hb3d) (h3.later hb3d) (by omega) (by omega)
  have hx2d : ResBlD w3.drew (w.heap.size + 1 + 1) false (.slice none 0 0) (.slice none 0 0) := hx2
  have cl : w.heap.size + 1 + 1 < w3.drew.heap.size := hx2d.cells.2.2.2.2.2.2
  have HT1 := Lib.hid ht1
  clear ht1
  go_region_held3 (fun w' => w'.cell? ⟨w.heap.size, 0, none⟩ = some (.bool p.neg) ∧ w'.cell? ⟨w.heap.size, 1, none⟩ = some (.slice A1 n1 c1) ∧ w'.cell? ⟨w.heap.size, 2, none⟩ = some (.slice A2 n2 c2) ∧ w'.cell? ⟨w.heap.size + 1, 0, none⟩ = some (.bool q.neg) ∧ w'.cell? ⟨w.heap.size + 1, 1, none⟩ = some (.slice A3 n3 c3) ∧ w'.cell? ⟨w.heap.size + 1, 2, none⟩ = some (.slice A4 n4 c4))
    (first | exact ⟨a0, a1, a2, b0, b1, b2⟩ | exact ⟨((hb5.cell (p := ⟨w.heap.size, 0, none⟩) al).trans a0), ((hb5.cell (p := ⟨w.heap.size, 1, none⟩) al).trans a1), ((hb5.cell (p := ⟨w.heap.size, 2, none⟩) al).trans a2), ((hb5.cell (p := ⟨w.heap.size + 1, 0, none⟩) bl).trans b0), ((hb5.cell (p := ⟨w.heap.size + 1, 1, none⟩) bl).trans b1), ((hb5.cell (p := ⟨w.heap.size + 1, 2, none⟩) bl).trans b2)⟩ | exact ⟨((hb6.cell (p := ⟨w.heap.size, 0, none⟩) (al6)).trans ((hb5.cell (p := ⟨w.heap.size, 0, none⟩) al).trans a0)), ((hb6.cell (p := ⟨w.heap.size, 1, none⟩) (al6)).trans ((hb5.cell (p := ⟨w.heap.size, 1, none⟩) al).trans a1)), ((hb6.cell (p := ⟨w.heap.size, 2, none⟩) (al6)).trans ((hb5.cell (p := ⟨w.heap.size, 2, none⟩) al).trans a2)), ((hb6.cell (p := ⟨w.heap.size + 1, 0, none⟩) (bl6)).trans ((hb5.cell (p := ⟨w.heap.size + 1, 0, none⟩) bl).trans b0)), ((hb6.cell (p := ⟨w.heap.size + 1, 1, none⟩) (bl6)).trans ((hb5.cell (p := ⟨w.heap.size + 1, 1, none⟩) bl).trans b1)), ((hb6.cell (p := ⟨w.heap.size + 1, 2, none⟩) (bl6)).trans ((hb5.cell (p := ⟨w.heap.size + 1, 2, none⟩) bl).trans b2))⟩ | exact ⟨((hb7.cell (p := ⟨w.heap.size, 0, none⟩) (al7)).trans ((hb6.cell (p := ⟨w.heap.size, 0, none⟩) (al6)).trans ((hb5.cell (p := ⟨w.heap.size, 0, none⟩) al).trans a0))), ((hb7.cell (p := ⟨w.heap.size, 1, none⟩) (al7)).trans ((hb6.cell (p := ⟨w.heap.size, 1, none⟩) (al6)).trans ((hb5.cell (p := ⟨w.heap.size, 1, none⟩) al).trans a1))), ((hb7.cell (p := ⟨w.heap.size, 2, none⟩) (al7)).trans ((hb6.cell (p := ⟨w.heap.size, 2, none⟩) (al6)).trans ((hb5.cell (p := ⟨w.heap.size, 2, none⟩) al).trans a2))), ((hb7.cell (p := ⟨w.heap.size + 1, 0, none⟩) (bl7)).trans ((hb6.cell (p := ⟨w.heap.size + 1, 0, none⟩) (bl6)).trans ((hb5.cell (p := ⟨w.heap.size + 1, 0, none⟩) bl).trans b0))), ((hb7.cell (p := ⟨w.heap.size + 1, 1, none⟩) (bl7)).trans ((hb6.cell (p := ⟨w.heap.size + 1, 1, none⟩) (bl6)).trans ((hb5.cell (p := ⟨w.heap.size + 1, 1, none⟩) bl).trans b1))), ((hb7.cell (p := ⟨w.heap.size + 1, 2, none⟩) (bl7)).trans ((hb6.cell (p := ⟨w.heap.size + 1, 2, none⟩) (bl6)).trans ((hb5.cell (p := ⟨w.heap.size + 1, 2, none⟩) bl).trans b2)))⟩ | exact ⟨((far3 _ _ _ _ (by dsimp only; omega)).trans ((hb7.cell (p := ⟨w.heap.size, 0, none⟩) (al7)).trans ((hb6.cell (p := ⟨w.heap.size, 0, none⟩) (al6)).trans ((hb5.cell (p := ⟨w.heap.size, 0, none⟩) al).trans a0)))), ((far3 _ _ _ _ (by dsimp only; omega)).trans ((hb7.cell (p := ⟨w.heap.size, 1, none⟩) (al7)).trans ((hb6.cell (p := ⟨w.heap.size, 1, none⟩) (al6)).trans ((hb5.cell (p := ⟨w.heap.size, 1, none⟩) al).trans a1)))), ((far3 _ _ _ _ (by dsimp only; omega)).trans ((hb7.cell (p := ⟨w.heap.size, 2, none⟩) (al7)).trans ((hb6.cell (p := ⟨w.heap.size, 2, none⟩) (al6)).trans ((hb5.cell (p := ⟨w.heap.size, 2, none⟩) al).trans a2)))), ((far3 _ _ _ _ (by dsimp only; omega)).trans ((hb7.cell (p := ⟨w.heap.size + 1, 0, none⟩) (bl7)).trans ((hb6.cell (p := ⟨w.heap.size + 1, 0, none⟩) (bl6)).trans ((hb5.cell (p := ⟨w.heap.size + 1, 0, none⟩) bl).trans b0)))), ((far3 _ _ _ _ (by dsimp only; omega)).trans ((hb7.cell (p := ⟨w.heap.size + 1, 1, none⟩) (bl7)).trans ((hb6.cell (p := ⟨w.heap.size + 1, 1, none⟩) (bl6)).trans ((hb5.cell (p := ⟨w.heap.size + 1, 1, none⟩) bl).trans b1)))), ((far3 _ _ _ _ (by dsimp only; omega)).trans ((hb7.cell (p := ⟨w.heap.size + 1, 2, none⟩) (bl7)).trans ((hb6.cell (p := ⟨w.heap.size + 1, 2, none⟩) (bl6)).trans ((hb5.cell (p := ⟨w.heap.size + 1, 2, none⟩) bl).trans b2))))⟩)
    (first
      | (go_at_call_of 128 (Value.slice A1 n1 c1); refine (HT1.out).mono ?_; rintro e w4 ⟨A5, m5, c5, rfl, hn5, hb5⟩; have al6 := Nat.lt_of_lt_of_le al hb5.size; have bl6 := Nat.lt_of_lt_of_le bl hb5.size)
      | (go_at_call_of 128 (Value.slice A2 n2 c2); refine (dtimes_nat A2 A4 n2 c2 n4 c4 p.bot q.bot w4 ((h2.later hb3d).later hb5) ((h4.later hb3d).later hb5) (by omega) (by omega)).mono ?_; rintro e w6 ⟨A6, m6, c6, rfl, hn6, hb6⟩; have al7 := Nat.lt_of_lt_of_le al6 hb6.size; have bl7 := Nat.lt_of_lt_of_le bl6 hb6.size)
      | (go_at_call 127; refine (dlowest_any _ A5 A6 m5 c5 m6 c6 _ _ w6 (((hT.later hb3d).later hb5).later hb6) (hn5.later hb6) hn6 (by have := dtimes_len hn5 (Nat.le_of_eq h1.len) (Nat.le_of_eq h3.len); omega) (by have := dtimes_len hn6 (Nat.le_of_eq h2.len) (Nat.le_of_eq h4.len); omega)).mono ?_; rintro e w7 ⟨v, rfl, ⟨A7, m7, c7, A8, m8, c8, rfl, h7, h8⟩, hb7⟩; have hk7 := ((hx2d.below hb5 cl).below hb6 (Nat.lt_of_lt_of_le cl hb5.size)).below hb7 (Nat.lt_of_lt_of_le (Nat.lt_of_lt_of_le cl hb5.size) hb6.size); obtain ⟨e0, e1, e2, g0, g1, g2, gl⟩ := hk7.cells))
  go_wp2_with fail
  have hb7all : Below w.heap.size w w7 := by
    have s5 := hb3d.size
    have s6 := hb5.size
    have s7 := hb6.size
    exact ((hb3d.trans (hb5.mono s5)).trans (hb6.mono (by omega))).trans (hb7.mono (by omega))
  have hset := three_set hb7all (g := w.heap.size + 1 + 1) (by omega) (.bool (lowQ (!p.neg == q.neg) (p.top * q.top) (p.bot * q.bot)).neg) (.slice A7 m7 c7) (.slice A8 m8 c8)
  have hne : (!p.neg == q.neg) = (p.neg != q.neg) := by cases p.neg <;> cases q.neg <;> rfl
  refine bodyPost_ret (v := .agg #[.bool (lowQ (!p.neg == q.neg) (p.top * q.top) (p.bot * q.bot)).neg, .slice A7 m7 c7, .slice A8 m8 c8]) (by simp [results, Tryz.results99, go_sem, e0, e1, e2]) rfl ⟨_, rfl, ⟨A7, m7, c7, A8, m8, c8, by rw [hne], ?_, ?_⟩, hset⟩
  · rw [size_set3, ← hne]; exact h7.res hk7 _ _ _
  · rw [size_set3, ← hne]; exact h8.res hk7 _ _ _

end Go.Proofs.YtboaojkblmddkaaGreatDoor

/- Contract of plus of rational numbers. -/
namespace Go.Proofs.YtboaojkblmddkaaGreatDoor
open Go.RowKit Bn

/-- the sum as the program finds it -/
def plusQ (p q : Q) : Q :=
  if p.neg = q.neg then lowQ p.neg (p.top * q.bot + q.top * p.bot) (p.bot * q.bot)
  else if p.top * q.bot < q.top * p.bot then lowQ q.neg (q.top * p.bot - p.top * q.bot) (p.bot * q.bot)
  else lowQ p.neg (p.top * q.bot - q.top * p.bot) (p.bot * q.bot)

theorem len_plus {a b x y : Nat} (hx : (digs x).length ≤ a) (hy : (digs y).length ≤ b) : (digs (x + y)).length ≤ a + b + 1 := by
  refine digs_length_le ?_
  have h1 := lt_of_digs_length x
  have h2 := lt_of_digs_length y
  have h3 : B ^ (digs x).length ≤ B ^ (a + b) := Nat.pow_le_pow_right B_pos (by omega)
  have h4 : B ^ (digs y).length ≤ B ^ (a + b) := Nat.pow_le_pow_right B_pos (by omega)
  rw [Nat.pow_succ]
  have h5 : B ^ (a + b) * 2 ≤ B ^ (a + b) * B := Nat.mul_le_mul_left _ (by rw [B_def]; omega)
  omega
theorem len_minus (x y : Nat) : (digs (x - y)).length ≤ (digs x).length := digs_length_mono (Nat.sub_le _ _)
theorem len_times {a b x y : Nat} (hx : (digs x).length ≤ a) (hy : (digs y).length ≤ b) : (digs (x * y)).length ≤ a + b := by
  refine digs_length_le ?_
  rw [Nat.pow_add]
  have h3 : B ^ (digs x).length ≤ B ^ a := Nat.pow_le_pow_right B_pos hx
  have h4 : B ^ (digs y).length ≤ B ^ b := Nat.pow_le_pow_right B_pos hy
  exact Nat.mul_lt_mul'' (Nat.lt_of_lt_of_le (lt_of_digs_length x) h3) (Nat.lt_of_lt_of_le (lt_of_digs_length y) h4)

end Go.Proofs.YtboaojkblmddkaaGreatDoor
