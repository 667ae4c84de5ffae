/- The nearest single of a rational number: the bounds. -/
import Derived.Test.YtboaojkblmddkaaGreatDoorCFlt
import Derived.Test.YtboaojkblmddkaaGreatDoorCPr4
import Derived.Test.YtboaojkblmddkaaGreatDoorCLdx2
import Derived.Test.YtboaojkblmddkaaGreatDoorCRat4
import Derived.Test.YtboaojkblmddkaaGreatDoorCShelf
import Derived.Deep.RegionHeld3
import Derived.Test.YtboaojkblmddkaaGreatDoorCNat1
import Derived.Deep.LoopGhost
import Derived.Shelf.SlSorted.Search
namespace Go.Proofs.YtboaojkblmddkaaGreatDoor
open Go.RowKit Bn

/-- t and b, divided by 2^e, times powers of two whose exponents differ by e -/
theorem sc_cmp (t b m : Nat) (e : Int) (a c : Nat) (h : (a : Int) - c = -e) : scB b e * m ≤ scT t e ↔ b * 2 ^ c * m ≤ t * 2 ^ a := by
  unfold scB scT
  by_cases he : e < 0
  · rw [if_pos he, if_pos he]
    have : a = (-e).toNat + c := by omega
    subst this
    generalize (-e).toNat = s
    rw [Nat.pow_add, ← Nat.mul_assoc, Nat.mul_right_comm, Nat.mul_le_mul_right_iff (Nat.two_pow_pos _)]
  · rw [if_neg he, if_neg he]
    have : c = e.toNat + a := by omega
    subst this
    generalize e.toNat = s
    rw [Nat.pow_add, ← Nat.mul_assoc, Nat.mul_right_comm _ (2 ^ a), Nat.mul_le_mul_right_iff (Nat.two_pow_pos _)]

theorem sc_lt (t b m : Nat) (e : Int) (a c : Nat) (h : (a : Int) - c = -e) : scT t e < scB b e * m ↔ t * 2 ^ a < b * 2 ^ c * m := by
  have := sc_cmp t b m e a c h
  omega

theorem scB_pos {b : Nat} (hb : 0 < b) (e : Int) : 0 < scB b e := by
  unfold scB; split
  · exact hb
  · exact Nat.mul_pos hb (Nat.two_pow_pos _)

theorem bexp_spec {t b : Nat} (ht : 0 < t) (hb : 0 < b) (a c : Nat) (h : (a : Int) - c = -(bexp t b)) : b * 2 ^ c ≤ t * 2 ^ a ∧ t * 2 ^ a < b * 2 ^ c * 2 := by
  have t1 := nbits_le ht
  have t2 := lt_nbits t
  have b1 := nbits_le hb
  have b2 := lt_nbits b
  have tp := nbits_pos ht
  have bp := nbits_pos hb
  generalize hnt : nbits t = nt at *
  generalize hnb : nbits b = nb at *
  unfold bexp at h
  rw [hnt, hnb] at h
  have low : ∀ a c : Nat, (a : Int) - c = -((nt : Int) - nb - 1) → b * 2 ^ c ≤ t * 2 ^ a := by
    intro a c hac
    have h1 : b * 2 ^ c ≤ 2 ^ (nb + c) := by rw [Nat.pow_add]; exact Nat.mul_le_mul_right _ (Nat.le_of_lt b2)
    have h2 : 2 ^ (nt - 1 + a) ≤ t * 2 ^ a := by rw [Nat.pow_add]; exact Nat.mul_le_mul_right _ t1
    have h3 : nb + c = nt - 1 + a := by omega
    rw [h3] at h1
    exact Nat.le_trans h1 h2
  have high : ∀ a c : Nat, (a : Int) - c = -((nt : Int) - nb) → t * 2 ^ a < b * 2 ^ c * 2 := by
    intro a c hac
    have h1 : t * 2 ^ a < 2 ^ (nt + a) := by rw [Nat.pow_add]; exact Nat.mul_lt_mul_of_pos_right t2 (Nat.two_pow_pos _)
    have h2 : 2 ^ (nb - 1 + (c + 1)) ≤ b * 2 ^ (c + 1) := by rw [Nat.pow_add]; exact Nat.mul_le_mul_right _ b1
    have h3 : nt + a = nb - 1 + (c + 1) := by omega
    rw [h3] at h1
    rw [Nat.pow_succ, ← Nat.mul_assoc] at h2
    exact Nat.lt_of_lt_of_le h1 h2
  split at h
  · rename_i hlt
    have hlt' : scT t ((nt : Int) - nb) < scB b ((nt : Int) - nb) * 1 := by rw [Nat.mul_one]; exact hlt
    have h4 := (sc_lt t b 1 ((nt : Int) - nb) a (c + 1) (by omega)).1 hlt'
    rw [Nat.mul_one, Nat.pow_succ, ← Nat.mul_assoc] at h4
    exact ⟨low a c (by omega), h4⟩
  · rename_i hlt
    have hle : scB b ((nt : Int) - nb) * 1 ≤ scT t ((nt : Int) - nb) := by omega
    have h4 := (sc_cmp t b 1 ((nt : Int) - nb) a c (by omega)).1 hle
    rw [Nat.mul_one] at h4
    exact ⟨h4, high a c (by omega)⟩

/-- the place of the last digit of the nearest single, and how many units of it -/
def flE (t b : Nat) : Int := max (bexp t b + 1 - 24) (-149)
def flN (t b : Nat) : Nat := near (scT t (flE t b)) (scB b (flE t b))

theorem near_bounds {t b lo hi : Nat} (hb : 0 < b) (h1 : b * lo ≤ t) (h2 : t < b * hi) : lo ≤ near t b ∧ near t b ≤ hi := by
  have q1 : lo ≤ t / b := (Nat.le_div_iff_mul_le hb).2 (by rw [Nat.mul_comm]; exact h1)
  have q2 : t / b < hi := (Nat.div_lt_iff_lt_mul hb).2 (by rw [Nat.mul_comm]; exact h2)
  unfold near
  split <;> omega

theorem flN_rnd {t b : Nat} (ht : 0 < t) (hb : 0 < b) : Flt.Rnd (flN t b) (flE t b) ∧ scT t (flE t b) / scB b (flE t b) < 16777216 := by
  have e24 : (2 : Nat) ^ 24 = 16777216 := by decide
  have e23 : (2 : Nat) ^ 23 = 8388608 := by decide
  have hs := @bexp_spec t b ht hb
  have hB := scB_pos hb (flE t b)
  have hle : flE t b = -149 ∨ flE t b = bexp t b - 23 := by unfold flE; omega
  have hge : bexp t b - 23 ≤ flE t b := by unfold flE; omega
  have hpl : -149 ≤ flE t b := by unfold flE; omega
  unfold flN
  generalize flE t b = e at *
  generalize bexp t b = k at *
  obtain ⟨c, hc⟩ : ∃ c : Nat, 0 ≤ (c : Int) - e := ⟨e.toNat, by omega⟩
  obtain ⟨a, ha⟩ : ∃ a : Nat, (a : Int) = c - e := ⟨((c : Int) - e).toNat, by omega⟩
  have hhi : scT t e < scB b e * 16777216 := by
    rw [sc_lt t b _ e a c (by omega)]
    obtain ⟨d, hd⟩ : ∃ d : Nat, (d : Int) = e - (k - 23) := ⟨(e - (k - 23)).toNat, by omega⟩
    have h1 := (hs (a + d) (c + 23) (by omega)).2
    have h2 : t * 2 ^ a ≤ t * 2 ^ (a + d) := Nat.mul_le_mul_left _ (Nat.pow_le_pow_right (by omega) (by omega))
    have h3 : b * 2 ^ (c + 23) * 2 = b * 2 ^ c * 16777216 := by
      rw [Nat.mul_assoc, ← Nat.pow_succ, show (c + 23).succ = c + 24 from rfl, Nat.pow_add, e24, Nat.mul_assoc]
    omega
  have hq : scT t e / scB b e < 16777216 := (Nat.div_lt_iff_lt_mul hB).2 (by rw [Nat.mul_comm]; exact hhi)
  have hn := near_bounds (lo := 0) hB (by omega) hhi
  refine ⟨⟨hpl, hn.2, ?_⟩, hq⟩
  rcases hle with h | h
  · exact Or.inl h
  · refine Or.inr ?_
    have hlo : scB b e * 8388608 ≤ scT t e := by
      rw [sc_cmp t b _ e a c (by omega), ← e23, Nat.mul_assoc, ← Nat.pow_add]
      exact (hs a (c + 23) (by omega)).1
    exact (near_bounds hB hlo hhi).1

theorem bexp_bound {t b N : Nat} (h1 : nbits t ≤ N) (h2 : nbits b ≤ N) : -(N : Int) - 1 ≤ bexp t b ∧ bexp t b ≤ N := by
  unfold bexp; split <;> omega

/-- what Float returns: the word and the error -/
def flW (q : Q) : Nat := if q.top = 0 then 0 else if flN q.top q.bot = 0 then 0 else if 2139095040 ≤ Flt.rung (flN q.top q.bot) (flE q.top q.bot) then 0 else Ieee.single.word q.neg (Flt.rung (flN q.top q.bot) (flE q.top q.bot))
def flX (q : Q) : Int := if q.top = 0 then 0 else if flN q.top q.bot = 0 then 0 else if 2139095040 ≤ Flt.rung (flN q.top q.bot) (flE q.top q.bot) then 4 else 0

end Go.Proofs.YtboaojkblmddkaaGreatDoor

/- The contract of Float. -/
namespace Go.Proofs.YtboaojkblmddkaaGreatDoor
open Go.RowKit Bn
open Flt

theorem one_is : dn 1 0 = 4607182418800017408 := by decide +kernel
theorem end_call (W : World) : Calls Tryz.prog 116 #[.float .f64 4607182418800017408, .int .i64 128] W fun e' w' => e' = .returned (.float .f64 (dn 1 128)) ∧ W = w' := by
  rw [← one_is]
  have b1 : (1 : Nat).log2 = 0 := by decide
  exact Ldexp_any W (ldexp_dn W (by omega) (by omega) (by rw [b1]; omega) (by rw [b1]; omega))

theorem inf_read : Ieee.double.read 9218868437227405312 = .infinity false := by decide +kernel
theorem inf_ge {x m : Nat} {p : Int} (h : Ieee.double.read x = .number false m p) : (FloatKind.f64.format.order 9218868437227405312 x == some .gt || FloatKind.f64.format.order 9218868437227405312 x == some .eq) = true := by
  have : FloatKind.f64.format.order 9218868437227405312 x = some .gt := by
    show (Ieee.double.read 9218868437227405312).order (Ieee.double.read x) = _
    rw [inf_read, h]; rfl
  rw [this]; rfl

theorem fl_ways {n : Nat} {e : Int} (h : Rnd n e) (h0 : 0 < n) (he : e ≤ 1099511627776) :
    ∃ r : Nat, (∀ W : World, Calls Tryz.prog 116 #[.float .f64 (dn n 0), .int .i64 e] W fun e' w' => e' = .returned (.float .f64 r) ∧ W = w') ∧
      (FloatKind.f64.format.order r (dn 1 128) == some .gt || FloatKind.f64.format.order r (dn 1 128) == some .eq) = decide (2139095040 ≤ rung n e) ∧
      (rung n e < 2139095040 → r = dn n e ∧ Nrm (sg n) (e + n.log2 - 52)) := by
  have hp := h.place
  have hh := h.hi
  have hl := h.log2 h0
  by_cases hc : e + n.log2 ≤ 1023
  · exact ⟨dn n e, fun W => Ldexp_any W (ldexp_dn W h0 (by omega) (by omega) hc), ge_end h h0 hc rfl, fun _ => ⟨rfl, sg_nrm h0 (by omega) (by omega) hc⟩⟩
  · have hr : 2139095040 ≤ rung n e := by unfold rung; omega
    refine ⟨9218868437227405312, fun W => Ldexp_any W (ldexp_big W h0 (by omega) (by omega) (by omega)), ?_, fun hx => absurd hr (by omega)⟩
    have b1 : (1 : Nat).log2 = 0 := by decide
    rw [inf_ge (read_dn (n := 1) (e := 128) (by omega) (by omega) (by rw [b1]; omega) (by rw [b1]; omega)), decide_eq_true hr]

set_option maxHeartbeats 2000000 in
set_option maxRecDepth 100000 in
theorem Float_bad (s : ByteArray) (w : World) (hT : Tabs w) (hs : s.size ≤ 4294967296) (hx : readE s.data.toList ≠ 0) :
    Calls Tryz.prog 143 #[.string s] w fun e w' => e = .returned (.tuple #[.float .f32 0, .int .i64 (readE s.data.toList)]) ∧ Below w.heap.size w w' := by
  have hr := read_any s w hT hs
  generalize readE s.data.toList = x at hr hx ⊢
  generalize readQ s.data.toList = q at hr
  have hxb : (x != 0) = true := by simpa using hx
  go_enter Tryz.func143, Tryz.ntmps143
  go_wp2_with fail
  refine hr.mono ?_
  rintro e w1 ⟨v, rfl, ⟨A, n, c, A', n', c', rfl, h1, h2⟩, hb⟩
  go_wp2
  go_ret2
  exact ⟨rfl, hb.alloc hb.size _⟩

set_option maxHeartbeats 2000000 in
set_option maxRecDepth 100000 in
theorem Float_zero (s : ByteArray) (w : World) (hT : Tabs w) (hs : s.size ≤ 4294967296) (hx : readE s.data.toList = 0) (hz : (readQ s.data.toList).top = 0) :
    Calls Tryz.prog 143 #[.string s] w fun e w' => e = .returned (.tuple #[.float .f32 0, .int .i64 0]) ∧ Below w.heap.size w w' := by
  have hr := read_any s w hT hs
  rw [hx] at hr
  generalize readQ s.data.toList = q at hr hz
  go_enter Tryz.func143, Tryz.ntmps143
  go_wp2_with fail
  refine hr.mono ?_
  rintro e w1 ⟨v, rfl, ⟨A, n, c, A', n', c', rfl, h1, h2⟩, hb⟩
  have hb2 : Below w1.heap.size w1 (w1.alloc (.cells #[.bool q.neg, .slice A n c, .slice A' n' c'] 176)) := (Below.refl _ _).alloc (Nat.le_refl _) _
  have hiz := ratIsZero_any q.neg q.top A A' n c n' c' _ (h1.later hb2)
  rw [decide_eq_true hz] at hiz
  have HIZ := Lib.hid hiz
  clear hiz hr
  go_wp2_with fail
  refine HIZ.out.mono ?_
  rintro e w3 ⟨rfl, hb3⟩
  go_wp2
  go_ret2
  exact ⟨rfl, (hb.trans (hb2.mono hb.size)).trans (hb3.mono (by have := hb.size; simp; omega))⟩

set_option maxHeartbeats 4000000 in
set_option maxRecDepth 100000 in
theorem Float_walk (s : ByteArray) (w : World) (X r r2 R E : Nat) (g : Bool) (hT : Tabs w) (hs : s.size ≤ 4294967296) (hx : readE s.data.toList = 0) (hz : 0 < (readQ s.data.toList).top)
    (hX : floatOfInt .f64 ((flN (readQ s.data.toList).top (readQ s.data.toList).bot : Nat) : Int) = X)
    (hL : ∀ W : World, Calls Tryz.prog 116 #[.float .f64 X, .int .i64 (flE (readQ s.data.toList).top (readQ s.data.toList).bot)] W fun e' w' => e' = .returned (.float .f64 r) ∧ W = w')
    (hE : ∀ W : World, Calls Tryz.prog 116 #[.float .f64 4607182418800017408, .int .i64 128] W fun e' w' => e' = .returned (.float .f64 E) ∧ W = w')
    (hG : (FloatKind.f64.format.order r E == some .gt || FloatKind.f64.format.order r E == some .eq) = g)
    (hN : g = false → (readQ s.data.toList).neg = true → floatBits .sub .f64 0 r = some r2)
    (hR : g = false → floatToFloatBits .f64 (if (readQ s.data.toList).neg then r2 else r) .f32 = some R) :
    Calls Tryz.prog 143 #[.string s] w fun e w' => e = .returned (.tuple #[.float .f32 (if g then 0 else R), .int .i64 (if g then 4 else 0)]) ∧ Below w.heap.size w w' := by
  have hr := read_any s w hT hs
  have hl := @readQ_len s.data.toList hx
  have hbot := @readQ_bot s.data.toList hx
  rw [hx] at hr
  generalize readQ s.data.toList = q at hr hz hX hL hN hR hl hbot
  obtain ⟨hrnd, hq⟩ := flN_rnd hz hbot
  have nb := bexp_bound (nbits_bound hl.1) (nbits_bound hl.2)
  have hE1 : flE q.top q.bot ≤ 1073741824 := by unfold flE; omega
  have hE2 : -1073741824 ≤ flE q.top q.bot := by unfold flE; omega
  have hsp := scB_pos hbot (flE q.top q.bot)
  have w1 : wrap64 (bexp q.top q.bot + 1) = bexp q.top q.bot + 1 := IntWalk.wrap64_in _ (by omega)
  have w2 : wrap64 (bexp q.top q.bot + 1 - 24) = bexp q.top q.bot + 1 - 24 := IntWalk.wrap64_in _ (by omega)
  have hmx : max (bexp q.top q.bot + 1 - 24) (-149) = flE q.top q.bot := rfl
  obtain ⟨l1, l2⟩ := hl
  have HZ := Lib.hid hz
  have HL := Lib.hid hL
  have HE := Lib.hid hE
  have HN := Lib.hid hN
  have HR := Lib.hid hR
  have HG := Lib.hid hG
  clear hz hL hE hN hR hG
  go_enter Tryz.func143, Tryz.ntmps143
  go_wp2_with fail
  refine hr.mono ?_
  rintro e w1 ⟨v, rfl, ⟨A, n, c, A', n', c', rfl, h1, h2⟩, hb⟩
  rw [h1.len] at l1
  rw [h2.len] at l2
  have hb2 : Below w1.heap.size w1 (w1.alloc (.cells #[.bool q.neg, .slice A n c, .slice A' n' c'] 176)) := (Below.refl _ _).alloc (Nat.le_refl _) _
  have hiz := ratIsZero_any q.neg q.top A A' n c n' c' _ (h1.later hb2)
  rw [decide_eq_false (show ¬ q.top = 0 by have := HZ.out; omega)] at hiz
  have HIZ := Lib.hid hiz
  clear hiz hr
  go_wp2_with fail
  refine HIZ.out.mono ?_
  rintro e w3 ⟨rfl, hb3⟩
  clear HIZ
  have hx3 : ResBlk w3 w1.heap.size q.neg (.slice A n c) (.slice A' n' c') := (ResBlk.new w1 _ _ _).below hb3 (by simp)
  have hB3 : Below w.heap.size w w3 := (hb.trans (hb2.mono hb.size)).trans (hb3.mono (by have := hb.size; simp; omega))
  have hs3 : w1.heap.size < w3.heap.size := by have := hb3.size; simp at this; omega
  have g1 := (h1.later hb2).later hb3
  have g2 := (h2.later hb2).later hb3
  have hbe := binaryExponent_any q.neg q.top q.bot A A' n c n' c' w3 g1 g2 (by omega) (by omega)
  obtain ⟨x0, x1, x2, _, _, _, xl⟩ := hx3.cells
  have HBE := Lib.hid hbe
  clear hbe
  go_wp2_with fail
  refine HBE.out.mono ?_
  rintro e w4 ⟨rfl, hb4⟩
  clear HBE x0 x1 x2 xl
  have hx4 := hx3.below hb4 hs3
  have hs4 : w1.heap.size < w4.heap.size := by have := hb4.size; omega
  have hro := rounded_any q.neg q.top q.bot (flE q.top q.bot) A A' n c n' c' w4 (g1.later hb4) (g2.later hb4) (by omega) (by omega) ⟨hE2, hE1⟩ hsp (by omega)
  have hfn : near (scT q.top (flE q.top q.bot)) (scB q.bot (flE q.top q.bot)) = flN q.top q.bot := rfl
  rw [hfn] at hro
  obtain ⟨x0, x1, x2, _, _, _, xl⟩ := hx4.cells
  have HRO := Lib.hid hro
  clear hro
  go_wp2_with fail
  refine HRO.out.mono ?_
  rintro e w5 ⟨rfl, hb5⟩
  clear HRO x0 x1 x2 xl
  have hx5 := hx4.below hb5 hs4
  obtain ⟨x0, x1, x2, _, _, _, xl⟩ := hx5.cells
  have hB5 : Below w.heap.size w w5 := (hB3.trans (hb4.mono hB3.size)).trans (hb5.mono (by have := hB3.size; have := hb4.size; omega))
  generalize flN q.top q.bot = N at *
  generalize flE q.top q.bot = e at *
  go_wp2_with fail
  refine (HL.out _).mono ?_
  rintro e6 w6 ⟨rfl, rfl⟩
  go_wp2_with fail
  refine (HE.out _).mono ?_
  rintro e7 w7 ⟨rfl, rfl⟩
  have hG := HG.out
  cases hg : g
  · subst hg
    have hR := HR.out rfl
    cases hn : q.neg
    · rw [hn, if_neg (by decide)] at hR
      rw [hn] at x0
      have hcv := fun W : World => run_convert_float_float (P := Tryz.prog) W 172 23 .f64 .f32 r R (by kernel_rfl) (by kernel_rfl) hR
      go_wp2
      go_ret2
      exact ⟨rfl, hB5⟩
    · have hN := HN.out rfl hn
      rw [hn, if_pos rfl] at hR
      rw [hn] at x0
      have hsb := fun W : World => run_float_arith (P := Tryz.prog) W .sub 172 .f64 0 r r2 hN
      have hcv := fun W : World => run_convert_float_float (P := Tryz.prog) W 172 23 .f64 .f32 r2 R (by kernel_rfl) (by kernel_rfl) hR
      go_wp2
      go_ret2
      exact ⟨rfl, hB5⟩
  · subst hg
    go_wp2
    go_ret2
    exact ⟨rfl, hB5⟩

theorem ofInt_zero : floatOfInt .f64 ((0 : Nat) : Int) = 0 := by decide +kernel
theorem zero_lt_end : (FloatKind.f64.format.order 0 (dn 1 128) == some .gt || FloatKind.f64.format.order 0 (dn 1 128) == some .eq) = false := by
  have b1 : (1 : Nat).log2 = 0 := by decide
  have f2 := fin_one (e := 128) (by omega) (by omega)
  have k2 := key_one (e := 128) (u := 1178) (by omega) (by omega) (by omega)
  have f4 := fin_of_read zero_read
  have k4 := key_of_read zero_read
  rw [Nat.zero_mul] at k4
  show (Ieee.double.order _ _ == some .gt || Ieee.double.order _ _ == some .eq) = false
  rw [order_fin f4 f2, k4, k2]
  have := Nat.two_pow_pos (24 + 1178)
  generalize 2 ^ (24 + 1178) = A at this
  rw [cmp_lt (by omega)]; rfl
theorem cast_zero : floatToFloatBits .f64 0 .f32 = some 0 := by decide +kernel

/-- Float: the word and the error, for any string -/
theorem Float_any (s : ByteArray) (w : World) (hT : Tabs w) (hs : s.size ≤ 4294967296) :
    Calls Tryz.prog 143 #[.string s] w fun e w' =>
      e = .returned (.tuple #[.float .f32 (if readE s.data.toList ≠ 0 then 0 else flW (readQ s.data.toList)), .int .i64 (if readE s.data.toList ≠ 0 then readE s.data.toList else flX (readQ s.data.toList))]) ∧ Below w.heap.size w w' := by
  by_cases hx : readE s.data.toList = 0
  · rw [if_neg (by simpa using hx), if_neg (by simpa using hx)]
    by_cases hz : (readQ s.data.toList).top = 0
    · have := Float_zero s w hT hs hx hz
      unfold flW flX
      rw [if_pos hz, if_pos hz]
      exact this
    · have hz' : 0 < (readQ s.data.toList).top := by omega
      obtain ⟨hrnd, hq⟩ := flN_rnd hz' (readQ_bot hx)
      have hl := readQ_len hx
      have nb := bexp_bound (nbits_bound hl.1) (nbits_bound hl.2)
      have hE1 : flE (readQ s.data.toList).top (readQ s.data.toList).bot ≤ 1073741824 := by unfold flE; omega
      unfold flW flX
      rw [if_neg hz, if_neg hz]
      by_cases hN : flN (readQ s.data.toList).top (readQ s.data.toList).bot = 0
      · rw [if_pos hN, if_pos hN]
        exact Float_walk s w 0 0 0 0 (dn 1 128) false hT hs hx hz' (by rw [hN]; exact ofInt_zero) (fun W => Ldexp_any W (ldexp_zero W)) end_call zero_lt_end (fun _ _ => zero_sub_zero) (fun _ => by rw [ite_self]; exact cast_zero)
      · rw [if_neg hN, if_neg hN]
        have h0 : 0 < flN (readQ s.data.toList).top (readQ s.data.toList).bot := by omega
        obtain ⟨r, hL, hG, hD⟩ := fl_ways hrnd h0 (by omega)
        have hX := ofInt_dn (n := flN (readQ s.data.toList).top (readQ s.data.toList).bot) h0 (by have := hrnd.hi; omega)
        by_cases hR : 2139095040 ≤ rung (flN (readQ s.data.toList).top (readQ s.data.toList).bot) (flE (readQ s.data.toList).top (readQ s.data.toList).bot)
        · rw [if_pos hR, if_pos hR]
          rw [decide_eq_true hR] at hG
          exact Float_walk s w _ r 0 0 (dn 1 128) true hT hs hx hz' hX hL end_call hG (fun h => by cases h) (fun h => by cases h)
        · rw [if_neg hR, if_neg hR]
          rw [decide_eq_false hR] at hG
          obtain ⟨hr, hn⟩ := hD (by omega)
          refine Float_walk s w _ r (dw true (sg (flN (readQ s.data.toList).top (readQ s.data.toList).bot)) (flE (readQ s.data.toList).top (readQ s.data.toList).bot + (flN (readQ s.data.toList).top (readQ s.data.toList).bot).log2 - 52)) _ (dn 1 128) false hT hs hx hz' hX hL end_call hG (fun _ _ => ?_) (fun _ => ?_)
          · rw [hr]; exact zero_sub hn
          · rw [hr]
            have hc := fun b => cast_dw b hrnd h0 (by omega)
            cases (readQ s.data.toList).neg
            · exact hc false
            · exact hc true
  · rw [if_pos (by simpa using hx), if_pos (by simpa using hx)]
    exact Float_bad s w hT hs hx

end Go.Proofs.YtboaojkblmddkaaGreatDoor

/- Contract of package probe's nearestFloat. -/
namespace Go.Proofs.YtboaojkblmddkaaGreatDoor
open Go.RowKit Bn
open Flt

theorem inf_neg (w : World) : Calls Tryz.prog 145 #[.int .i64 (-1)] w fun e w' => e = .returned (.float .f64 18442240474082181120) ∧ w = w' := by
  have hf : ∀ W : World, (callFunc 168 #[.int .u64 (18442240474082181120 : Int)]).run Tryz.prog W = .ok (.value (.float .f64 18442240474082181120)) W := fun W => call_frombits 18442240474082181120 W
  go_enter Tryz.func145, Tryz.ntmps145
  go_wp2
  go_ret
  exact ⟨rfl, rfl⟩

/-- what Float returns for a text -/
def floW (l : List UInt8) : Nat := if readE l ≠ 0 then 0 else flW (readQ l)
def floX (l : List UInt8) : Int := if readE l ≠ 0 then readE l else flX (readQ l)
/-- the nearest single, or an infinity -/
def nearF (l : List UInt8) : Nat := if floX l = 0 then floW l else if Lib.hasPrefix l [45] = true then 4286578688 else 2139095040

theorem nearestFloat_any (s : ByteArray) (w : World) (hT : Tabs w) (hs : s.size ≤ 4294967296) :
    Calls Tryz.prog 118 #[.string s] w fun e w' => e = .returned (.float .f32 (nearF s.data.toList)) ∧ Below w.heap.size w w' := by
  have h := Float_any s w hT hs
  have e1 : (if readE s.data.toList ≠ 0 then 0 else flW (readQ s.data.toList)) = floW s.data.toList := rfl
  have e2 : (if readE s.data.toList ≠ 0 then readE s.data.toList else flX (readQ s.data.toList)) = floX s.data.toList := rfl
  rw [e1, e2] at h
  clear e1 e2
  have hp := fun W : World => Tryz.strings_HasPrefix s ⟨#[45]⟩ W
  have e45 : (⟨#[45]⟩ : ByteArray).data.toList = [45] := rfl
  rw [e45] at hp
  unfold nearF
  generalize floW s.data.toList = f at *
  generalize floX s.data.toList = x at *
  generalize Lib.hasPrefix s.data.toList [45] = g at *
  have c1 : floatToFloatBits .f64 18442240474082181120 .f32 = some 4286578688 := by decide +kernel
  have c2 : floatToFloatBits .f64 9218868437227405312 .f32 = some 2139095040 := by decide +kernel
  have hc1 := fun W : World => run_convert_float_float (P := Tryz.prog) W 172 23 .f64 .f32 18442240474082181120 4286578688 (by kernel_rfl) (by kernel_rfl) c1
  have hc2 := fun W : World => run_convert_float_float (P := Tryz.prog) W 172 23 .f64 .f32 9218868437227405312 2139095040 (by kernel_rfl) (by kernel_rfl) c2
  have H := Lib.hid h
  have HP := Lib.hid hp
  clear h hp c1 c2 e45
  by_cases hx : x = 0
  · subst hx
    rw [if_pos rfl]
    go_enter Tryz.func118, Tryz.ntmps118
    go_wp2_with fail
    refine H.out.mono ?_
    rintro e w1 ⟨rfl, hb⟩
    go_wp2_with fail
    go_ret
    exact ⟨rfl, hb⟩
  · have hd : (x == 0) = false := by simpa using hx
    rw [if_neg hx]
    cases hg : g
    · subst hg
      rw [if_neg (by decide)]
      go_enter Tryz.func118, Tryz.ntmps118
      go_wp2_with fail
      refine H.out.mono ?_
      rintro e w1 ⟨rfl, hb⟩
      go_wp2_with fail
      refine (HP.out _).mono ?_
      rintro e w2 ⟨rfl, rfl⟩
      go_wp2_with fail
      refine (inf_one _).mono ?_
      rintro e w3 ⟨rfl, rfl⟩
      go_wp2_with fail
      go_ret
      exact ⟨rfl, hb⟩
    · subst hg
      rw [if_pos rfl]
      go_enter Tryz.func118, Tryz.ntmps118
      go_wp2_with fail
      refine H.out.mono ?_
      rintro e w1 ⟨rfl, hb⟩
      go_wp2_with fail
      refine (HP.out _).mono ?_
      rintro e w2 ⟨rfl, rfl⟩
      go_wp2_with fail
      refine (inf_neg _).mono ?_
      rintro e w3 ⟨rfl, rfl⟩
      go_wp2_with fail
      go_ret
      exact ⟨rfl, hb⟩

end Go.Proofs.YtboaojkblmddkaaGreatDoor

/- Contract of the predicate of package probe's code: is the voltage below the edge of a code. -/
namespace Go.Proofs.YtboaojkblmddkaaGreatDoor
open Go.RowKit Bn
open Flt

set_option maxHeartbeats 4000000 in
set_option maxRecDepth 100000 in
theorem code1_any (s : ByteArray) (n b1 b2 b3 : Nat) (a st z c : Int) (g o : Value) (w : World) (hT : Tabs w) (hs : s.size ≤ 4294967296)
    (hd : -4194304 < 2 * (c - z) - 1) (hd2 : 2 * (c - z) - 1 < 4194304) (he : -149 ≤ st - 1) (he2 : st - 1 ≤ 100)
    (x0 : w.cell? ⟨b1, 0, none⟩ = some (.string s)) (y0 : w.cell? ⟨b2, 0, none⟩ = some (.float .f32 n))
    (z0 : w.cell? ⟨b3, 0, none⟩ = some (.int .i64 a)) (z1 : w.cell? ⟨b3, 1, none⟩ = some (.int .i64 st)) (z2 : w.cell? ⟨b3, 2, none⟩ = some (.int .i64 z)) (z3 : w.cell? ⟨b3, 3, none⟩ = some g) (z4 : w.cell? ⟨b3, 4, none⟩ = some o)
    (l1 : b1 < w.heap.size) (l2 : b2 < w.heap.size) (l3 : b3 < w.heap.size) :
    Calls Tryz.prog 120 #[.int .i64 c, .pointer (some ⟨b1, 0, none⟩), .pointer (some ⟨b2, 0, none⟩), .pointer (some ⟨b3, 0, none⟩)] w fun e w' => e = .returned (.bool (belowB s.data.toList n (nomW (2 * (c - z) - 1) (st - 1)))) ∧ Below w.heap.size w w' := by
  have hE := edge_any a st z c g o w.drew hd hd2 he he2
  have hTd : Tabs w.drew := hT.later (Below.refl _ _).drew
  have hb3 : Below w.heap.size w w.drew := (Below.refl _ _).drew
  generalize nomW (2 * (c - z) - 1) (st - 1) = ed at *
  have HE := Lib.hid hE
  clear hE
  go_enter Tryz.func120, Tryz.ntmps120
  go_wp2_with fail
  go_region_held3 (fun w' => w'.cell? ⟨b1, 0, none⟩ = some (.string s) ∧ w'.cell? ⟨b2, 0, none⟩ = some (.float .f32 n) ∧ w'.cell? ⟨b3, 0, none⟩ = some (.int .i64 a) ∧ w'.cell? ⟨b3, 1, none⟩ = some (.int .i64 st) ∧ w'.cell? ⟨b3, 2, none⟩ = some (.int .i64 z) ∧ w'.cell? ⟨b3, 3, none⟩ = some (g) ∧ w'.cell? ⟨b3, 4, none⟩ = some (o))
    ((first | exact ⟨x0, y0, z0, z1, z2, z3, z4⟩ | exact ⟨((hb4.cell (p := ⟨b1, 0, none⟩) l1).trans x0), ((hb4.cell (p := ⟨b2, 0, none⟩) l2).trans y0), ((hb4.cell (p := ⟨b3, 0, none⟩) l3).trans z0), ((hb4.cell (p := ⟨b3, 1, none⟩) l3).trans z1), ((hb4.cell (p := ⟨b3, 2, none⟩) l3).trans z2), ((hb4.cell (p := ⟨b3, 3, none⟩) l3).trans z3), ((hb4.cell (p := ⟨b3, 4, none⟩) l3).trans z4)⟩ | exact ⟨((hb5.cell (p := ⟨b1, 0, none⟩) k1).trans ((hb4.cell (p := ⟨b1, 0, none⟩) l1).trans x0)), ((hb5.cell (p := ⟨b2, 0, none⟩) k2).trans ((hb4.cell (p := ⟨b2, 0, none⟩) l2).trans y0)), ((hb5.cell (p := ⟨b3, 0, none⟩) k3).trans ((hb4.cell (p := ⟨b3, 0, none⟩) l3).trans z0)), ((hb5.cell (p := ⟨b3, 1, none⟩) k3).trans ((hb4.cell (p := ⟨b3, 1, none⟩) l3).trans z1)), ((hb5.cell (p := ⟨b3, 2, none⟩) k3).trans ((hb4.cell (p := ⟨b3, 2, none⟩) l3).trans z2)), ((hb5.cell (p := ⟨b3, 3, none⟩) k3).trans ((hb4.cell (p := ⟨b3, 3, none⟩) l3).trans z3)), ((hb5.cell (p := ⟨b3, 4, none⟩) k3).trans ((hb4.cell (p := ⟨b3, 4, none⟩) l3).trans z4))⟩))
    (first
      | (go_at_call 122; refine (HE.out).mono ?_; rintro e w4 ⟨rfl, hb4⟩; have k1 := Nat.lt_of_lt_of_le l1 hb4.size; have k2 := Nat.lt_of_lt_of_le l2 hb4.size; have k3 := Nat.lt_of_lt_of_le l3 hb4.size)
      | (go_at_call 121; refine (isBelow_any s n ed w4 (hTd.later hb4) hs).mono ?_; rintro e w5 ⟨rfl, hb5⟩))
  go_wp2_with fail
  go_ret
  exact ⟨rfl, (hb3.trans (hb4.mono hb3.size)).trans (hb5.mono (by have := hb4.size; have := hb3.size; omega))⟩

end Go.Proofs.YtboaojkblmddkaaGreatDoor

/- Contract of sort.Search, of a predicate that lays blocks of its own. -/
namespace Go.Proofs.YtboaojkblmddkaaGreatDoor
open Go.RowKit

set_option maxHeartbeats 2000000 in
set_option maxRecDepth 100000 in
theorem search_any (g : Nat) (cb : Array Value) (n k : Nat) (p : Nat → Bool) (w : World) (eg : ∀ args w, (callFunc g args).run Tryz.prog w = .ok (.enter g args) w) (hsz : n < 4611686018427387904)
    (hk : k ≤ n) (hlo : ∀ t, t < k → p t = false) (hhi : ∀ t, k ≤ t → t < n → p t = true)
    (hf : ∀ (W : World) (i : Nat), Below w.heap.size w W → i < n → Calls Tryz.prog g (#[.int .i64 i] ++ cb) W fun e w' => e = .returned (.bool (p i)) ∧ Below w.heap.size W w') :
    Calls Tryz.prog 119 #[.int .i64 n, .func (.func g) #[] cb] w fun e w' => e = .returned (.int .i64 k) ∧ Below w.heap.size w w' := by
  have HF := Lib.hid hf
  have HL := Lib.hid hlo
  have HH := Lib.hid hhi
  clear hf hlo hhi
  go_enter Tryz.func119, Tryz.ntmps119
  go_wp2
  go_loopg [5, 6] n (fun m s5 s6 W => ∃ lo hi : Nat, s5 = .int .i64 lo ∧ s6 = .int .i64 hi ∧ lo ≤ k ∧ k ≤ hi ∧ hi ≤ n ∧ hi - lo ≤ m ∧ Below w.heap.size w W)
  case atStart => exact ⟨0, n, rfl, rfl, Nat.zero_le _, hk, Nat.le_refl _, by omega, Below.refl _ _⟩
  case round =>
    obtain ⟨lo, hi, rfl, rfl, h1, h2, h3, h4, hb⟩ := hrel
    by_cases hlt : lo < hi
    · obtain ⟨mid, hm, hm1, hm2⟩ : ∃ mid : Nat, ((lo : Int) + (hi : Int)) / 2 = (mid : Int) ∧ lo ≤ mid ∧ mid < hi := ⟨(lo + hi) / 2, by omega, by omega, by omega⟩
      have hc := HF.out wr mid hb (by omega)
      have hsz2 := hb.size
      by_cases hp : p mid = true
      · have hkm : k ≤ mid := by
          rcases Nat.lt_or_ge mid k with h | h
          · have := HL.out mid h; rw [hp] at this; cases this
          · exact h
        rw [hp] at hc
        have HC := Lib.hid hc
        clear hc hp
        go_wp2_with (go_at_fn g; refine HC.out.mono ?_; rintro e w' ⟨rfl, hb2⟩)
        go_roundg (mid - lo)
        case measure => omega
        case rel => exact ⟨lo, mid, rfl, rfl, h1, hkm, by omega, Nat.le_refl _, hb.trans hb2⟩
      · have hpf : p mid = false := by simpa using hp
        have hkm : mid < k := by
          rcases Nat.lt_or_ge mid k with h | h
          · exact h
          · exact absurd (HH.out mid h (by omega)) hp
        rw [hpf] at hc
        have HC := Lib.hid hc
        clear hc hp hpf
        go_wp2_with (go_at_fn g; refine HC.out.mono ?_; rintro e w' ⟨rfl, hb2⟩)
        go_roundg (hi - (mid + 1))
        case measure => omega
        case rel => exact ⟨mid + 1, hi, by rw [Int.natCast_add]; rfl, rfl, hkm, h2, h3, Nat.le_refl _, hb.trans hb2⟩
    · obtain rfl : lo = k := by omega
      obtain rfl : hi = lo := by omega
      go_wp2
      go_ret
      exact ⟨rfl, hb⟩

end Go.Proofs.YtboaojkblmddkaaGreatDoor
