/- The contract of Float. -/
import Derived.Test.YthmiamppfncfoaaGreatDoorCScal
import Derived.Test.YthmiamppfncfoaaGreatDoorCLdx
import Derived.Test.YthmiamppfncfoaaGreatDoorCOrder
import Derived.Test.YthmiamppfncfoaaGreatDoorCShelf
namespace Go.Proofs.YthmiamppfncfoaaGreatDoor
open Go.RowKit Bn
open Flt

theorem one_is : dn 1 0 = 4607182418800017408 := by decide +kernel
theorem end_call (W : World) : Calls Tryz.prog 49 #[.float .f64 4607182418800017408, .int .i64 128] W fun e' w' => e' = .returned (.float .f64 (dn 1 128)) ∧ W = w' := by
  rw [← one_is]
  have b1 : (1 : Nat).log2 = 0 := by decide
  exact Ldexp_any W (ldexp_dn W (by omega) (by omega) (by rw [b1]; omega) (by rw [b1]; omega))

theorem inf_read : Ieee.double.read 9218868437227405312 = .infinity false := by decide +kernel
theorem inf_ge {x m : Nat} {p : Int} (h : Ieee.double.read x = .number false m p) : (FloatKind.f64.format.order 9218868437227405312 x == some .gt || FloatKind.f64.format.order 9218868437227405312 x == some .eq) = true := by
  have : FloatKind.f64.format.order 9218868437227405312 x = some .gt := by
    show (Ieee.double.read 9218868437227405312).order (Ieee.double.read x) = _
    rw [inf_read, h]; rfl
  rw [this]; rfl

theorem fl_ways {n : Nat} {e : Int} (h : Rnd n e) (h0 : 0 < n) (he : e ≤ 1099511627776) :
    ∃ r : Nat, (∀ W : World, Calls Tryz.prog 49 #[.float .f64 (dn n 0), .int .i64 e] W fun e' w' => e' = .returned (.float .f64 r) ∧ W = w') ∧
      (FloatKind.f64.format.order r (dn 1 128) == some .gt || FloatKind.f64.format.order r (dn 1 128) == some .eq) = decide (2139095040 ≤ rung n e) ∧
      (rung n e < 2139095040 → r = dn n e ∧ Nrm (sg n) (e + n.log2 - 52)) := by
  have hp := h.place
  have hh := h.hi
  have hl := h.log2 h0
  by_cases hc : e + n.log2 ≤ 1023
  · exact ⟨dn n e, fun W => Ldexp_any W (ldexp_dn W h0 (by omega) (by omega) hc), ge_end h h0 hc rfl, fun _ => ⟨rfl, sg_nrm h0 (by omega) (by omega) hc⟩⟩
  · have hr : 2139095040 ≤ rung n e := by unfold rung; omega
    refine ⟨9218868437227405312, fun W => Ldexp_any W (ldexp_big W h0 (by omega) (by omega) (by omega)), ?_, fun hx => absurd hr (by omega)⟩
    have b1 : (1 : Nat).log2 = 0 := by decide
    rw [inf_ge (read_dn (n := 1) (e := 128) (by omega) (by omega) (by rw [b1]; omega) (by rw [b1]; omega)), decide_eq_true hr]

set_option maxHeartbeats 2000000 in
set_option maxRecDepth 100000 in
theorem Float_bad (s : ByteArray) (w : World) (hT : Tabs w) (hs : s.size ≤ 4294967296) (hx : readE s.data.toList ≠ 0) :
    Calls Tryz.prog 20 #[.string s] w fun e w' => e = .returned (.tuple #[.float .f32 0, .int .i64 (readE s.data.toList)]) ∧ Below w.heap.size w w' := by
  have hr := read_any s w hT hs
  generalize readE s.data.toList = x at hr hx ⊢
  generalize readQ s.data.toList = q at hr
  have hxb : (x != 0) = true := by simpa using hx
  go_enter Tryz.func20, Tryz.ntmps20
  go_wp2_with fail
  refine hr.mono ?_
  rintro e w1 ⟨v, rfl, ⟨A, n, c, A', n', c', rfl, h1, h2⟩, hb⟩
  go_wp2
  go_ret2
  exact ⟨rfl, hb.alloc hb.size _⟩

set_option maxHeartbeats 2000000 in
set_option maxRecDepth 100000 in
theorem Float_zero (s : ByteArray) (w : World) (hT : Tabs w) (hs : s.size ≤ 4294967296) (hx : readE s.data.toList = 0) (hz : (readQ s.data.toList).top = 0) :
    Calls Tryz.prog 20 #[.string s] w fun e w' => e = .returned (.tuple #[.float .f32 0, .int .i64 0]) ∧ Below w.heap.size w w' := by
  have hr := read_any s w hT hs
  rw [hx] at hr
  generalize readQ s.data.toList = q at hr hz
  go_enter Tryz.func20, Tryz.ntmps20
  go_wp2_with fail
  refine hr.mono ?_
  rintro e w1 ⟨v, rfl, ⟨A, n, c, A', n', c', rfl, h1, h2⟩, hb⟩
  have hb2 : Below w1.heap.size w1 (w1.alloc (.cells #[.bool q.neg, .slice A n c, .slice A' n' c'] 93)) := (Below.refl _ _).alloc (Nat.le_refl _) _
  have hiz := ratIsZero_any q.neg q.top A A' n c n' c' _ (h1.later hb2)
  rw [decide_eq_true hz] at hiz
  have HIZ := Lib.hid hiz
  clear hiz hr
  go_wp2_with fail
  refine HIZ.out.mono ?_
  rintro e w3 ⟨rfl, hb3⟩
  go_wp2
  go_ret2
  exact ⟨rfl, (hb.trans (hb2.mono hb.size)).trans (hb3.mono (by have := hb.size; simp; omega))⟩

set_option maxHeartbeats 4000000 in
set_option maxRecDepth 100000 in
theorem Float_walk (s : ByteArray) (w : World) (X r r2 R E : Nat) (g : Bool) (hT : Tabs w) (hs : s.size ≤ 4294967296) (hx : readE s.data.toList = 0) (hz : 0 < (readQ s.data.toList).top)
    (hX : floatOfInt .f64 ((flN (readQ s.data.toList).top (readQ s.data.toList).bot : Nat) : Int) = X)
    (hL : ∀ W : World, Calls Tryz.prog 49 #[.float .f64 X, .int .i64 (flE (readQ s.data.toList).top (readQ s.data.toList).bot)] W fun e' w' => e' = .returned (.float .f64 r) ∧ W = w')
    (hE : ∀ W : World, Calls Tryz.prog 49 #[.float .f64 4607182418800017408, .int .i64 128] W fun e' w' => e' = .returned (.float .f64 E) ∧ W = w')
    (hG : (FloatKind.f64.format.order r E == some .gt || FloatKind.f64.format.order r E == some .eq) = g)
    (hN : g = false → (readQ s.data.toList).neg = true → floatBits .sub .f64 0 r = some r2)
    (hR : g = false → floatToFloatBits .f64 (if (readQ s.data.toList).neg then r2 else r) .f32 = some R) :
    Calls Tryz.prog 20 #[.string s] w fun e w' => e = .returned (.tuple #[.float .f32 (if g then 0 else R), .int .i64 (if g then 4 else 0)]) ∧ Below w.heap.size w w' := by
  have hr := read_any s w hT hs
  have hl := @readQ_len s.data.toList hx
  have hbot := @readQ_bot s.data.toList hx
  rw [hx] at hr
  generalize readQ s.data.toList = q at hr hz hX hL hN hR hl hbot
  obtain ⟨hrnd, hq⟩ := flN_rnd hz hbot
  have nb := bexp_bound (nbits_bound hl.1) (nbits_bound hl.2)
  have hE1 : flE q.top q.bot ≤ 1073741824 := by unfold flE; omega
  have hE2 : -1073741824 ≤ flE q.top q.bot := by unfold flE; omega
  have hsp := scB_pos hbot (flE q.top q.bot)
  have w1 : wrap64 (bexp q.top q.bot + 1) = bexp q.top q.bot + 1 := IntWalk.wrap64_in _ (by omega)
  have w2 : wrap64 (bexp q.top q.bot + 1 - 24) = bexp q.top q.bot + 1 - 24 := IntWalk.wrap64_in _ (by omega)
  have hmx : max (bexp q.top q.bot + 1 - 24) (-149) = flE q.top q.bot := rfl
  obtain ⟨l1, l2⟩ := hl
  have HZ := Lib.hid hz
  have HL := Lib.hid hL
  have HE := Lib.hid hE
  have HN := Lib.hid hN
  have HR := Lib.hid hR
  have HG := Lib.hid hG
  clear hz hL hE hN hR hG
  go_enter Tryz.func20, Tryz.ntmps20
  go_wp2_with fail
  refine hr.mono ?_
  rintro e w1 ⟨v, rfl, ⟨A, n, c, A', n', c', rfl, h1, h2⟩, hb⟩
  rw [h1.len] at l1
  rw [h2.len] at l2
  have hb2 : Below w1.heap.size w1 (w1.alloc (.cells #[.bool q.neg, .slice A n c, .slice A' n' c'] 93)) := (Below.refl _ _).alloc (Nat.le_refl _) _
  have hiz := ratIsZero_any q.neg q.top A A' n c n' c' _ (h1.later hb2)
  rw [decide_eq_false (show ¬ q.top = 0 by have := HZ.out; omega)] at hiz
  have HIZ := Lib.hid hiz
  clear hiz hr
  go_wp2_with fail
  refine HIZ.out.mono ?_
  rintro e w3 ⟨rfl, hb3⟩
  clear HIZ
  have hx3 : ResBlk w3 w1.heap.size q.neg (.slice A n c) (.slice A' n' c') := (ResBlk.new w1 _ _ _).below hb3 (by simp)
  have hB3 : Below w.heap.size w w3 := (hb.trans (hb2.mono hb.size)).trans (hb3.mono (by have := hb.size; simp; omega))
  have hs3 : w1.heap.size < w3.heap.size := by have := hb3.size; simp at this; omega
  have g1 := (h1.later hb2).later hb3
  have g2 := (h2.later hb2).later hb3
  have hbe := binaryExponent_any q.neg q.top q.bot A A' n c n' c' w3 g1 g2 (by omega) (by omega)
  obtain ⟨x0, x1, x2, _, _, _, xl⟩ := hx3.cells
  have HBE := Lib.hid hbe
  clear hbe
  go_wp2_with fail
  refine HBE.out.mono ?_
  rintro e w4 ⟨rfl, hb4⟩
  clear HBE x0 x1 x2 xl
  have hx4 := hx3.below hb4 hs3
  have hs4 : w1.heap.size < w4.heap.size := by have := hb4.size; omega
  have hro := rounded_any q.neg q.top q.bot (flE q.top q.bot) A A' n c n' c' w4 (g1.later hb4) (g2.later hb4) (by omega) (by omega) ⟨hE2, hE1⟩ hsp (by omega)
  have hfn : near (scT q.top (flE q.top q.bot)) (scB q.bot (flE q.top q.bot)) = flN q.top q.bot := rfl
  rw [hfn] at hro
  obtain ⟨x0, x1, x2, _, _, _, xl⟩ := hx4.cells
  have HRO := Lib.hid hro
  clear hro
  go_wp2_with fail
  refine HRO.out.mono ?_
  rintro e w5 ⟨rfl, hb5⟩
  clear HRO x0 x1 x2 xl
  have hx5 := hx4.below hb5 hs4
  obtain ⟨x0, x1, x2, _, _, _, xl⟩ := hx5.cells
  have hB5 : Below w.heap.size w w5 := (hB3.trans (hb4.mono hB3.size)).trans (hb5.mono (by have := hB3.size; have := hb4.size; omega))
  generalize flN q.top q.bot = N at *
  generalize flE q.top q.bot = e at *
  go_wp2_with fail
  refine (HL.out _).mono ?_
  rintro e6 w6 ⟨rfl, rfl⟩
  go_wp2_with fail
  refine (HE.out _).mono ?_
  rintro e7 w7 ⟨rfl, rfl⟩
  have hG := HG.out
  cases hg : g
  · subst hg
    have hR := HR.out rfl
    cases hn : q.neg
    · rw [hn, if_neg (by decide)] at hR
      rw [hn] at x0
      have hcv := fun W : World => run_convert_float_float (P := Tryz.prog) W 97 24 .f64 .f32 r R (by kernel_rfl) (by kernel_rfl) hR
      go_wp2
      go_ret2
      exact ⟨rfl, hB5⟩
    · have hN := HN.out rfl hn
      rw [hn, if_pos rfl] at hR
      rw [hn] at x0
      have hsb := fun W : World => run_float_arith (P := Tryz.prog) W .sub 97 .f64 0 r r2 hN
      have hcv := fun W : World => run_convert_float_float (P := Tryz.prog) W 97 24 .f64 .f32 r2 R (by kernel_rfl) (by kernel_rfl) hR
      go_wp2
      go_ret2
      exact ⟨rfl, hB5⟩
  · subst hg
    go_wp2
    go_ret2
    exact ⟨rfl, hB5⟩

theorem ofInt_zero : floatOfInt .f64 ((0 : Nat) : Int) = 0 := by decide +kernel
theorem zero_lt_end : (FloatKind.f64.format.order 0 (dn 1 128) == some .gt || FloatKind.f64.format.order 0 (dn 1 128) == some .eq) = false := by
  have b1 : (1 : Nat).log2 = 0 := by decide
  have f2 := fin_one (e := 128) (by omega) (by omega)
  have k2 := key_one (e := 128) (u := 1178) (by omega) (by omega) (by omega)
  have f4 := fin_of_read zero_read
  have k4 := key_of_read zero_read
  rw [Nat.zero_mul] at k4
  show (Ieee.double.order _ _ == some .gt || Ieee.double.order _ _ == some .eq) = false
  rw [order_fin f4 f2, k4, k2]
  have := Nat.two_pow_pos (24 + 1178)
  generalize 2 ^ (24 + 1178) = A at this
  rw [cmp_lt (by omega)]; rfl
theorem cast_zero : floatToFloatBits .f64 0 .f32 = some 0 := by decide +kernel

/-- Float: the word and the error, for any string -/
theorem Float_any (s : ByteArray) (w : World) (hT : Tabs w) (hs : s.size ≤ 4294967296) :
    Calls Tryz.prog 20 #[.string s] w fun e w' =>
      e = .returned (.tuple #[.float .f32 (if readE s.data.toList ≠ 0 then 0 else flW (readQ s.data.toList)), .int .i64 (if readE s.data.toList ≠ 0 then readE s.data.toList else flX (readQ s.data.toList))]) ∧ Below w.heap.size w w' := by
  by_cases hx : readE s.data.toList = 0
  · rw [if_neg (by simpa using hx), if_neg (by simpa using hx)]
    by_cases hz : (readQ s.data.toList).top = 0
    · have := Float_zero s w hT hs hx hz
      unfold flW flX
      rw [if_pos hz, if_pos hz]
      exact this
    · have hz' : 0 < (readQ s.data.toList).top := by omega
      obtain ⟨hrnd, hq⟩ := flN_rnd hz' (readQ_bot hx)
      have hl := readQ_len hx
      have nb := bexp_bound (nbits_bound hl.1) (nbits_bound hl.2)
      have hE1 : flE (readQ s.data.toList).top (readQ s.data.toList).bot ≤ 1073741824 := by unfold flE; omega
      unfold flW flX
      rw [if_neg hz, if_neg hz]
      by_cases hN : flN (readQ s.data.toList).top (readQ s.data.toList).bot = 0
      · rw [if_pos hN, if_pos hN]
        exact Float_walk s w 0 0 0 0 (dn 1 128) false hT hs hx hz' (by rw [hN]; exact ofInt_zero) (fun W => Ldexp_any W (ldexp_zero W)) end_call zero_lt_end (fun _ _ => zero_sub_zero) (fun _ => by rw [ite_self]; exact cast_zero)
      · rw [if_neg hN, if_neg hN]
        have h0 : 0 < flN (readQ s.data.toList).top (readQ s.data.toList).bot := by omega
        obtain ⟨r, hL, hG, hD⟩ := fl_ways hrnd h0 (by omega)
        have hX := ofInt_dn (n := flN (readQ s.data.toList).top (readQ s.data.toList).bot) h0 (by have := hrnd.hi; omega)
        by_cases hR : 2139095040 ≤ rung (flN (readQ s.data.toList).top (readQ s.data.toList).bot) (flE (readQ s.data.toList).top (readQ s.data.toList).bot)
        · rw [if_pos hR, if_pos hR]
          rw [decide_eq_true hR] at hG
          exact Float_walk s w _ r 0 0 (dn 1 128) true hT hs hx hz' hX hL end_call hG (fun h => by cases h) (fun h => by cases h)
        · rw [if_neg hR, if_neg hR]
          rw [decide_eq_false hR] at hG
          obtain ⟨hr, hn⟩ := hD (by omega)
          refine Float_walk s w _ r (dw true (sg (flN (readQ s.data.toList).top (readQ s.data.toList).bot)) (flE (readQ s.data.toList).top (readQ s.data.toList).bot + (flN (readQ s.data.toList).top (readQ s.data.toList).bot).log2 - 52)) _ (dn 1 128) false hT hs hx hz' hX hL end_call hG (fun _ _ => ?_) (fun _ => ?_)
          · rw [hr]; exact zero_sub hn
          · rw [hr]
            have hc := fun b => cast_dw b hrnd h0 (by omega)
            cases (readQ s.data.toList).neg
            · exact hc false
            · exact hc true
  · rw [if_pos (by simpa using hx), if_pos (by simpa using hx)]
    exact Float_bad s w hT hs hx

end Go.Proofs.YthmiamppfncfoaaGreatDoor

/- Contract of package probe's nearestFloat. -/
namespace Go.Proofs.YthmiamppfncfoaaGreatDoor
open Go.RowKit Bn
open Flt

theorem inf_neg (w : World) : Calls Tryz.prog 90 #[.int .i64 (-1)] w fun e w' => e = .returned (.float .f64 18442240474082181120) ∧ w = w' := by
  have hf : ∀ W : World, (callFunc 106 #[.int .u64 (18442240474082181120 : Int)]).run Tryz.prog W = .ok (.value (.float .f64 18442240474082181120)) W := fun W => call_frombits 18442240474082181120 W
  go_enter Tryz.func90, Tryz.ntmps90
  go_wp2
  go_ret
  exact ⟨rfl, rfl⟩

/-- what Float returns for a text -/
def floW (l : List UInt8) : Nat := if readE l ≠ 0 then 0 else flW (readQ l)
def floX (l : List UInt8) : Int := if readE l ≠ 0 then readE l else flX (readQ l)
/-- the nearest single, or an infinity -/
def nearF (l : List UInt8) : Nat := if floX l = 0 then floW l else if Lib.hasPrefix l [45] = true then 4286578688 else 2139095040

theorem nearestFloat_any (s : ByteArray) (w : World) (hT : Tabs w) (hs : s.size ≤ 4294967296) :
    Calls Tryz.prog 66 #[.string s] w fun e w' => e = .returned (.float .f32 (nearF s.data.toList)) ∧ Below w.heap.size w w' := by
  have h := Float_any s w hT hs
  have e1 : (if readE s.data.toList ≠ 0 then 0 else flW (readQ s.data.toList)) = floW s.data.toList := rfl
  have e2 : (if readE s.data.toList ≠ 0 then readE s.data.toList else flX (readQ s.data.toList)) = floX s.data.toList := rfl
  rw [e1, e2] at h
  clear e1 e2
  have hp := fun W : World => Tryz.strings_HasPrefix s ⟨#[45]⟩ W
  have e45 : (⟨#[45]⟩ : ByteArray).data.toList = [45] := rfl
  rw [e45] at hp
  unfold nearF
  generalize floW s.data.toList = f at *
  generalize floX s.data.toList = x at *
  generalize Lib.hasPrefix s.data.toList [45] = g at *
  have c1 : floatToFloatBits .f64 18442240474082181120 .f32 = some 4286578688 := by decide +kernel
  have c2 : floatToFloatBits .f64 9218868437227405312 .f32 = some 2139095040 := by decide +kernel
  have hc1 := fun W : World => run_convert_float_float (P := Tryz.prog) W 97 24 .f64 .f32 18442240474082181120 4286578688 (by kernel_rfl) (by kernel_rfl) c1
  have hc2 := fun W : World => run_convert_float_float (P := Tryz.prog) W 97 24 .f64 .f32 9218868437227405312 2139095040 (by kernel_rfl) (by kernel_rfl) c2
  have H := Lib.hid h
  have HP := Lib.hid hp
  clear h hp c1 c2 e45
  by_cases hx : x = 0
  · subst hx
    rw [if_pos rfl]
    go_enter Tryz.func66, Tryz.ntmps66
    go_wp2_with fail
    refine H.out.mono ?_
    rintro e w1 ⟨rfl, hb⟩
    go_wp2_with fail
    go_ret
    exact ⟨rfl, hb⟩
  · have hd : (x == 0) = false := by simpa using hx
    rw [if_neg hx]
    cases hg : g
    · subst hg
      rw [if_neg (by decide)]
      go_enter Tryz.func66, Tryz.ntmps66
      go_wp2_with fail
      refine H.out.mono ?_
      rintro e w1 ⟨rfl, hb⟩
      go_wp2_with fail
      refine (HP.out _).mono ?_
      rintro e w2 ⟨rfl, rfl⟩
      go_wp2_with fail
      refine (inf_one _).mono ?_
      rintro e w3 ⟨rfl, rfl⟩
      go_wp2_with fail
      go_ret
      exact ⟨rfl, hb⟩
    · subst hg
      rw [if_pos rfl]
      go_enter Tryz.func66, Tryz.ntmps66
      go_wp2_with fail
      refine H.out.mono ?_
      rintro e w1 ⟨rfl, hb⟩
      go_wp2_with fail
      refine (HP.out _).mono ?_
      rintro e w2 ⟨rfl, rfl⟩
      go_wp2_with fail
      refine (inf_neg _).mono ?_
      rintro e w3 ⟨rfl, rfl⟩
      go_wp2_with fail
      go_ret
      exact ⟨rfl, hb⟩

end Go.Proofs.YthmiamppfncfoaaGreatDoor
