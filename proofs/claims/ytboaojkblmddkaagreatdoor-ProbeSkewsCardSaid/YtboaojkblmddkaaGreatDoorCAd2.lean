/- Contracts of probe's checkCode, Code, Volts of a valid converter. -/
import Derived.Test.YtboaojkblmddkaaGreatDoorCAdc
import Derived.Test.YtboaojkblmddkaaGreatDoorCFlt
import Derived.Test.YtboaojkblmddkaaGreatDoorCWords
namespace Go.Proofs.YtboaojkblmddkaaGreatDoor
open Go.RowKit Bn
open Flt

set_option maxHeartbeats 1000000 in
theorem checkCode_ok (a : Nat) (st z c : Int) (g o : ByteArray) (w : World) (hT : Tabs w) (h : Conv a st z g o) (hc : 0 ≤ c ∧ c ≤ ((2 ^ a - 1 : Nat) : Int)) :
    Calls Tryz.prog 86 #[.agg #[.int .i64 a, .int .i64 st, .int .i64 z, .string g, .string o], .int .i64 c] w fun e w' => e = .returned (.int .i64 0) ∧ Below w.heap.size w w' := by
  have hb0 : Below w.heap.size w (w.alloc (.cells #[.int .i64 a, .int .i64 st, .int .i64 z, .string g, .string o] 91)) := (Below.refl _ _).alloc (Nat.le_refl _) _
  have q0 : CBlk (w.alloc (.cells #[.int .i64 a, .int .i64 st, .int .i64 z, .string g, .string o] 91)) w.heap.size #[.int .i64 a, .int .i64 st, .int .i64 z, .string g, .string o] 91 := CBlk.new w _ _ _ rfl
  have x0 := q0.cell 0
  have x1 := q0.cell 1
  have x2 := q0.cell 2
  have x3 := q0.cell 3
  have x4 := q0.cell 4
  have HC := Lib.hid (checkAdc_ok a st z g o _ (hT.later hb0) h)
  have HTP := Lib.hid (fun W => top_any a st z (.string g) (.string o) W (by have := h.bits; omega))
  have HR3 := Lib.hid (rangeE_0 c 0 ((2 ^ a - 1 : Nat) : Int) hc.1 hc.2)
  generalize ((2 ^ a - 1 : Nat) : Int) = T at *
  clear h hc
  go_enter Tryz.func86, Tryz.ntmps86
  go_wp2_with fail
  generalize w.alloc (.cells #[.int .i64 a, .int .i64 st, .int .i64 z, .string g, .string o] 91) = w1 at *
  refine HC.out.mono ?_
  rintro e w2 ⟨rfl, hb2⟩
  have q2 := q0.below hb2 q0.lt
  clear x0 x1 x2 x3 x4
  have x0 := q2.cell 0
  have x1 := q2.cell 1
  have x2 := q2.cell 2
  have x3 := q2.cell 3
  have x4 := q2.cell 4
  have hB2 := hb0.trans (hb2.mono hb0.size)
  go_wp2_with fail
  refine (HTP.out w2).mono ?_
  rintro e w3 ⟨rfl, hb3⟩
  go_wp2_with fail
  refine (cinRange_any _ _ _ _).mono ?_
  rintro e w4 ⟨he, rfl⟩
  rw [HR3.out] at he
  subst he
  go_wp2_with fail
  go_ret
  exact ⟨rfl, hB2.trans (hb3.mono hB2.size)⟩

set_option maxHeartbeats 1000000 in
theorem Volts_ok (a : Nat) (st z c : Int) (g o : ByteArray) (w : World) (hT : Tabs w) (h : Conv a st z g o) (hc : 0 ≤ c ∧ c ≤ ((2 ^ a - 1 : Nat) : Int)) :
    Calls Tryz.prog 49 #[.agg #[.int .i64 a, .int .i64 st, .int .i64 z, .string g, .string o], .int .i64 c] w fun e w' => e = .returned (.tuple #[.float .f32 (nomW (c - z) st), .int .i64 0]) ∧ Below w.heap.size w w' := by
  have hb0 : Below w.heap.size w (w.alloc (.cells #[.int .i64 a, .int .i64 st, .int .i64 z, .string g, .string o] 91)) := (Below.refl _ _).alloc (Nat.le_refl _) _
  have q0 : CBlk (w.alloc (.cells #[.int .i64 a, .int .i64 st, .int .i64 z, .string g, .string o] 91)) w.heap.size #[.int .i64 a, .int .i64 st, .int .i64 z, .string g, .string o] 91 := CBlk.new w _ _ _ rfl
  have x0 := q0.cell 0
  have x1 := q0.cell 1
  have x2 := q0.cell 2
  have x3 := q0.cell 3
  have x4 := q0.cell 4
  have hp : 2 ^ a ≤ 2 ^ 12 := Nat.pow_le_pow_right (by omega) h.bits.2
  have hz := h.zero
  have HC := Lib.hid (checkCode_ok a st z c g o _ (hT.later hb0) h hc)
  have HN := Lib.hid (fun W => nominal_any a st z c (.string g) (.string o) W (by omega) (by omega) (by have := h.step; omega) (by have := h.step; omega))
  clear h hc hz hp
  go_enter Tryz.func49, Tryz.ntmps49
  go_wp2_with fail
  generalize w.alloc (.cells #[.int .i64 a, .int .i64 st, .int .i64 z, .string g, .string o] 91) = w1 at *
  refine HC.out.mono ?_
  rintro e w2 ⟨rfl, hb2⟩
  have q2 := q0.below hb2 q0.lt
  clear x0 x1 x2 x3 x4
  have x0 := q2.cell 0
  have x1 := q2.cell 1
  have x2 := q2.cell 2
  have x3 := q2.cell 3
  have x4 := q2.cell 4
  have hB2 := hb0.trans (hb2.mono hb0.size)
  go_wp2_with fail
  refine (HN.out w2).mono ?_
  rintro e w3 ⟨rfl, hb3⟩
  go_wp2_with fail
  go_ret2
  exact ⟨rfl, hB2.trans (hb3.mono hB2.size)⟩

set_option maxHeartbeats 1000000 in
theorem Code_ok (s : ByteArray) (a k : Nat) (st z : Int) (g o : ByteArray) (w : World) (hT : Tabs w) (h : Conv a st z g o) (hs : s.size ≤ 4294967296) (h0 : readE s.data.toList = 0) (C D : Int)
    (hk : k ≤ 2 ^ a + 1) (hlo : ∀ t : Nat, t < k → belowB s.data.toList (nearF s.data.toList) (nomW (2 * ((t : Int) - z) - 1) (st - 1)) = false)
    (hhi : ∀ t : Nat, k ≤ t → t < 2 ^ a + 1 → belowB s.data.toList (nearF s.data.toList) (nomW (2 * ((t : Int) - z) - 1) (st - 1)) = true)
    (hC : (if k = 0 then (0 : Int) else if k = 2 ^ a + 1 then ((2 ^ a - 1 : Nat) : Int) else (k : Int) - 1) = C) (hD : (if k = 0 then (-1 : Int) else if k = 2 ^ a + 1 then 1 else 0) = D) :
    Calls Tryz.prog 48 #[.agg #[.int .i64 a, .int .i64 st, .int .i64 z, .string g, .string o], .string s] w fun e w' => e = .returned (.tuple #[.int .i64 C, .int .i64 D, .int .i64 0]) ∧ Below w.heap.size w w' := by
  have hp : 2 ^ a ≤ 2 ^ 12 := Nat.pow_le_pow_right (by omega) h.bits.2
  have hz := h.zero
  have hb0 : Below w.heap.size w (w.alloc (.cells #[.int .i64 a, .int .i64 st, .int .i64 z, .string g, .string o] 91)) := (Below.refl _ _).alloc (Nat.le_refl _) _
  have q0 : CBlk (w.alloc (.cells #[.int .i64 a, .int .i64 st, .int .i64 z, .string g, .string o] 91)) w.heap.size #[.int .i64 a, .int .i64 st, .int .i64 z, .string g, .string o] 91 := CBlk.new w _ _ _ rfl
  have x0 := q0.cell 0
  have x1 := q0.cell 1
  have x2 := q0.cell 2
  have x3 := q0.cell 3
  have x4 := q0.cell 4
  have HC := Lib.hid (checkAdc_ok a st z g o _ (hT.later hb0) h)
  have HK := Lib.hid (fun W hT => check_any s W hT hs)
  have HE := Lib.hid h0
  have HV := Lib.hid (fun W hT => code_any s a k st z (.string g) (.string o) W hT hs h.bits.2 (by omega) (by have := h.step; omega) (by have := h.step; omega) hk hlo hhi)
  rw [hC, hD] at HV
  clear h hz hp hlo hhi hk hC hD h0
  go_enter Tryz.func48, Tryz.ntmps48
  go_wp2_with fail
  generalize w.alloc (.cells #[.int .i64 a, .int .i64 st, .int .i64 z, .string g, .string o] 91) = w1 at *
  have hT1 := hT.later hb0
  refine HC.out.mono ?_
  rintro e w2 ⟨rfl, hb2⟩
  have hT2 := hT1.later hb2
  have q2 := q0.below hb2 q0.lt
  clear x0 x1 x2 x3 x4
  have hB2 := hb0.trans (hb2.mono hb0.size)
  go_wp2_with fail
  refine (HK.out w2 hT2).mono ?_
  rintro e w3 ⟨he, hb3⟩
  rw [HE.out] at he
  subst he
  have hT3 := hT2.later hb3
  have q3 := q2.below hb3 q2.lt
  have hB3 := hB2.trans (hb3.mono hB2.size)
  go_wp2_with fail
  refine (cfirst_two 0 0 w3 _ _ rfl).mono ?_
  rintro e w4 ⟨rfl, rfl⟩
  have hb4 : Below w3.heap.size w3 (w3.alloc (.cells #[.int .i64 0, .int .i64 0] 29)) := (Below.refl _ _).alloc (Nat.le_refl _) _
  generalize w3.alloc (.cells #[.int .i64 0, .int .i64 0] 29) = w4 at *
  have hT4 := hT3.later hb4
  have q4 := q3.below hb4 q3.lt
  have hB4 := hB3.trans (hb4.mono hB3.size)
  have x0 := q4.cell 0
  have x1 := q4.cell 1
  have x2 := q4.cell 2
  have x3 := q4.cell 3
  have x4 := q4.cell 4
  go_wp2_with fail
  refine (HV.out w4 hT4).mono ?_
  rintro e w5 ⟨rfl, hb5⟩
  go_wp2_with fail
  go_ret3
  exact ⟨rfl, hB4.trans (hb5.mono hB4.size)⟩

end Go.Proofs.YtboaojkblmddkaaGreatDoor

/- Plain lists: digital lines of samples, their changes, the words of lines. -/
namespace Go.Proofs.YtboaojkblmddkaaGreatDoor
open Flt Bn

/-! ### digital lines -/
def digV (lo hi : Nat) (v : Bool) (x : Nat) : Bool := fge x hi || (v && fgt x lo)
def digS (lo hi : Nat) (v : Bool) (l : List Nat) : Bool := l.foldl (digV lo hi) v
/-- the line of samples: its value after each one -/
def digL (lo hi : Nat) (v : Bool) (l : List Nat) : List Bool := (List.range l.length).map fun i => digS lo hi v (l.take (i + 1))

theorem digS_succ (lo hi : Nat) (v : Bool) (l : List Nat) (k : Nat) (h : k < l.length) : digS lo hi v (l.take (k + 1)) = digV lo hi (digS lo hi v (l.take k)) l[k] := by
  unfold digS
  rw [List.take_succ_eq_append_getElem h, List.foldl_append]
  rfl
theorem digL_len (lo hi : Nat) (v : Bool) (l : List Nat) : (digL lo hi v l).length = l.length := by simp [digL]
theorem digL_at (lo hi : Nat) (v : Bool) (l : List Nat) (k : Nat) (h : k < l.length) : (digL lo hi v l)[k]? = some (digS lo hi v (l.take (k + 1))) := by
  simp [digL, h]
theorem digL_getD (lo hi : Nat) (v : Bool) (l : List Nat) (k : Nat) (h : k < l.length) : (digL lo hi v l).getD k false = digS lo hi v (l.take (k + 1)) := by
  rw [List.getD_eq_getElem?_getD, digL_at lo hi v l k h]; rfl

/-- has a sample decided the line -/
def decd (lo hi : Nat) (l : List Nat) : Bool := l.any fun f => fge f hi || fle f lo
theorem decd_succ (lo hi : Nat) (l : List Nat) (k : Nat) (h : k < l.length) : decd lo hi (l.take (k + 1)) = (decd lo hi (l.take k) || (fge l[k] hi || fle l[k] lo)) := by
  unfold decd
  rw [List.take_succ_eq_append_getElem h, List.any_append]
  simp

/-- two samples that stand alike to the levels -/
def Alike2 (lo hi x y : Nat) : Prop := fge x hi = fge y hi ∧ fgt x lo = fgt y lo
theorem fle_not_fgt {x y : Nat} (h : fle x y = true) : fgt x y = false := by
  unfold fle at h
  unfold fgt
  cases ho : Ieee.single.order x y with
  | none => rfl
  | some o => cases o <;> simp [ho] at h ⊢

theorem dig_agree (lo hi : Nat) (u v : Bool) (R r : List Nat) (b : Nat) (hl : ∀ k (h : k < r.length), ∃ h2 : b + k < R.length, Alike2 lo hi R[b + k] r[k])
    (hlo : ∀ k (h : k < r.length), fle r[k] lo = true → fge r[k] hi = false) :
    ∀ k, k < r.length → decd lo hi (r.take (k + 1)) = true → digS lo hi u (R.take (b + k + 1)) = digS lo hi v (r.take (k + 1)) := by
  intro k
  induction k with
  | zero =>
    intro hk hd
    obtain ⟨h2, ha⟩ := hl 0 hk
    rw [digS_succ _ _ _ _ _ hk, digS_succ _ _ _ _ _ h2]
    rw [decd_succ _ _ _ _ hk] at hd
    unfold digV
    rw [ha.1, ha.2]
    have e0 : decd lo hi (r.take 0) = false := by simp [decd]
    rw [e0, Bool.false_or] at hd
    cases hg : fge r[0] hi
    · rw [hg, Bool.false_or] at hd
      rw [fle_not_fgt hd]
      simp
    · simp
  | succ k ih =>
    intro hk hd
    obtain ⟨h2, ha⟩ := hl (k + 1) hk
    rw [digS_succ _ _ _ _ _ hk, digS_succ _ _ _ _ _ h2]
    rw [decd_succ _ _ _ _ hk] at hd
    unfold digV
    rw [ha.1, ha.2]
    cases hg : fge r[k + 1] hi
    · rw [hg, Bool.false_or] at hd
      cases hf : fle r[k + 1] lo
      · rw [hf, Bool.or_false] at hd
        have := ih (by omega) hd
        rw [show b + (k + 1) = b + k + 1 from by omega, this]
      · rw [fle_not_fgt hf]
        simp
    · simp

/-- -0 as 0 -/
def posz (x : Nat) : Nat := if FloatKind.f32.format.order x 0 == some .eq then 0 else x
theorem fin_zero : fin Ieee.single 0 = true := by decide +kernel
theorem posz_fin {x : Nat} (h : fin Ieee.single x = true) : fin Ieee.single (posz x) = true := by
  unfold posz; split
  · exact fin_zero
  · exact h
theorem posz_key {x : Nat} (h : fin Ieee.single x = true) : key Ieee.single (posz x) = key Ieee.single x := by
  unfold posz
  split
  · rename_i ho
    have : feq x 0 = true := ho
    rw [feq_key h fin_zero] at this
    exact (of_decide_eq_true this).symm
  · rfl
theorem alike_posz {lo hi x : Nat} (h : fin Ieee.single x = true) (h1 : fin Ieee.single lo = true) (h2 : fin Ieee.single hi = true) : Alike2 lo hi x (posz x) := by
  refine ⟨?_, ?_⟩
  · rw [fge_key h h2, fge_key (posz_fin h) h2, posz_key h]
  · rw [fgt_key h h1, fgt_key (posz_fin h) h1, posz_key h]
theorem low_not_high {lo hi x : Nat} (h : fin Ieee.single x = true) (h1 : fin Ieee.single lo = true) (h2 : fin Ieee.single hi = true) (hlh : key Ieee.single lo < key Ieee.single hi) (hx : fle x lo = true) : fge x hi = false := by
  rw [fle_key h h1] at hx
  rw [fge_key h h2]
  have := of_decide_eq_true hx
  exact decide_eq_false (by omega)

/-! ### the words of lines -/
def wd : List (List Bool) → Nat → Nat
  | [], _ => 0
  | l :: t, i => (if l.getD i false then 1 else 0) + 2 * wd t i
theorem wd_snoc (ls : List (List Bool)) (l : List Bool) (i : Nat) : wd (ls ++ [l]) i = wd ls i + (if l.getD i false then 2 ^ ls.length else 0) := by
  induction ls with
  | nil => simp [wd]
  | cons a t ih =>
    rw [List.cons_append]
    unfold wd
    rw [ih, List.length_cons, Nat.pow_succ]
    by_cases h : l.getD i false = true
    · rw [if_pos h, if_pos h]; omega
    · rw [if_neg h, if_neg h]; omega
theorem wd_lt (ls : List (List Bool)) (i : Nat) : wd ls i < 2 ^ ls.length := by
  induction ls with
  | nil => simp [wd]
  | cons a t ih =>
    unfold wd
    rw [List.length_cons, Nat.pow_succ]
    split <;> omega
theorem wd_bit (ls : List (List Bool)) (i : Nat) : ∀ b, b < ls.length → wd ls i / 2 ^ b % 2 = if (ls.getD b []).getD i false then 1 else 0 := by
  induction ls with
  | nil => intro b hb; simp at hb
  | cons a t ih =>
    intro b hb
    unfold wd
    cases b with
    | zero =>
      rw [Nat.pow_zero, Nat.div_one]
      show _ = if a.getD i false = true then 1 else 0
      split <;> omega
    | succ b =>
      have hq : ((if a.getD i false = true then 1 else 0) + 2 * wd t i) / 2 ^ (b + 1) = wd t i / 2 ^ b := by
        have e2 : ((if a.getD i false = true then 1 else 0) + 2 * wd t i) / 2 = wd t i := by split <;> omega
        rw [show (2 : Nat) ^ (b + 1) = 2 * 2 ^ b from by rw [Nat.pow_succ]; omega, ← Nat.div_div_eq_div_mul, e2]
      rw [hq]
      exact ih b (by simpa using hb)

/-! ### the changes of a line -/
def chgB (b : Bool) (l : List Bool) (i : Nat) : Bool := l.getD i false != (if i = 0 then b else l.getD (i - 1) false)
def chg (b : Bool) (l : List Bool) (k : Nat) : List Nat := (List.range k).filter (chgB b l)
theorem chg_succ (b : Bool) (l : List Bool) (k : Nat) : chg b l (k + 1) = chg b l k ++ (if chgB b l k then [k] else []) := by
  unfold chg
  rw [List.range_succ, List.filter_append]
  congr 1
  cases h : chgB b l k <;> simp [h]
theorem chg_len (b : Bool) (l : List Bool) (k : Nat) : (chg b l k).length ≤ k := by
  have := List.length_filter_le (chgB b l) (List.range k)
  rwa [List.length_range] at this
theorem chg_split (b : Bool) (l : List Bool) (n k : Nat) (h : k ≤ n) : chg b l n = chg b l k ++ (List.range' k (n - k)).filter (chgB b l) := by
  unfold chg
  rw [← List.filter_append]
  congr 1
  rw [List.range_eq_range', List.range_eq_range']
  have := List.range'_append (s := 0) (m := k) (n := n - k) (step := 1)
  rw [show k + (n - k) = n from by omega] at this
  rw [← this]
  simp
/-- the time with the number of the changes so far: the next time, or a later one -/
theorem chg_next (b : Bool) (l : List Bool) (n k : Nat) (h : k < n) :
    (chgB b l k = true → (chg b l n)[(chg b l k).length]? = some k) ∧
    (chgB b l k = false → ∀ t, (chg b l n)[(chg b l k).length]? = some t → k < t) := by
  rw [chg_split b l n k (by omega)]
  have e : List.range' k (n - k) = k :: List.range' (k + 1) (n - k - 1) := by
    rw [show n - k = (n - k - 1) + 1 from by omega, List.range'_succ]
    simp
  rw [e, List.getElem?_append_right (Nat.le_refl _), Nat.sub_self]
  refine ⟨fun hc => ?_, fun hc t ht => ?_⟩
  · rw [List.filter_cons_of_pos hc]; rfl
  · rw [List.filter_cons_of_neg (by rw [hc]; decide)] at ht
    have hm := List.mem_of_getElem? ht
    have := (List.mem_filter.1 hm).1
    have := List.mem_range'_1.1 this
    omega
theorem chg_mem {b : Bool} {l : List Bool} {k t : Nat} (h : t ∈ chg b l k) : t < k := by
  have := (List.mem_filter.1 h).1
  exact List.mem_range.1 this
theorem chg_sorted (b : Bool) (l : List Bool) (k : Nat) : (chg b l k).Pairwise (· < ·) := List.Pairwise.filter _ List.pairwise_lt_range
theorem chg_lt (b : Bool) (l : List Bool) (k i j s t : Nat) (hij : i < j) (hi : (chg b l k)[i]? = some s) (hj : (chg b l k)[j]? = some t) : s < t := by
  have hp := chg_sorted b l k
  obtain ⟨h1, rfl⟩ := List.getElem?_eq_some_iff.1 hi
  obtain ⟨h2, rfl⟩ := List.getElem?_eq_some_iff.1 hj
  exact List.pairwise_iff_getElem.1 hp i j h1 h2 hij

end Go.Proofs.YtboaojkblmddkaaGreatDoor
