/- Plain lists: digital lines of samples, their changes, the words of lines. -/
import Derived.Test.YthmiamppfncfoaaGreatDoorCFlt
import Derived.Test.YthmiamppfncfoaaGreatDoorCWords
namespace Go.Proofs.YthmiamppfncfoaaGreatDoor
open Flt Bn

/-! ### digital lines -/
def digV (lo hi : Nat) (v : Bool) (x : Nat) : Bool := fge x hi || (v && fgt x lo)
def digS (lo hi : Nat) (v : Bool) (l : List Nat) : Bool := l.foldl (digV lo hi) v
/-- the line of samples: its value after each one -/
def digL (lo hi : Nat) (v : Bool) (l : List Nat) : List Bool := (List.range l.length).map fun i => digS lo hi v (l.take (i + 1))

theorem digS_succ (lo hi : Nat) (v : Bool) (l : List Nat) (k : Nat) (h : k < l.length) : digS lo hi v (l.take (k + 1)) = digV lo hi (digS lo hi v (l.take k)) l[k] := by
  unfold digS
  rw [List.take_succ_eq_append_getElem h, List.foldl_append]
  rfl
theorem digL_len (lo hi : Nat) (v : Bool) (l : List Nat) : (digL lo hi v l).length = l.length := by simp [digL]
theorem digL_at (lo hi : Nat) (v : Bool) (l : List Nat) (k : Nat) (h : k < l.length) : (digL lo hi v l)[k]? = some (digS lo hi v (l.take (k + 1))) := by
  simp [digL, h]
theorem digL_getD (lo hi : Nat) (v : Bool) (l : List Nat) (k : Nat) (h : k < l.length) : (digL lo hi v l).getD k false = digS lo hi v (l.take (k + 1)) := by
  rw [List.getD_eq_getElem?_getD, digL_at lo hi v l k h]; rfl

/-- has a sample decided the line -/
def decd (lo hi : Nat) (l : List Nat) : Bool := l.any fun f => fge f hi || fle f lo
theorem decd_succ (lo hi : Nat) (l : List Nat) (k : Nat) (h : k < l.length) : decd lo hi (l.take (k + 1)) = (decd lo hi (l.take k) || (fge l[k] hi || fle l[k] lo)) := by
  unfold decd
  rw [List.take_succ_eq_append_getElem h, List.any_append]
  simp

/-- two samples that stand alike to the levels -/
def Alike2 (lo hi x y : Nat) : Prop := fge x hi = fge y hi ∧ fgt x lo = fgt y lo
theorem fle_not_fgt {x y : Nat} (h : fle x y = true) : fgt x y = false := by
  unfold fle at h
  unfold fgt
  cases ho : Ieee.single.order x y with
  | none => rfl
  | some o => cases o <;> simp [ho] at h ⊢

theorem dig_agree (lo hi : Nat) (u v : Bool) (R r : List Nat) (b : Nat) (hl : ∀ k (h : k < r.length), ∃ h2 : b + k < R.length, Alike2 lo hi R[b + k] r[k])
    (hlo : ∀ k (h : k < r.length), fle r[k] lo = true → fge r[k] hi = false) :
    ∀ k, k < r.length → decd lo hi (r.take (k + 1)) = true → digS lo hi u (R.take (b + k + 1)) = digS lo hi v (r.take (k + 1)) := by
  intro k
  induction k with
  | zero =>
    intro hk hd
    obtain ⟨h2, ha⟩ := hl 0 hk
    rw [digS_succ _ _ _ _ _ hk, digS_succ _ _ _ _ _ h2]
    rw [decd_succ _ _ _ _ hk] at hd
    unfold digV
    rw [ha.1, ha.2]
    have e0 : decd lo hi (r.take 0) = false := by simp [decd]
    rw [e0, Bool.false_or] at hd
    cases hg : fge r[0] hi
    · rw [hg, Bool.false_or] at hd
      rw [fle_not_fgt hd]
      simp
    · simp
  | succ k ih =>
    intro hk hd
    obtain ⟨h2, ha⟩ := hl (k + 1) hk
    rw [digS_succ _ _ _ _ _ hk, digS_succ _ _ _ _ _ h2]
    rw [decd_succ _ _ _ _ hk] at hd
    unfold digV
    rw [ha.1, ha.2]
    cases hg : fge r[k + 1] hi
    · rw [hg, Bool.false_or] at hd
      cases hf : fle r[k + 1] lo
      · rw [hf, Bool.or_false] at hd
        have := ih (by omega) hd
        rw [show b + (k + 1) = b + k + 1 from by omega, this]
      · rw [fle_not_fgt hf]
        simp
    · simp

/-- -0 as 0 -/
def posz (x : Nat) : Nat := if FloatKind.f32.format.order x 0 == some .eq then 0 else x
theorem fin_zero : fin Ieee.single 0 = true := by decide +kernel
theorem posz_fin {x : Nat} (h : fin Ieee.single x = true) : fin Ieee.single (posz x) = true := by
  unfold posz; split
  · exact fin_zero
  · exact h
theorem posz_key {x : Nat} (h : fin Ieee.single x = true) : key Ieee.single (posz x) = key Ieee.single x := by
  unfold posz
  split
  · rename_i ho
    have : feq x 0 = true := ho
    rw [feq_key h fin_zero] at this
    exact (of_decide_eq_true this).symm
  · rfl
theorem alike_posz {lo hi x : Nat} (h : fin Ieee.single x = true) (h1 : fin Ieee.single lo = true) (h2 : fin Ieee.single hi = true) : Alike2 lo hi x (posz x) := by
  refine ⟨?_, ?_⟩
  · rw [fge_key h h2, fge_key (posz_fin h) h2, posz_key h]
  · rw [fgt_key h h1, fgt_key (posz_fin h) h1, posz_key h]
theorem low_not_high {lo hi x : Nat} (h : fin Ieee.single x = true) (h1 : fin Ieee.single lo = true) (h2 : fin Ieee.single hi = true) (hlh : key Ieee.single lo < key Ieee.single hi) (hx : fle x lo = true) : fge x hi = false := by
  rw [fle_key h h1] at hx
  rw [fge_key h h2]
  have := of_decide_eq_true hx
  exact decide_eq_false (by omega)

/-! ### the words of lines -/
def wd : List (List Bool) → Nat → Nat
  | [], _ => 0
  | l :: t, i => (if l.getD i false then 1 else 0) + 2 * wd t i
theorem wd_snoc (ls : List (List Bool)) (l : List Bool) (i : Nat) : wd (ls ++ [l]) i = wd ls i + (if l.getD i false then 2 ^ ls.length else 0) := by
  induction ls with
  | nil => simp [wd]
  | cons a t ih =>
    rw [List.cons_append]
    unfold wd
    rw [ih, List.length_cons, Nat.pow_succ]
    by_cases h : l.getD i false = true
    · rw [if_pos h, if_pos h]; omega
    · rw [if_neg h, if_neg h]; omega
theorem wd_lt (ls : List (List Bool)) (i : Nat) : wd ls i < 2 ^ ls.length := by
  induction ls with
  | nil => simp [wd]
  | cons a t ih =>
    unfold wd
    rw [List.length_cons, Nat.pow_succ]
    split <;> omega
theorem wd_bit (ls : List (List Bool)) (i : Nat) : ∀ b, b < ls.length → wd ls i / 2 ^ b % 2 = if (ls.getD b []).getD i false then 1 else 0 := by
  induction ls with
  | nil => intro b hb; simp at hb
  | cons a t ih =>
    intro b hb
    unfold wd
    cases b with
    | zero =>
      rw [Nat.pow_zero, Nat.div_one]
      show _ = if a.getD i false = true then 1 else 0
      split <;> omega
    | succ b =>
      have hq : ((if a.getD i false = true then 1 else 0) + 2 * wd t i) / 2 ^ (b + 1) = wd t i / 2 ^ b := by
        have e2 : ((if a.getD i false = true then 1 else 0) + 2 * wd t i) / 2 = wd t i := by split <;> omega
        rw [show (2 : Nat) ^ (b + 1) = 2 * 2 ^ b from by rw [Nat.pow_succ]; omega, ← Nat.div_div_eq_div_mul, e2]
      rw [hq]
      exact ih b (by simpa using hb)

/-! ### the changes of a line -/
def chgB (b : Bool) (l : List Bool) (i : Nat) : Bool := l.getD i false != (if i = 0 then b else l.getD (i - 1) false)
def chg (b : Bool) (l : List Bool) (k : Nat) : List Nat := (List.range k).filter (chgB b l)
theorem chg_succ (b : Bool) (l : List Bool) (k : Nat) : chg b l (k + 1) = chg b l k ++ (if chgB b l k then [k] else []) := by
  unfold chg
  rw [List.range_succ, List.filter_append]
  congr 1
  cases h : chgB b l k <;> simp [h]
theorem chg_len (b : Bool) (l : List Bool) (k : Nat) : (chg b l k).length ≤ k := by
  have := List.length_filter_le (chgB b l) (List.range k)
  rwa [List.length_range] at this
theorem chg_split (b : Bool) (l : List Bool) (n k : Nat) (h : k ≤ n) : chg b l n = chg b l k ++ (List.range' k (n - k)).filter (chgB b l) := by
  unfold chg
  rw [← List.filter_append]
  congr 1
  rw [List.range_eq_range', List.range_eq_range']
  have := List.range'_append (s := 0) (m := k) (n := n - k) (step := 1)
  rw [show k + (n - k) = n from by omega] at this
  rw [← this]
  simp
/-- the time with the number of the changes so far: the next time, or a later one -/
theorem chg_next (b : Bool) (l : List Bool) (n k : Nat) (h : k < n) :
    (chgB b l k = true → (chg b l n)[(chg b l k).length]? = some k) ∧
    (chgB b l k = false → ∀ t, (chg b l n)[(chg b l k).length]? = some t → k < t) := by
  rw [chg_split b l n k (by omega)]
  have e : List.range' k (n - k) = k :: List.range' (k + 1) (n - k - 1) := by
    rw [show n - k = (n - k - 1) + 1 from by omega, List.range'_succ]
    simp
  rw [e, List.getElem?_append_right (Nat.le_refl _), Nat.sub_self]
  refine ⟨fun hc => ?_, fun hc t ht => ?_⟩
  · rw [List.filter_cons_of_pos hc]; rfl
  · rw [List.filter_cons_of_neg (by rw [hc]; decide)] at ht
    have hm := List.mem_of_getElem? ht
    have := (List.mem_filter.1 hm).1
    have := List.mem_range'_1.1 this
    omega
theorem chg_mem {b : Bool} {l : List Bool} {k t : Nat} (h : t ∈ chg b l k) : t < k := by
  have := (List.mem_filter.1 h).1
  exact List.mem_range.1 this
theorem chg_sorted (b : Bool) (l : List Bool) (k : Nat) : (chg b l k).Pairwise (· < ·) := List.Pairwise.filter _ List.pairwise_lt_range
theorem chg_lt (b : Bool) (l : List Bool) (k i j s t : Nat) (hij : i < j) (hi : (chg b l k)[i]? = some s) (hj : (chg b l k)[j]? = some t) : s < t := by
  have hp := chg_sorted b l k
  obtain ⟨h1, rfl⟩ := List.getElem?_eq_some_iff.1 hi
  obtain ⟨h2, rfl⟩ := List.getElem?_eq_some_iff.1 hj
  exact List.pairwise_iff_getElem.1 hp i j h1 h2 hij

end Go.Proofs.YthmiamppfncfoaaGreatDoor
