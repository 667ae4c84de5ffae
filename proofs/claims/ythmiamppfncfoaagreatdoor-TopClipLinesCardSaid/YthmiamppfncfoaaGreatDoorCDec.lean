/- Plain mathematics: the decimal text of a natural number, in chunks of 19 digits. No program. -/
import Derived.Lib.ItoaNum
namespace Go.Proofs.YthmiamppfncfoaaGreatDoor.Dec
open Go.Lib

/-- a digit -/
def dgt (n : Nat) : UInt8 := UInt8.ofNat (48 + n)
/-- the last k decimal digits of a number, with leading zeros -/
def pad : Nat → Nat → List UInt8
  | 0, _ => []
  | k + 1, r => pad k (r / 10) ++ [dgt (r % 10)]

theorem dec_lt {u : Nat} (h : u < 10) : decDigits u = [dgt u] := by rw [decDigits, dif_pos h]; rfl
theorem dec_ge {u : Nat} (h : ¬ u < 10) : decDigits u = decDigits (u / 10) ++ [dgt (u % 10)] := by rw [decDigits, dif_neg h]; rfl
theorem pad_length (k r : Nat) : (pad k r).length = k := by
  induction k generalizing r with
  | zero => rfl
  | succ k ih => simp [pad, ih]

theorem dec_append (k q r : Nat) (hq : 0 < q) (hr : r < 10 ^ k) : decDigits (q * 10 ^ k + r) = decDigits q ++ pad k r := by
  induction k generalizing r with
  | zero =>
    have : r = 0 := by simpa using hr
    subst this
    simp [pad]
  | succ k ih =>
    rw [Nat.pow_succ] at hr
    have hp : 0 < 10 ^ k := Nat.pow_pos (by omega)
    have h1 : ¬ q * 10 ^ (k + 1) + r < 10 := by
      rw [Nat.pow_succ]
      have : 1 * (10 ^ k * 10) ≤ q * (10 ^ k * 10) := Nat.mul_le_mul_right _ hq
      omega
    have h2 : (q * 10 ^ (k + 1) + r) / 10 = q * 10 ^ k + r / 10 := by
      rw [Nat.pow_succ, ← Nat.mul_assoc]; omega
    have h3 : (q * 10 ^ (k + 1) + r) % 10 = r % 10 := by
      rw [Nat.pow_succ, ← Nat.mul_assoc]; omega
    rw [dec_ge h1, h2, h3, ih (r / 10) (by omega), pad, List.append_assoc]

theorem pad_dec (k r : Nat) (hk : 0 < k) (hr : r < 10 ^ k) : pad k r = List.replicate (k - (decDigits r).length) 48 ++ decDigits r := by
  induction k generalizing r with
  | zero => omega
  | succ k ih =>
    rw [pad]
    rcases Nat.eq_zero_or_pos k with rfl | hk0
    · have h1 : r < 10 := by simpa using hr
      rw [dec_lt h1, Nat.mod_eq_of_lt h1]; simp [pad]
    · rw [Nat.pow_succ] at hr
      rw [ih (r / 10) hk0 (by omega)]
      by_cases h1 : r < 10
      · have h0 : r / 10 = 0 := by omega
        rw [h0, dec_lt h1, dec_lt (by omega : 0 < 10), Nat.mod_eq_of_lt h1]
        simp only [List.length_singleton, Nat.add_sub_cancel]
        have e : k = (k - 1) + 1 := by omega
        rw [show List.replicate k (48 : UInt8) = List.replicate (k - 1) 48 ++ [48] from by rw [← List.replicate_succ', ← e]]
        rfl
      · rw [dec_ge h1, List.length_append, List.length_singleton]
        have hl : (decDigits (r / 10)).length + 1 ≤ k + 1 ∨ True := .inr trivial
        rw [show k + 1 - ((decDigits (r / 10)).length + 1) = k - (decDigits (r / 10)).length from by omega, List.append_assoc]

theorem dec_length_le {k r : Nat} (hk : 0 < k) (hr : r < 10 ^ k) : (decDigits r).length ≤ k := by
  have h := congrArg List.length (pad_dec k r hk hr)
  rw [pad_length, List.length_append, List.length_replicate] at h
  omega
theorem dec_length_pos (r : Nat) : 0 < (decDigits r).length := by
  by_cases h : r < 10
  · rw [dec_lt h]; simp
  · rw [dec_ge h]; simp

/-- the chunk's base -/
def T : Nat := 10000000000000000000
theorem T_def : T = 10000000000000000000 := rfl
theorem T_pow : T = 10 ^ 19 := by decide
theorem T_pos : 0 < T := by decide

/-- one more chunk behind those that stand -/
theorem dec_chunk (x k : Nat) (hq : 0 < x / T ^ (k + 1)) :
    decDigits (x / T ^ k) = decDigits (x / T ^ (k + 1)) ++ (List.replicate (19 - (decDigits (x / T ^ k % T)).length) 48 ++ decDigits (x / T ^ k % T)) := by
  have h1 : x / T ^ (k + 1) = x / T ^ k / T := by rw [Nat.pow_succ, Nat.div_div_eq_div_mul]
  rw [h1] at hq ⊢
  generalize x / T ^ k = y at *
  have hr : y % T < 10 ^ 19 := by rw [← T_pow]; exact Nat.mod_lt _ T_pos
  rw [← pad_dec 19 (y % T) (by omega) hr, ← dec_append 19 (y / T) (y % T) hq hr, ← T_pow, Nat.mul_comm (y / T) T, Nat.div_add_mod]

/-- the chunks, the least first -/
def chunks (x k : Nat) : List Nat := (List.range k).map fun j => x / T ^ j % T
theorem chunks_length (x k : Nat) : (chunks x k).length = k := by simp [chunks]
theorem chunks_succ (x k : Nat) : chunks x (k + 1) = chunks x k ++ [x / T ^ k % T] := by simp [chunks, List.range_succ]
theorem chunks_get (x k j : Nat) (h : j < k) : (chunks x k).getD j 0 = x / T ^ j % T := by simp [chunks, List.getD, h]

end Go.Proofs.YthmiamppfncfoaaGreatDoor.Dec
