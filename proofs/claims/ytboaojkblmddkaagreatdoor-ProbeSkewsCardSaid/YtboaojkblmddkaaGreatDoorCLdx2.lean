/- Contracts of math.Ldexp of a whole number of few bits. -/
import Derived.Test.YtboaojkblmddkaaGreatDoorCFlt
import Derived.Test.YtboaojkblmddkaaGreatDoorCNat1
import Derived.Test.YtboaojkblmddkaaGreatDoorCWords
namespace Go.Proofs.YtboaojkblmddkaaGreatDoor
open Go.RowKit
open Flt

theorem ord_not_gt {x y : Nat} (hx : fin Ieee.double x = true) (hy : fin Ieee.double y = true) (h : key Ieee.double x ≤ key Ieee.double y) : (FloatKind.f64.format.order x y == some .gt) = false := by
  show (Ieee.double.order x y == some .gt) = false
  rw [order_fin hx hy]
  generalize key Ieee.double x = a at h
  generalize key Ieee.double y = b at h
  rcases Int.lt_trichotomy a b with h1 | h1 | h1
  · rw [cmp_lt h1]; rfl
  · subst h1; rw [cmp_eq]; rfl
  · omega
theorem ord_not_lt {x y : Nat} (hx : fin Ieee.double x = true) (hy : fin Ieee.double y = true) (h : key Ieee.double y ≤ key Ieee.double x) : (FloatKind.f64.format.order x y == some .lt) = false := by
  show (Ieee.double.order x y == some .lt) = false
  rw [order_fin hx hy]
  generalize key Ieee.double x = a at h
  generalize key Ieee.double y = b at h
  rcases Int.lt_trichotomy a b with h1 | h1 | h1
  · omega
  · subst h1; rw [cmp_eq]; rfl
  · rw [cmp_gt h1]; rfl
theorem ord_not_eq {x y : Nat} (hx : fin Ieee.double x = true) (hy : fin Ieee.double y = true) (h : key Ieee.double x ≠ key Ieee.double y) : (FloatKind.f64.format.order x y == some .eq) = false := by
  show (Ieee.double.order x y == some .eq) = false
  rw [order_fin hx hy]
  generalize key Ieee.double x = a at h
  generalize key Ieee.double y = b at h
  rcases Int.lt_trichotomy a b with h1 | h1 | h1
  · rw [cmp_lt h1]; rfl
  · exact absurd h1 h
  · rw [cmp_gt h1]; rfl
theorem ord_self {x : Nat} (hx : fin Ieee.double x = true) : (FloatKind.f64.format.order x x != some .eq) = false := by
  show (Ieee.double.order x x != some .eq) = false
  rw [order_fin hx hx, cmp_eq]; rfl

theorem max_read : Ieee.double.read 9218868437227405311 = .number false 9007199254740991 971 := by decide +kernel
theorem min_read : Ieee.double.read 4503599627370496 = .number false 4503599627370496 (-1074) := by decide +kernel
theorem zero_read : Ieee.double.read 0 = .number false 0 (-1074) := by decide +kernel

theorem dn_word {n : Nat} {e : Int} (h0 : 0 < n) (h1 : n < 9007199254740992) (he : -1022 ≤ e + n.log2) (he2 : e + n.log2 ≤ 1023) :
    ∃ F : Nat, F < 4503599627370496 ∧ dn n e = (e + n.log2 + 1023).toNat * 4503599627370496 + F ∧ F = sg n - 4503599627370496 := by
  have hn := sg_nrm h0 h1 he he2
  have := hn.lo
  have := hn.hi
  refine ⟨sg n - 4503599627370496, by omega, ?_, rfl⟩
  unfold dn dw Ieee.Format.word
  rw [if_neg (by decide)]
  omega

theorem norm_dn {n : Nat} (h0 : 0 < n) (h1 : n < 9007199254740992) : Norm64 (dn n 0) ∧ dn n 0 / 9223372036854775808 = 0 ∧ dn n 0 / 4503599627370496 % 2048 = n.log2 + 1023 := by
  have e53 : (2 : Nat) ^ 53 = 9007199254740992 := by decide
  have a3 : n.log2 < 53 := (Nat.log2_lt (by omega)).2 (by omega)
  obtain ⟨F, hF, hw, _⟩ := dn_word (e := 0) h0 h1 (by omega) (by omega)
  have hlt : dn n 0 < 9223372036854775808 := by omega
  have hab : absB (dn n 0) = dn n 0 := Nat.mod_eq_of_lt hlt
  have f1 := fin_dn (e := 0) h0 h1 (by omega) (by omega)
  have k1 := key_dn (e := 0) h0 h1 (by omega) (by omega) (by omega)
  have f2 := fin_of_read max_read
  have k2 := key_of_read max_read
  have f3 := fin_of_read min_read
  have k3 := key_of_read min_read
  have f4 := fin_of_read zero_read
  have k4 := key_of_read zero_read
  rw [dbl_least] at k2 k3 k4
  have hp : ∀ k : Nat, 0 < 2 ^ k := fun k => Nat.two_pow_pos k
  refine ⟨⟨by omega, ord_not_eq f1 f4 ?_, ?_, ord_self f1, ?_⟩, by omega, by omega⟩
  · rw [k1, k4, Nat.zero_mul]
    have := Nat.mul_pos h0 (hp (0 + 1074 : Int).toNat)
    generalize n * 2 ^ (0 + 1074 : Int).toNat = A at this
    omega
  · rw [hab]
    refine ord_not_gt f1 f2 ?_
    rw [k1, k2]
    obtain ⟨a, ha⟩ : ∃ a : Nat, (0 + 1074 : Int).toNat = a ∧ (a : Int) = 1074 := ⟨_, rfl, by decide⟩
    obtain ⟨b, hb⟩ : ∃ b : Nat, (971 - -1074 : Int).toNat = b ∧ (b : Int) = 2045 := ⟨_, rfl, by decide⟩
    rw [ha.1, hb.1]
    have := Nat.mul_le_mul (show n ≤ 9007199254740991 by omega) (Nat.pow_le_pow_right (show 0 < 2 by decide) (show a ≤ b by omega))
    exact Int.ofNat_le.2 this
  · rw [hab]
    refine ord_not_lt f1 f3 ?_
    rw [k1, k3]
    obtain ⟨a, ha⟩ : ∃ a : Nat, (0 + 1074 : Int).toNat = a ∧ (a : Int) = 1074 := ⟨_, rfl, by decide⟩
    obtain ⟨b, hb⟩ : ∃ b : Nat, (-1074 - -1074 : Int).toNat = b ∧ (b : Int) = 0 := ⟨_, rfl, by decide⟩
    rw [ha.1, hb.1]
    have hb0 : b = 0 := by omega
    have e52 : (2 : Nat) ^ 52 = 4503599627370496 := by decide
    subst hb0
    rw [← e52, Nat.pow_zero, Nat.mul_one]
    have := Nat.mul_le_mul (show 1 ≤ n from h0) (Nat.pow_le_pow_right (show 0 < 2 by decide) (show 52 ≤ a by omega))
    rw [Nat.one_mul] at this
    exact Int.ofNat_le.2 this

theorem ldexp_dn {n : Nat} {e : Int} (w : World) (h0 : 0 < n) (h1 : n < 9007199254740992) (he : -1022 ≤ e + n.log2) (he2 : e + n.log2 ≤ 1023) :
    Calls Tryz.prog 135 #[.float .f64 (dn n 0), .int .i64 e] w fun e' w' => e' = .returned (.float .f64 (dn n e)) ∧ w = w' := by
  have e53 : (2 : Nat) ^ 53 = 9007199254740992 := by decide
  have a3 : n.log2 < 53 := (Nat.log2_lt (by omega)).2 (by omega)
  obtain ⟨hN, hs, hE⟩ := norm_dn h0 h1
  obtain ⟨F, hF, hw, hF2⟩ := dn_word (e := 0) h0 h1 (by omega) (by omega)
  obtain ⟨G, hG, hv, hG2⟩ := dn_word (e := e) h0 h1 he he2
  have hY : ldY (dn n 0) (e + n.log2) = dn n e := by
    unfold ldY
    rw [hs, hv]
    omega
  refine ldexp_in (dn n 0) e (e + n.log2) (dn n e) w hN (by omega) (by rw [hE]; omega) he he2 ?_
  rw [hY]
  exact one_mul false (sg_nrm h0 h1 he he2)

set_option maxRecDepth 100000 in
theorem inf_one (w : World) : Calls Tryz.prog 145 #[.int .i64 1] w fun e w' => e = .returned (.float .f64 9218868437227405312) ∧ w = w' := by
  have hf : ∀ W : World, (callFunc 168 #[.int .u64 (9218868437227405312 : Int)]).run Tryz.prog W = .ok (.value (.float .f64 9218868437227405312)) W := fun W => call_frombits 9218868437227405312 W
  go_enter Tryz.func145, Tryz.ntmps145
  go_wp2
  go_ret
  exact ⟨rfl, rfl⟩

set_option maxHeartbeats 1000000 in
set_option maxRecDepth 100000 in
theorem ldexp_over (x : Nat) (e m : Int) (w : World) (h : Norm64 x) (he : -9223372036854775808 ≤ e ∧ e < 9223372036854770000) (hm : m = e + ((x / 4503599627370496 % 2048 : Nat) : Int) - 1023) (hm1 : 1023 < m) (hp : (FloatKind.f64.format.order x 0 == some .lt) = false) :
    Calls Tryz.prog 135 #[.float .f64 x, .int .i64 e] w fun e w' => e = .returned (.float .f64 9218868437227405312) ∧ w = w' := by
  have hz := h.nz
  have hin := isInf_any x w h.lt
  rw [h.inf] at hin
  have hnn := isNaN_any x w
  rw [h.nan] at hnn
  have hno := normalize_any x w h
  have hcb := call_bits x
  have f1 : wrap64 ((x : Int) / 4503599627370496) = ((x / 4503599627370496 : Nat) : Int) := by
    have := h.lt
    rw [IntWalk.wrap64_in _ (by omega)]; rfl
  have f2 : bits BinOp.and IntKind.i64 ((x / 4503599627370496 : Nat) : Int) 2047 = ((x / 4503599627370496 % 2048 : Nat) : Int) := i64_and2047 _
  have hE : x / 4503599627370496 % 2048 < 2048 := Nat.mod_lt _ (by omega)
  have f4 : wrap64 e = e := IntWalk.wrap64_in _ (by omega)
  have f3 : wrap64 (((x / 4503599627370496 % 2048 : Nat) : Int) - 1023) = ((x / 4503599627370496 % 2048 : Nat) : Int) - 1023 := IntWalk.wrap64_in _ (by omega)
  have f5 : wrap64 (e + (((x / 4503599627370496 % 2048 : Nat) : Int) - 1023)) = m := by rw [IntWalk.wrap64_in _ (by omega)]; omega
  generalize x / 4503599627370496 % 2048 = E at *
  generalize x / 4503599627370496 = X at *
  have hin2 := Lib.hid hin
  clear hin hm he
  go_enter Tryz.func135, Tryz.ntmps135
  go_wp2_with fail
  refine hin2.out.mono ?_
  rintro e w1 ⟨rfl, rfl⟩
  go_wp2_with fail
  refine hnn.mono ?_
  rintro e w1 ⟨rfl, rfl⟩
  go_wp2_with fail
  refine hno.mono ?_
  rintro e w1 ⟨rfl, rfl⟩
  go_wp2_with fail
  refine (inf_one _).mono ?_
  rintro e w1 ⟨rfl, rfl⟩
  go_wp2_with fail
  go_ret
  exact ⟨rfl, rfl⟩

theorem ldexp_big {n : Nat} {e : Int} (w : World) (h0 : 0 < n) (h1 : n < 9007199254740992) (he2 : 1023 < e + n.log2) (he3 : e < 9223372036854770000) :
    Calls Tryz.prog 135 #[.float .f64 (dn n 0), .int .i64 e] w fun e' w' => e' = .returned (.float .f64 9218868437227405312) ∧ w = w' := by
  have e53 : (2 : Nat) ^ 53 = 9007199254740992 := by decide
  have a3 : n.log2 < 53 := (Nat.log2_lt (by omega)).2 (by omega)
  obtain ⟨hN, hs, hE⟩ := norm_dn h0 h1
  refine ldexp_over (dn n 0) e (e + n.log2) w hN (by omega) (by rw [hE]; omega) he2 ?_
  have f1 := fin_dn (e := 0) h0 h1 (by omega) (by omega)
  have k1 := key_dn (e := 0) h0 h1 (by omega) (by omega) (by omega)
  have f4 := fin_of_read zero_read
  have k4 := key_of_read zero_read
  refine ord_not_lt f1 f4 ?_
  rw [k1, k4, Nat.zero_mul]
  generalize n * 2 ^ (0 + 1074 : Int).toNat = A
  omega

theorem zero_eq : (FloatKind.f64.format.order 0 0 == some .eq) = true := by decide +kernel

theorem ldexp_zero {e : Int} (w : World) : Calls Tryz.prog 135 #[.float .f64 0, .int .i64 e] w fun e' w' => e' = .returned (.float .f64 0) ∧ w = w' := by
  have hz := zero_eq
  go_enter Tryz.func135, Tryz.ntmps135
  go_wp2
  go_ret
  exact ⟨rfl, rfl⟩

theorem Ldexp_any {x r : Nat} {e : Int} (w : World) (h : Calls Tryz.prog 135 #[.float .f64 x, .int .i64 e] w fun e' w' => e' = .returned (.float .f64 r) ∧ w = w') :
    Calls Tryz.prog 116 #[.float .f64 x, .int .i64 e] w fun e' w' => e' = .returned (.float .f64 r) ∧ w = w' := by
  have h2 := Lib.hid h
  clear h
  go_enter Tryz.func116, Tryz.ntmps116
  go_wp2_with fail
  refine h2.out.mono ?_
  rintro e w1 ⟨rfl, rfl⟩
  go_wp2_with fail
  go_ret
  exact ⟨rfl, rfl⟩

end Go.Proofs.YtboaojkblmddkaaGreatDoor

/- Contracts of math.Frexp, and the doubles that hold a single. -/
namespace Go.Proofs.YtboaojkblmddkaaGreatDoor
open Go.RowKit
open Flt
set_option maxHeartbeats 60000

theorem i_dw (s : Bool) {m : Nat} {p : Int} (h : Nrm m p) : ∃ F R : Nat, F < 4503599627370496 ∧ m = 4503599627370496 + F ∧ (R : Int) = p + 1075 ∧ R < 2047 ∧ dw s m p = s.toNat * 9223372036854775808 + R * 4503599627370496 + F := by
  have := h.lo; have := h.hi; have := h.p0; have := h.p1
  refine ⟨m - 4503599627370496, (p + 1075).toNat, by omega, by omega, by omega, by omega, ?_⟩
  unfold dw Ieee.Format.word
  rw [dbl_sign]
  cases s
  · rw [if_neg (by decide)]; show _ = 0 * _ + _ + _; omega
  · rw [if_pos rfl]; show _ = 1 * _ + _ + _; omega

theorem key_pos {f : Ieee.Format} {b m : Nat} {s : Bool} {p : Int} (h : f.read b = .number s m p) (hm : 0 < m) : key f b ≠ 0 := by
  unfold key; rw [h]
  simp only [Ieee.signed, Nat.shiftLeft_eq]
  have := Nat.mul_pos hm (Nat.two_pow_pos (p - f.leastPlace).toNat)
  generalize m * 2 ^ (p - f.leastPlace).toNat = A at this
  split <;> omega

theorem norm_dw (s : Bool) {m : Nat} {p : Int} (h : Nrm m p) : Norm64 (dw s m p) := by
  have hlo := h.lo; have hhi := h.hi; have hp0 := h.p0; have hp1 := h.p1
  obtain ⟨F, R, hF, hm, hR, hR2, hw⟩ := i_dw s h
  obtain ⟨F', R', hF', hm', hR', hR2', hw'⟩ := i_dw false h
  have hs : s.toNat ≤ 1 := by cases s <;> decide
  have hab : absB (dw s m p) = dw false m p := by
    have : false.toNat = 0 := rfl
    rw [this] at hw'
    unfold absB
    omega
  have f1 := fin_of_read (read_dw s h)
  have f1' := fin_of_read (read_dw false h)
  have k1 := key_of_read (read_dw false h)
  have f2 := fin_of_read max_read
  have k2 := key_of_read max_read
  have f3 := fin_of_read min_read
  have k3 := key_of_read min_read
  have f4 := fin_of_read zero_read
  have k4 := key_of_read zero_read
  rw [dbl_least] at k1 k2 k3 k4
  refine ⟨by omega, ord_not_eq f1 f4 ?_, ?_, ord_self f1, ?_⟩
  · rw [k4, Nat.zero_mul]; exact key_pos (read_dw s h) (by omega)
  · rw [hab]
    refine ord_not_gt f1' f2 ?_
    rw [k1, k2]
    obtain ⟨a, ha⟩ : ∃ a : Nat, (p - -1074 : Int).toNat = a ∧ (a : Int) = p + 1074 := ⟨_, rfl, by omega⟩
    obtain ⟨b, hb⟩ : ∃ b : Nat, (971 - -1074 : Int).toNat = b ∧ (b : Int) = 2045 := ⟨_, rfl, by decide⟩
    rw [ha.1, hb.1]
    have := Nat.mul_le_mul (show m ≤ 9007199254740991 by omega) (Nat.pow_le_pow_right (show 0 < 2 by decide) (show a ≤ b by omega))
    exact Int.ofNat_le.2 this
  · rw [hab]
    refine ord_not_lt f1' f3 ?_
    rw [k1, k3]
    obtain ⟨a, ha⟩ : ∃ a : Nat, (p - -1074 : Int).toNat = a ∧ (a : Int) = p + 1074 := ⟨_, rfl, by omega⟩
    obtain ⟨b, hb⟩ : ∃ b : Nat, (-1074 - -1074 : Int).toNat = b ∧ (b : Int) = 0 := ⟨_, rfl, by decide⟩
    rw [ha.1, hb.1]
    have hb0 : b = 0 := by omega
    subst hb0
    have := Nat.mul_le_mul hlo (Nat.pow_le_pow_right (show 0 < 2 by decide) (show 0 ≤ a by omega))
    exact Int.ofNat_le.2 this

theorem u64_and2047 (n : Nat) (h : n < 18446744073709551616) : bits BinOp.and IntKind.u64 (n : Int) 2047 = ((n % 2048 : Nat) : Int) := by
  have := u64_and_nat n 2047 h (by omega)
  rw [show n &&& 2047 = n % 2048 from Nat.and_two_pow_sub_one_eq_mod n 11] at this
  exact this

set_option maxHeartbeats 200000 in
set_option maxRecDepth 100000 in
theorem frexp_in (x Y : Nat) (m : Int) (w : World) (h : Norm64 x) (hm : m = ((x / 4503599627370496 % 2048 : Nat) : Int) - 1022)
    (hY : Y = x % 4503599627370496 + x / 9223372036854775808 * 9223372036854775808 + 4602678819172646912) :
    Calls Tryz.prog 187 #[.float .f64 x] w fun e w' => e = .returned (.tuple #[.float .f64 Y, .int .i64 m]) ∧ w = w' := by
  have hz := h.nz
  have hin := isInf_any x w h.lt
  rw [h.inf] at hin
  have hnn := isNaN_any x w
  rw [h.nan] at hnn
  have hno := normalize_any x w h
  have hcb := call_bits x
  have hlt := h.lt
  have f2 := u64_and2047 (x / 4503599627370496) (by omega)
  have f0 : ((x / 4503599627370496 : Nat) : Int) = (x : Int) / 4503599627370496 := by omega
  rw [f0] at f2
  have hE : x / 4503599627370496 % 2048 < 2048 := Nat.mod_lt _ (by omega)
  have f3 : wrap64 (((x / 4503599627370496 % 2048 : Nat) : Int) - 1023) = ((x / 4503599627370496 % 2048 : Nat) : Int) - 1023 := IntWalk.wrap64_in _ (by omega)
  have f4 : wrap64 (((x / 4503599627370496 % 2048 : Nat) : Int) - 1023 + 1) = m := by rw [IntWalk.wrap64_in _ (by omega)]; omega
  have f5 : wrap64 m = m := IntWalk.wrap64_in _ (by omega)
  have f8 : wrap64 ((x / 4503599627370496 % 2048 : Nat) : Int) = ((x / 4503599627370496 % 2048 : Nat) : Int) := IntWalk.wrap64_in _ (by omega)
  have f6 := andNot_exp x h.lt
  obtain ⟨k, hk⟩ : ∃ k : Nat, k = 1022 := ⟨_, rfl⟩
  have f7 := or_exp x k h.lt (by omega)
  have f9 : ((k * 4503599627370496 : Nat) : Int) = 4602678819172646912 := by omega
  have f10 : x % 4503599627370496 + x / 9223372036854775808 * 9223372036854775808 + k * 4503599627370496 = Y := by omega
  rw [f10, f9] at f7
  clear hk f9 f10
  generalize x % 4503599627370496 + x / 9223372036854775808 * 9223372036854775808 = F at f6 f7
  have hfb := call_frombits Y
  generalize x / 4503599627370496 % 2048 = E at *
  have hin2 := Lib.hid hin
  have HM : Hid ((E : Int) - 1023 + 1 = m) := by rw [hm]; show (E : Int) - 1023 + 1 = (E : Int) - 1022; omega
  clear hin hm hY f0
  go_enter Tryz.func187, Tryz.ntmps187
  go_wp2_with fail
  refine hin2.out.mono ?_
  rintro e w1 ⟨rfl, rfl⟩
  go_wp2_with fail
  refine hnn.mono ?_
  rintro e w1 ⟨rfl, rfl⟩
  go_wp2_with fail
  refine hno.mono ?_
  rintro e w1 ⟨rfl, rfl⟩
  go_upto_region 7 with fail
  have F6 := Lib.hid f6
  have F7 := Lib.hid f7
  clear f6 f7 hz hnn hno hin2 hcb h hlt
  have HFB := Lib.hid hfb
  clear hfb
  go_upto_region 8 with fail
  clear f2 f3 f8
  have f6 := F6.out
  have f7 := F7.out
  have hfb := HFB.out
  go_wp2_with fail
  go_ret2
  exact ⟨by rw [← HM.out]; rfl, rfl⟩

/-- Frexp of a normal double -/
theorem frexp_dw (s : Bool) {m : Nat} {p : Int} (w : World) (h : Nrm m p) :
    Calls Tryz.prog 187 #[.float .f64 (dw s m p)] w fun e w' => e = .returned (.tuple #[.float .f64 (dw s m (-53)), .int .i64 (p + 53)]) ∧ w = w' := by
  have hN := norm_dw s h
  obtain ⟨F, R, hF, hm, hR, hR2, hw⟩ := i_dw s h
  obtain ⟨F', R', hF', hm', hR', hR2', hw'⟩ := i_dw (m := m) (p := -53) s ⟨h.lo, h.hi, by omega, by omega⟩
  have hs : s.toNat ≤ 1 := by cases s <;> decide
  exact frexp_in (dw s m p) (dw s m (-53)) (p + 53) w hN (by omega) (by omega)

theorem Frexp_of {x r : Nat} {i : Int} (w : World) (h : Calls Tryz.prog 187 #[.float .f64 x] w fun e w' => e = .returned (.tuple #[.float .f64 r, .int .i64 i]) ∧ w = w') :
    Calls Tryz.prog 147 #[.float .f64 x] w fun e w' => e = .returned (.tuple #[.float .f64 r, .int .i64 i]) ∧ w = w' := by
  have h2 := Lib.hid h
  clear h
  go_enter Tryz.func147, Tryz.ntmps147
  go_wp2_with fail
  refine h2.out.mono ?_
  rintro e w1 ⟨rfl, rfl⟩
  go_wp2_with fail
  go_ret2
  exact ⟨rfl, rfl⟩

theorem frexp_zero (x : Nat) (w : World) (hz : (FloatKind.f64.format.order x 0 == some .eq) = true) :
    Calls Tryz.prog 187 #[.float .f64 x] w fun e w' => e = .returned (.tuple #[.float .f64 x, .int .i64 0]) ∧ w = w' := by
  go_enter Tryz.func187, Tryz.ntmps187
  go_wp2_with fail
  go_ret2
  exact ⟨rfl, rfl⟩

end Go.Proofs.YtboaojkblmddkaaGreatDoor

/- Plain mathematics: shifts of words. -/
namespace Go.Proofs.YtboaojkblmddkaaGreatDoor.Bn

theorem B_two : B = 2 ^ 64 := by decide
theorem B_split (r : Nat) (h : r ≤ 64) : B = 2 ^ r * 2 ^ (64 - r) := by rw [B_two, ← Nat.pow_add]; congr 1; omega
theorem shr_eq (f r : Nat) (h : r ≤ 64) : f / 2 ^ (64 - r) = f * 2 ^ r / B := by
  rw [B_split r h, Nat.mul_comm f, Nat.mul_div_mul_left _ _ (Nat.two_pow_pos r)]
theorem shl_mod (f r : Nat) (h : r ≤ 64) : f * 2 ^ r % B = 2 ^ r * (f % 2 ^ (64 - r)) := by
  rw [B_split r h, Nat.mul_comm f, Nat.mul_mod_mul_left]
theorem shl_le (f r : Nat) (h : r ≤ 64) : f * 2 ^ r % B + 2 ^ r ≤ B := by
  have h1 : f % 2 ^ (64 - r) + 1 ≤ 2 ^ (64 - r) := Nat.mod_lt _ (Nat.two_pow_pos _)
  have h2 := Nat.mul_le_mul_left (2 ^ r) h1
  rw [← B_split r h, Nat.mul_add, Nat.mul_one] at h2
  rw [shl_mod f r h]
  exact h2
theorem shr_lt (f r : Nat) (h : r ≤ 64) (hf : f < B) : f / 2 ^ (64 - r) < 2 ^ r := by
  rw [Nat.div_lt_iff_lt_mul (Nat.two_pow_pos _), ← B_split r h]
  exact hf

theorem shl_round (l la : List Nat) (i p r f o : Nat) (hk : i + p + 1 < l.length) (hr : r ≤ 64) (hf : la.getD i 0 = f) (ho : l.getD (i + p) 0 = o) (hz : l.getD (i + p + 1) 0 = 0)
    (hinv : val l = val (la.take i) * 2 ^ r * B ^ p) :
    val ((l.set (i + p) (o + f * 2 ^ r % B)).set (i + p + 1) (f / 2 ^ (64 - r))) = val (la.take (i + 1)) * 2 ^ r * B ^ p := by
  have h1 := val_set l (i + p) (o + f * 2 ^ r % B) (by omega)
  have h2 := val_set (l.set (i + p) (o + f * 2 ^ r % B)) (i + p + 1) (f / 2 ^ (64 - r)) (by simpa using hk)
  rw [lgetD_set_ne _ _ _ _ (by omega), hz, Nat.mul_zero, Nat.add_zero] at h2
  rw [ho, Nat.mul_add] at h1
  have h3 : B ^ (i + p + 1) * (f / 2 ^ (64 - r)) + B ^ (i + p) * (f * 2 ^ r % B) = B ^ (i + p) * (f * 2 ^ r) := by
    rw [shr_eq f r hr, Nat.pow_succ, Nat.mul_assoc, ← Nat.mul_add, Nat.div_add_mod]
  have h4 : val (la.take (i + 1)) * 2 ^ r * B ^ p = val (la.take i) * 2 ^ r * B ^ p + B ^ (i + p) * (f * 2 ^ r) := by
    rw [val_take_getD, hf, Nat.add_mul, Nat.add_mul, Nat.pow_add]
    congr 1
    rw [Nat.mul_assoc (B ^ i) f, Nat.mul_assoc (B ^ i), Nat.mul_comm (f * 2 ^ r) (B ^ p), ← Nat.mul_assoc]
  rw [h4, h2]
  generalize B ^ (i + p + 1) * (f / 2 ^ (64 - r)) = a1 at *
  generalize B ^ (i + p) * (f * 2 ^ r % B) = a2 at *
  generalize B ^ (i + p) * (f * 2 ^ r) = a3 at *
  generalize B ^ (i + p) * o = a4 at *
  generalize val (la.take i) * 2 ^ r * B ^ p = a5 at *
  omega

theorem shl_done (x s p r : Nat) (h : s = 64 * p + r) : x * 2 ^ r * B ^ p = x * 2 ^ s := by
  rw [h, B_two, ← Nat.pow_mul, Nat.mul_assoc, ← Nat.pow_add]
  congr 2
  omega

/-- one round of shift: what the k-th word of the target gets -/
theorem shr_word (z z' r : Nat) (hr : r < 64) (hz : z < B) : z / 2 ^ r + z' * 2 ^ (64 - r) % B < B ∧
    (z / 2 ^ r + z' * 2 ^ (64 - r) % B) * 2 ^ r + z % 2 ^ r = z + B * (z' % 2 ^ r) := by
  have e : z' * 2 ^ (64 - r) % B = 2 ^ (64 - r) * (z' % 2 ^ r) := by
    have := shl_mod z' (64 - r) (by omega)
    rwa [show 64 - (64 - r) = r from by omega] at this
  have h1 : z / 2 ^ r < 2 ^ (64 - r) := by
    rw [Nat.div_lt_iff_lt_mul (Nat.two_pow_pos _), Nat.mul_comm, ← B_split r (by omega)]; exact hz
  have h2 : z' % 2 ^ r + 1 ≤ 2 ^ r := Nat.mod_lt _ (Nat.two_pow_pos _)
  have h3 := Nat.mul_le_mul_left (2 ^ (64 - r)) h2
  have h4 := B_split r (by omega)
  rw [Nat.mul_comm] at h4
  rw [← h4, Nat.mul_add, Nat.mul_one] at h3
  rw [e]
  refine ⟨by omega, ?_⟩
  have h5 : 2 ^ (64 - r) * (z' % 2 ^ r) * 2 ^ r = B * (z' % 2 ^ r) := by
    rw [h4, Nat.mul_assoc, Nat.mul_assoc, Nat.mul_comm (z' % 2 ^ r)]
  have h6 := Nat.div_add_mod z (2 ^ r)
  rw [Nat.add_mul, h5, Nat.mul_comm (z / 2 ^ r)]
  omega

theorem shr_round (l la : List Nat) (p k r t : Nat) (hk : k < l.length) (hr : r < 64) (hw : Wf la)
    (ht : t = la.getD (p + k) 0 / 2 ^ r + la.getD (p + k + 1) 0 * 2 ^ (64 - r) % B)
    (hinv : val (l.take k) * 2 ^ r + la.getD p 0 % 2 ^ r = val ((la.drop p).take k) + B ^ k * (la.getD (p + k) 0 % 2 ^ r)) :
    val ((l.set k t).take (k + 1)) * 2 ^ r + la.getD p 0 % 2 ^ r = val ((la.drop p).take (k + 1)) + B ^ (k + 1) * (la.getD (p + (k + 1)) 0 % 2 ^ r) := by
  have h1 := (shr_word (la.getD (p + k) 0) (la.getD (p + k + 1) 0) r hr (getD_lt hw _)).2
  rw [← ht] at h1
  have hd : (la.drop p).getD k 0 = la.getD (p + k) 0 := by simp [List.getD, List.getElem?_drop]
  rw [val_take_set l k t hk, val_take_getD, hd, Nat.add_mul, ← Nat.add_assoc p k 1]
  have h2 : B ^ k * t * 2 ^ r + B ^ k * (la.getD (p + k) 0 % 2 ^ r) = B ^ k * la.getD (p + k) 0 + B ^ (k + 1) * (la.getD (p + k + 1) 0 % 2 ^ r) := by
    rw [Nat.pow_succ, Nat.mul_assoc, Nat.mul_assoc, ← Nat.mul_add, ← Nat.mul_add, h1]
  generalize B ^ k * t * 2 ^ r = a1 at *
  generalize B ^ k * (la.getD (p + k) 0 % 2 ^ r) = a2 at *
  generalize B ^ k * la.getD (p + k) 0 = a3 at *
  generalize B ^ (k + 1) * (la.getD (p + k + 1) 0 % 2 ^ r) = a4 at *
  generalize val (l.take k) * 2 ^ r = a5 at *
  omega

theorem val_drop_div {l : List Nat} (hw : Wf l) (p : Nat) (hp : p ≤ l.length) : val (l.drop p) = val l / B ^ p := by
  have h := val_split l p hp
  have h2 := val_lt (hw.take p)
  rw [List.length_take, Nat.min_eq_left hp] at h2
  rw [h, Nat.add_mul_div_left _ _ (Nat.pow_pos B_pos), Nat.div_eq_of_lt h2, Nat.zero_add]

theorem shr_done (l la : List Nat) (x s p r m : Nat) (h : s = 64 * p + r) (hla : la = digs x) (hp : p ≤ la.length) (hm : m = la.length - p)
    (hinv : val (l.take m) * 2 ^ r + la.getD p 0 % 2 ^ r = val ((la.drop p).take m) + B ^ m * (la.getD (p + m) 0 % 2 ^ r)) : val (l.take m) = x / 2 ^ s := by
  subst hla
  rw [getD_out (l := digs x) (k := p + m) (by omega), Nat.zero_mod, Nat.mul_zero, Nat.add_zero, List.take_of_length_le (l := (digs x).drop p) (by rw [List.length_drop]; omega), val_drop_div (wf_digs x) p hp, val_digs] at hinv
  have e : x / 2 ^ s = x / B ^ p / 2 ^ r := by
    rw [Nat.div_div_eq_div_mul, h, B_two, ← Nat.pow_mul, ← Nat.pow_add]
  have hlt := Nat.mod_lt ((digs x).getD p 0) (Nat.two_pow_pos r)
  rw [e, ← hinv, Nat.mul_comm, Nat.mul_add_div (Nat.two_pow_pos r), Nat.div_eq_of_lt hlt, Nat.add_zero]

theorem shr_gone (x s p : Nat) (h : 64 * p ≤ s) (hp : (digs x).length ≤ p) : x / 2 ^ s = 0 := by
  rw [Nat.div_eq_zero_iff]
  right
  have h1 := lt_of_digs_length x
  have h2 : B ^ (digs x).length ≤ B ^ p := Nat.pow_le_pow_right B_pos hp
  have h3 : B ^ p ≤ 2 ^ s := by rw [B_two, ← Nat.pow_mul]; exact Nat.pow_le_pow_right (by omega) h
  omega

/-! ### how often 2 divides -/
def ntz (n : Nat) : Nat := if n = 0 then 0 else if n % 2 = 1 then 0 else ntz (n / 2) + 1
termination_by n
decreasing_by
  rename_i h _
  omega
theorem ntz_odd (m : Nat) : ntz (2 * m + 1) = 0 := by
  rw [ntz, if_neg (by omega), if_pos (by omega)]
theorem ntz_two {n : Nat} (h : 0 < n) : ntz (2 * n) = ntz n + 1 := by
  rw [ntz, if_neg (by omega), if_neg (by omega), Nat.mul_div_cancel_left _ (by omega)]
theorem ntz_pow (t m : Nat) : ntz (2 ^ t * (2 * m + 1)) = t := by
  induction t with
  | zero => rw [Nat.pow_zero, Nat.one_mul, ntz_odd]
  | succ t ih =>
    rw [Nat.pow_succ, Nat.mul_comm (2 ^ t) 2, Nat.mul_assoc, ntz_two (Nat.mul_pos (Nat.two_pow_pos _) (by omega)), ih]
theorem ntz_spec {n : Nat} (h : 0 < n) : ∃ m, n = 2 ^ ntz n * (2 * m + 1) := by
  induction n using Nat.strongRecOn with
  | ind n ih =>
    rcases Nat.mod_two_eq_zero_or_one n with h0 | h1
    · obtain ⟨m, hm⟩ := ih (n / 2) (by omega) (by omega)
      refine ⟨m, ?_⟩
      have e : n = 2 * (n / 2) := by omega
      have e2 : ntz n = ntz (n / 2) + 1 := by rw [e, ntz_two (by omega)]; congr 2; omega
      rw [e2, Nat.pow_succ, Nat.mul_comm (2 ^ _) 2, Nat.mul_assoc, ← hm]
      omega
    · refine ⟨n / 2, ?_⟩
      have e : ntz n = 0 := by rw [ntz, if_neg (by omega), if_pos h1]
      rw [e]
      omega

/-! ### the number of bits -/
def nbits (n : Nat) : Nat := if n = 0 then 0 else Nat.log2 n + 1
theorem nbits_eq {n k : Nat} (h1 : 2 ^ k ≤ n) (h2 : n < 2 ^ (k + 1)) : nbits n = k + 1 := by
  have hn : n ≠ 0 := by have := Nat.two_pow_pos k; omega
  rw [nbits, if_neg hn]
  congr 1
  have a := Nat.log2_self_le hn
  have b := Nat.lt_log2_self (n := n)
  have c : ¬ k + 1 ≤ n.log2 := fun hh => by have := Nat.pow_le_pow_right (n := 2) (by omega) hh; omega
  have d : ¬ n.log2 + 1 ≤ k := fun hh => by have := Nat.pow_le_pow_right (n := 2) (by omega) hh; omega
  omega
theorem lt_nbits (n : Nat) : n < 2 ^ nbits n := by
  by_cases h : n = 0
  · subst h; simp [nbits]
  · rw [nbits, if_neg h]; exact Nat.lt_log2_self
theorem nbits_le {n : Nat} (h : 0 < n) : 2 ^ (nbits n - 1) ≤ n := by
  rw [nbits, if_neg (by omega), Nat.add_sub_cancel]; exact Nat.log2_self_le (by omega)
theorem nbits_pos {n : Nat} (h : 0 < n) : 0 < nbits n := by rw [nbits, if_neg (by omega)]; omega

theorem val_zero_take {l : List Nat} : ∀ (i : Nat), (∀ j, j < i → l.getD j 0 = 0) → val (l.take i) = 0
  | 0, _ => by simp
  | i + 1, h => by rw [val_take_getD, val_zero_take i (fun j hj => h j (by omega)), h i (by omega), Nat.mul_zero]
theorem top_word {x : Nat} (hx : 0 < x) (i : Nat) (hi : i < (digs x).length) (hz : ∀ j, j < i → (digs x).getD j 0 = 0) (h0 : (digs x).getD i 0 = 0) : i + 1 < (digs x).length := by
  rcases Nat.lt_or_ge (i + 1) (digs x).length with h | h
  · exact h
  · exfalso
    have e := val_zero_take (l := digs x) (i + 1) (fun j hj => by
      rcases Nat.lt_or_ge j i with h1 | h1
      · exact hz j h1
      · obtain rfl : j = i := by omega
        exact h0)
    rw [List.take_of_length_le h, val_digs] at e
    omega
theorem val_at {x : Nat} (i : Nat) (hi : i < (digs x).length) : x = val ((digs x).take i) + B ^ i * ((digs x).getD i 0 + B * val ((digs x).drop (i + 1))) := by
  have h := val_split (digs x) i (by omega)
  rw [val_digs, List.drop_eq_getElem_cons hi, val_cons, ← getD_in hi] at h
  exact h
theorem ntz_words {x : Nat} (hx : 0 < x) (i : Nat) (hi : i < (digs x).length) (hz : ∀ j, j < i → (digs x).getD j 0 = 0) (z m c : Nat) (hg : (digs x).getD i 0 = z) (hm : z = 2 ^ c * (2 * m + 1)) (hc : c < 64) :
    ntz x = 64 * i + c := by
  have _ := hx
  have h := val_at i hi
  rw [val_zero_take i hz, Nat.zero_add, hg, hm] at h
  generalize val ((digs x).drop (i + 1)) = y at h
  have e : 2 ^ c * (2 * m + 1) + B * y = 2 ^ c * (2 * (m + 2 ^ (63 - c) * y) + 1) := by
    have hb : B = 2 ^ c * (2 * 2 ^ (63 - c)) := by
      rw [B_two, ← Nat.pow_succ', ← Nat.pow_add]
      congr 1
      omega
    rw [hb, Nat.mul_assoc, ← Nat.mul_add, Nat.mul_add 2 m, Nat.mul_assoc 2]
    congr 1
    omega
  rw [e, B_two, ← Nat.pow_mul, ← Nat.mul_assoc, ← Nat.pow_add] at h
  rw [h, ntz_pow]
theorem nbits_words {x : Nat} (hx : 0 < x) (i : Nat) (hi : i + 1 = (digs x).length) (z b : Nat) (hg : (digs x).getD i 0 = z) (hb : 1 ≤ b) (h1 : 2 ^ (b - 1) ≤ z) (h2 : z < 2 ^ b) :
    nbits x = 64 * i + b := by
  have _ := hx
  have h := val_at (x := x) i (by omega)
  rw [hg, List.drop_of_length_le (by omega), val_nil, Nat.mul_zero, Nat.add_zero] at h
  have h3 := val_lt ((wf_digs x).take i)
  rw [List.length_take, Nat.min_eq_left (by omega)] at h3
  generalize val ((digs x).take i) = y at *
  have h4 : B ^ i * z + B ^ i ≤ B ^ i * 2 ^ b := by
    have := Nat.mul_le_mul_left (B ^ i) h2
    rwa [Nat.mul_succ] at this
  have h5 := Nat.mul_le_mul_left (B ^ i) h1
  have e : B ^ i = 2 ^ (64 * i) := by rw [B_two, ← Nat.pow_mul]
  rw [e, ← Nat.pow_add] at h4 h5
  rw [e] at h h3
  rw [show 64 * i + b = 64 * i + b - 1 + 1 from by omega]
  apply nbits_eq
  · rw [show 64 * i + b - 1 = 64 * i + (b - 1) from by omega]; omega
  · rw [show 64 * i + b - 1 + 1 = 64 * i + b from by omega]; omega

end Go.Proofs.YtboaojkblmddkaaGreatDoor.Bn
