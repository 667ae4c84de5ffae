/- Contracts of package rational's naturals, the leaves: trimmed, isZero, word, compare. -/
import Derived.Test.YtboaojkblmddkaaGreatDoorCNat1
import Derived.Test.YtboaojkblmddkaaGreatDoorCDw
namespace Go.Proofs.YtboaojkblmddkaaGreatDoor
open Go.RowKit

/-- the slice (A, n, c) reads as the natural number x, in words of nine digits -/
structure NatD (w : World) (B : Nat) (A : Option Addr) (n c : Nat) (x : Nat) : Prop where
  words : WordsAt w B A n (Dn.digs x)
  nc : n ≤ c
  cm : c ≤ maxLen

section
variable {w w' : World} {B B' n c x : Nat} {A : Option Addr}
theorem NatD.len (h : NatD w B A n c x) : (Dn.digs x).length = n := h.words.len
theorem NatD.below (h : NatD w B A n c x) (hb : Below B w w') : NatD w' B A n c x := ⟨h.words.below hb, h.nc, h.cm⟩
theorem NatD.more (h : NatD w B A n c x) (hB : B ≤ B') : NatD w B' A n c x := ⟨h.words.more hB, h.nc, h.cm⟩
theorem NatD.later (h : NatD w w.heap.size A n c x) (hb : Below w.heap.size w w') : NatD w' w'.heap.size A n c x := (h.below hb).more hb.size
theorem NatD.alloc (h : NatD w w.heap.size A n c x) (o : Obj) : NatD (w.alloc o) (w.heap.size + 1) A n c x := ⟨(h.words.alloc (Nat.le_refl _) o).more (by omega), h.nc, h.cm⟩
theorem NatD.zero (w : World) (B : Nat) : NatD w B none 0 0 0 := ⟨by rw [Dn.digs_zero]; exact Reads.none_, Nat.le_refl _, Nat.zero_le _⟩
end

/-- what a function that returns a natural number says -/
def RetD (w : World) (x : Nat) (e : Ending) (w' : World) : Prop := ∃ A m c, e = .returned (.slice A m c) ∧ NatD w' w'.heap.size A m c x ∧ Below w.heap.size w w'

/-- .. in a block of its own -/
def RetDs (w : World) (x : Nat) (e : Ending) (w' : World) : Prop := ∃ g m c, e = .returned (.slice (some ⟨g, 0, none⟩) m c) ∧ w.heap.size ≤ g ∧ NatD w' w'.heap.size (some ⟨g, 0, none⟩) m c x ∧ Below w.heap.size w w'
theorem RetDs.ret {w w' : World} {x : Nat} {e : Ending} (h : RetDs w x e w') : RetD w x e w' := by
  obtain ⟨g, m, c, h1, _, h2, h3⟩ := h
  exact ⟨_, m, c, h1, h2, h3⟩

section
open Dn
set_option maxHeartbeats 400000 in
theorem dtrimmed_any (B : Nat) (A : Option Addr) (n c : Nat) (l : List Nat) (w : World) (hr : WordsAt w B A n l) (hw : Wf l) (hnc : n ≤ c) (hc : c ≤ maxLen) :
    Calls Tryz.prog 158 #[.slice A n c] w fun e w' => ∃ m, e = .returned (.slice A m c) ∧ m ≤ n ∧ l.take m = digs (val l) ∧ w = w' := by
  unfold maxLen at hc
  have hl := hr.len
  go_enter Tryz.func158, Tryz.ntmps158
  go_wp2
  go_loop [3] (fun s => ∃ k : Nat, k ≤ n ∧ s = .int .i64 k ∧ Hid (∀ j (h : j < l.length), k ≤ j → l[j] = 0)) (fun s => (intOf s).toNat)
  case atStart => exact ⟨n, Nat.le_refl _, rfl, fun j h h' => by omega⟩
  case round =>
    obtain ⟨k, hk, rfl, hz⟩ := hrel
    by_cases h0 : 0 < k
    · obtain ⟨ad, rfl, hb, hcell⟩ := hr.word (k := k - 1) (by omega)
      have hkl : k - 1 < l.length := by omega
      have hgd : l.getD (k - 1) 0 = l[k - 1] := by simp [List.getD, hkl]
      by_cases hx : l[k - 1] = 0
      · rw [hgd, hx] at hcell
        have HX := Lib.hid hx
        clear hx hgd
        go_wp2
        go_round
        case rel =>
          refine ⟨k - 1, by omega, by go_num, ?_⟩
          intro j h hj
          rcases Nat.lt_or_ge j k with h1 | h1
          · obtain rfl : j = k - 1 := by omega
            exact HX.out
          · exact hz.out j h h1
        case measure => simp [intOf]; omega
      · rw [hgd] at hcell
        have HX := Lib.hid hx
        clear hx hgd
        generalize hg : l[k - 1] = x at hcell
        have hx0 : (((x : Nat) : Int) == 0) = false := by
          have := HX.out; rw [hg] at this
          rw [beq_eq_false_iff_ne]; omega
        have HG := Lib.hid hg
        clear hg
        go_wp2
        go_ret
        refine ⟨k, rfl, hk, ?_, rfl⟩
        refine take_trim hw k (by omega) (fun j h hj => hz.out j h hj) (fun h _ => HX.out)
    · go_wp2
      go_ret
      refine ⟨k, rfl, hk, ?_, rfl⟩
      exact take_trim hw k (by omega) (fun j h hj => hz.out j h hj) (fun h h1 => absurd h1 h0)
theorem dtrimmed_nat (A : Option Addr) (n c : Nat) (l : List Nat) (w : World) (hr : WordsAt w w.heap.size A n l) (hw : Wf l) (hnc : n ≤ c) (hc : c ≤ maxLen) :
    Calls Tryz.prog 158 #[.slice A n c] w fun e w' => ∃ m, e = .returned (.slice A m c) ∧ NatD w w.heap.size A m c (val l) ∧ w = w' :=
  (dtrimmed_any w.heap.size A n c l w hr hw hnc hc).mono fun e w' ⟨m, he, hm, ht, hww⟩ => ⟨m, he, ⟨by
    have h := hr.take hm
    rw [← List.map_take, ht] at h
    exact h, by omega, hc⟩, hww⟩

theorem disZero_any (A : Option Addr) (n c : Nat) (w : World) (hn : n ≤ maxLen) :
    Calls Tryz.prog 129 #[.slice A n c] w fun e w' => e = .returned (.bool ((n : Int) == 0)) ∧ w = w' := by
  unfold maxLen at hn
  go_enter Tryz.func129, Tryz.ntmps129
  go_wp2
  go_ret
  exact ⟨rfl, rfl⟩

set_option maxHeartbeats 400000 in
theorem dword_in (A : Option Addr) (n c : Nat) (l : List Nat) (k : Nat) (B : Nat) (w : World) (hr : WordsAt w B A n l) (hn : n ≤ 1099511627776) (hk : k < n) :
    Calls Tryz.prog 189 #[.slice A n c, .int .i64 (k : Int)] w fun e w' => e = .returned (.int .u64 ((l.getD k 0 : Nat) : Int)) ∧ w = w' := by
  obtain ⟨ad, rfl, hb, hc⟩ := hr.word (k := k) hk
  generalize l.getD k 0 = x at *
  have d1 : decide (((k : Nat) : Int) < 0) = false := by simp
  have d2 : decide (((n : Nat) : Int) ≤ ((k : Nat) : Int)) = false := by simp; omega
  have d3 : decide (n ≤ k) = false := by simp; omega
  go_enter Tryz.func189, Tryz.ntmps189
  go_wp2
  go_ret
  exact ⟨rfl, rfl⟩
set_option maxHeartbeats 400000 in
theorem dword_out (A : Option Addr) (n c : Nat) (i : Int) (w : World) (hn : n ≤ 1099511627776) (hi : i < 0 ∨ (n : Int) ≤ i) :
    Calls Tryz.prog 189 #[.slice A n c, .int .i64 i] w fun e w' => e = .returned (.int .u64 0) ∧ w = w' := by
  by_cases h0 : i < 0
  · have d1 : decide (i < 0) = true := by simp; omega
    go_enter Tryz.func189, Tryz.ntmps189
    go_wp2
    go_ret
    exact ⟨rfl, rfl⟩
  · have d1 : decide (i < 0) = false := by simp; omega
    have d2 : decide (((n : Nat) : Int) ≤ i) = true := by simp; omega
    go_enter Tryz.func189, Tryz.ntmps189
    go_wp2
    go_ret
    exact ⟨rfl, rfl⟩
/-- a word, or 0 where there is none -/
theorem dword_any (A : Option Addr) (n c : Nat) (l : List Nat) (i : Int) (B : Nat) (w : World) (hr : WordsAt w B A n l) (hn : n ≤ 1099511627776) :
    Calls Tryz.prog 189 #[.slice A n c, .int .i64 i] w fun e w' => e = .returned (.int .u64 ((if 0 ≤ i then l.getD i.toNat 0 else 0 : Nat) : Int)) ∧ w = w' := by
  have hl := hr.len
  by_cases h0 : 0 ≤ i
  · rw [if_pos h0]
    obtain ⟨k, rfl⟩ := Int.eq_ofNat_of_zero_le h0
    by_cases hk : k < n
    · exact dword_in A n c l k B w hr hn hk
    · have h := dword_out A n c (k : Int) w hn (.inr (by omega))
      have e : l.getD ((k : Nat) : Int).toNat 0 = 0 := getD_out (by simp; omega)
      rw [e]
      exact h
  · rw [if_neg h0]
    exact dword_out A n c i w hn (.inl (by omega))

theorem dword_nat (A : Option Addr) (n c : Nat) (l : List Nat) (k : Nat) (B : Nat) (w : World) (hr : WordsAt w B A n l) (hn : n ≤ 1099511627776) :
    Calls Tryz.prog 189 #[.slice A n c, .int .i64 (k : Int)] w fun e w' => e = .returned (.int .u64 ((l.getD k 0 : Nat) : Int)) ∧ w = w' :=
  (dword_any A n c l k B w hr hn).mono fun e w' ⟨he, hw⟩ => ⟨by rw [he, if_pos (by omega)]; simp, hw⟩

set_option maxHeartbeats 1000000 in
theorem dcompare_any (A A' : Option Addr) (n c n' c' x y : Nat) (w : World) (ha : NatD w w.heap.size A n c x) (hb : NatD w w.heap.size A' n' c' y) (hn : n ≤ 1099511627776) (hn' : n' ≤ 1099511627776) :
    Calls Tryz.prog 154 #[.slice A n c, .slice A' n' c'] w fun e w' => e = .returned (.int .i64 (Bn.ncmp x y)) ∧ w = w' := by
  have hla := ha.len
  have hlb := hb.len
  have hout : ∀ j, n ≤ j → n' ≤ j → (digs x).getD j 0 = (digs y).getD j 0 := fun j hj hj' => by rw [getD_out (by omega), getD_out (by omega)]
  have HO := Lib.hid hout
  obtain ⟨N, hN1, hN2, hN3⟩ : ∃ N, n ≤ N ∧ n' ≤ N ∧ N ≤ 1099511627776 := ⟨max n n', by omega, by omega, by omega⟩
  clear hla hlb hout
  rcases Decidable.em (n < n') with hle | hle
  all_goals
    go_enter Tryz.func154, Tryz.ntmps154
    go_wp2
    go_loopw [5] (fun s wr => ∃ k : Nat, k ≤ N ∧ s = .int .i64 ((k : Int) - 1) ∧ Hid (∀ j, k ≤ j → (digs x).getD j 0 = (digs y).getD j 0) ∧ wr = w) (fun s _ => (intOf s + 1).toNat)
    case atStart => first | exact ⟨n', by omega, rfl, fun j hj => HO.out j (by omega) (by omega), rfl⟩ | exact ⟨n, by omega, rfl, fun j hj => HO.out j (by omega) (by omega), rfl⟩
    case round =>
      obtain ⟨k, hk, rfl, hz, hwr⟩ := hrel
      obtain rfl : w = wr := hwr.symm
      clear hwr
      by_cases h0 : 0 < k
      · obtain ⟨i, rfl⟩ : ∃ i : Nat, k = i + 1 := ⟨k - 1, by omega⟩
        have e1 : ((i + 1 : Nat) : Int) - 1 = (i : Int) := by omega
        rw [e1]
        have K1 := Lib.hid (dword_nat A n c (digs x) i _ w ha.words hn)
        have K2 := Lib.hid (dword_nat A' n' c' (digs y) i _ w hb.words hn')
        have hx := getD_lt (wf_digs x) i
        have hy := getD_lt (wf_digs y) i
        obtain ⟨xk, hgx⟩ : ∃ xk, (digs x).getD i 0 = xk := ⟨_, rfl⟩
        obtain ⟨yk, hgy⟩ : ∃ yk, (digs y).getD i 0 = yk := ⟨_, rfl⟩
        have HX := Lib.hid hgx
        have HY := Lib.hid hgy
        rw [hgx] at K1 hx
        rw [hgy] at K2 hy
        clear hgx hgy e1
        rcases Nat.lt_trichotomy xk yk with hlt | heq | hgt
        · have hr : Bn.ncmp x y = -1 := Bn.ncmp_lt (lt_getD i (fun j hj => hz.out j (by omega)) (by rw [HX.out, HY.out]; exact hlt))
          have HR := Lib.hid hr
          have d1 : decide (xk < yk) = true := by simpa using hlt
          clear hr
          go_wp2_with fail
          refine K1.out.mono ?_
          rintro e w1 ⟨rfl, rfl⟩
          go_wp2_with fail
          refine K2.out.mono ?_
          rintro e w1 ⟨rfl, rfl⟩
          go_wp2
          go_ret
          exact ⟨by rw [HR.out]; rfl, rfl⟩
        · subst heq
          have HZ : Hid (∀ j, i ≤ j → (digs x).getD j 0 = (digs y).getD j 0) := fun j hj => by
            rcases Nat.lt_or_ge i j with h1 | h1
            · exact hz.out j (by omega)
            · obtain rfl : j = i := by omega
              rw [HX.out, HY.out]
          have d1 : decide (xk < xk) = false := by simp
          go_wp2_with fail
          refine K1.out.mono ?_
          rintro e w1 ⟨rfl, rfl⟩
          go_wp2_with fail
          refine K2.out.mono ?_
          rintro e w1 ⟨rfl, rfl⟩
          go_wp2_with fail
          refine K1.out.mono ?_
          rintro e w1 ⟨rfl, rfl⟩
          go_wp2_with fail
          refine K2.out.mono ?_
          rintro e w1 ⟨rfl, rfl⟩
          go_wp2
          go_roundw
          case rel => exact ⟨i, by omega, rfl, HZ.out, trivial⟩
          case measure => simp [intOf] <;> omega
        · have hr : Bn.ncmp x y = 1 := Bn.ncmp_gt (lt_getD i (fun j hj => (hz.out j (by omega)).symm) (by rw [HX.out, HY.out]; exact hgt))
          have HR := Lib.hid hr
          have d1 : decide (xk < yk) = false := by simp; omega
          have d2 : decide (yk < xk) = true := by simpa using hgt
          clear hr
          go_wp2_with fail
          refine K1.out.mono ?_
          rintro e w1 ⟨rfl, rfl⟩
          go_wp2_with fail
          refine K2.out.mono ?_
          rintro e w1 ⟨rfl, rfl⟩
          go_wp2_with fail
          refine K1.out.mono ?_
          rintro e w1 ⟨rfl, rfl⟩
          go_wp2_with fail
          refine K2.out.mono ?_
          rintro e w1 ⟨rfl, rfl⟩
          go_wp2
          go_ret
          exact ⟨by rw [HR.out]; rfl, rfl⟩
      · obtain rfl : k = 0 := by omega
        have hr : Bn.ncmp x y = 0 := by rw [eq_getD (fun j => hz.out j (Nat.zero_le _))]; exact Bn.ncmp_eq _
        have HR := Lib.hid hr
        clear hr
        go_wp2
        go_ret
        exact ⟨by rw [HR.out]; rfl, rfl⟩
end
end Go.Proofs.YtboaojkblmddkaaGreatDoor

/- Contracts of package rational's naturals: plus, minus. -/
namespace Go.Proofs.YtboaojkblmddkaaGreatDoor
open Go.RowKit Dn

/-- what holds at the head of a round of plus -/
def DPlusInv (w wr : World) (N : Nat) (la lb : List Nat) (k c0 : Nat) : Prop :=
  ∃ ls, RowAt wr w.heap.size w.heap.size N N ls ∧ Wf ls ∧ val (ls.take k) + B ^ k * c0 = val (la.take k) + val (lb.take k) ∧ Below w.heap.size w wr

theorem dsum_lt {x y n n' N : Nat} (h : (digs x).length = n) (h' : (digs y).length = n') (h1 : n ≤ N) (h2 : n' ≤ N) : x + y < B ^ (N + 1) := by
  have hx := lt_of_digs_length x
  have hy := lt_of_digs_length y
  rw [h] at hx
  rw [h'] at hy
  have h3 : B ^ n ≤ B ^ N := Nat.pow_le_pow_right B_pos h1
  have h4 : B ^ n' ≤ B ^ N := Nat.pow_le_pow_right B_pos h2
  have h5 : B ^ N * 2 ≤ B ^ N * B := Nat.mul_le_mul_left _ B_gt1
  rw [Nat.pow_succ]
  omega
theorem no_carry {v p c s : Nat} (h : v + p * c = s) (hs : s < p) : c = 0 ∧ v = s := by
  rcases Nat.eq_zero_or_pos c with rfl | hc
  · simpa using h
  · have : p * 1 ≤ p * c := Nat.mul_le_mul_left _ hc
    omega

set_option maxHeartbeats 2000000 in
set_option maxRecDepth 100000 in
theorem dplus_any (A A' : Option Addr) (n c n' c' x y : Nat) (w : World) (ha : NatD w w.heap.size A n c x) (hb : NatD w w.heap.size A' n' c' y) (hn : n ≤ 1099511627776) (hn' : n' ≤ 1099511627776) :
    Calls Tryz.prog 153 #[.slice A n c, .slice A' n' c'] w (RetD w (x + y)) := by
  obtain ⟨i0, hi0, hz0, hz1, hz2⟩ := info_parts info_u64
  have hN4 : ∃ N, N = max n n' ∧ n ≤ N ∧ n' ≤ N ∧ N ≤ 1099511627776 := ⟨max n n', rfl, by omega, by omega, by omega⟩
  rcases Decidable.em (n < n') with hle | hle
  case' inl => obtain ⟨N, rfl⟩ : ∃ N, N = n' := ⟨_, rfl⟩
  case' inr => obtain ⟨N, rfl⟩ : ∃ N, N = n := ⟨_, rfl⟩
  all_goals
    have hN3 : N ≤ 1099511627776 := by omega
    have hsum := dsum_lt (N := N) ha.len hb.len (by omega) (by omega)
    have hla := ha.len
    have hlb := hb.len
    have hta : (digs x).take (N + 1) = digs x := List.take_of_length_le (by omega)
    have htb : (digs y).take (N + 1) = digs y := List.take_of_length_le (by omega)
    have HTA := Lib.hid hta
    have HTB := Lib.hid htb
    have HSUM := Lib.hid hsum
    clear hN4 hla hlb hta htb hsum
    go_enter Tryz.func153, Tryz.ntmps153
    go_wp2_with (at_make; refine wpList_make_full _ rfl _ _ 151 rfl w.heap.size 199 i0 (.int .u64 0) 1 Tryz.underlying151 hi0 hz0 hz1 _ _ _ _ (N + 1) rfl rfl (by omega) (by omega) ?b2 ?b3 (Nat.le_refl _) ?_)
    case b2 => rw [hz2]; omega
    case b3 => unfold maxLen; omega
    intro w0 hown0 hgrow0
    have hrow0 := RowAt.made hown0
    have hbel0 : Below w.heap.size w w0 := (Below.refl _ _).grown hgrow0 (Nat.le_refl _) (fun k h => by cases h)
    clear hown0
    go_wp2
    clear hgrow0
    go_loopw [6, 17] (fun cy s wr => ∃ k c0 : Nat, k ≤ N + 1 ∧ c0 ≤ 1 ∧ s = .int .i64 k ∧ cy = .int .u64 c0 ∧ DPlusInv w wr (N + 1) (digs x) (digs y) k c0) (fun _ s _ => N + 1 - (intOf s).toNat)
    case atStart => exact ⟨0, 0, by omega, by omega, rfl, rfl, _, hrow0, Wf.replicate _, by simp, hbel0⟩
    case round =>
      obtain ⟨k, c0, hk, hc0, rfl, rfl, ls, hrow, hwf, hval, hbel⟩ := hrel
      have HV := Lib.hid hval
      clear hval
      by_cases hkn : k < N + 1
      · have K1 := Lib.hid (dword_nat A _ c (digs x) k _ wr (ha.below hbel).words hn)
        have K2 := Lib.hid (dword_nat A' _ c' (digs y) k _ wr (hb.below hbel).words hn')
        have hls : k < ls.length := by rw [hrow.len]; omega
        have hcs := hrow.cell k (by omega)
        have hfs := hrow.free k
        have hxB := getD_lt (wf_digs x) k
        have hyB := getD_lt (wf_digs y) k
        obtain ⟨xk, hgx⟩ : ∃ xk, (digs x).getD k 0 = xk := ⟨_, rfl⟩
        obtain ⟨yk, hgy⟩ : ∃ yk, (digs y).getD k 0 = yk := ⟨_, rfl⟩
        rw [hgx] at K1 hxB
        rw [hgy] at K2 hyB
        generalize ls.getD k 0 = old at hcs
        obtain ⟨t, ht⟩ : ∃ t, t = c0 + (xk + yk) := ⟨_, rfl⟩
        obtain ⟨s, hs⟩ : ∃ s, s = t % B := ⟨_, rfl⟩
        obtain ⟨d, hd⟩ : ∃ d, d = t / B := ⟨_, rfl⟩
        have hsB : s < B := by rw [hs]; exact Nat.mod_lt _ B_pos
        have hd1 : d ≤ 1 := by rw [hd]; unfold B; omega
        have HP : Hid (val ((ls.set k s).take (k + 1)) + B ^ (k + 1) * d = val ((digs x).take (k + 1)) + val ((digs y).take (k + 1))) :=
          plus_round ls _ _ k hls s c0 d HV.out (by rw [hgx, hgy, hs, hd, Nat.mod_add_div, ht]; omega)
        have ht2 : t < 4000000000 := by omega
        have es : ((t : Nat) : Int) % 1000000000 = (s : Int) := by rw [hs]; unfold B; omega
        have ed : ((t : Nat) : Int) / 1000000000 = (d : Int) := by rw [hd]; unfold B; omega
        have et : (c0 : Int) + ((xk : Int) + (yk : Int)) = (t : Int) := by omega
        clear hgx hgy hs hd ht
        have hrow' := Lib.hid (hrow.set k s)
        have hwf' := Lib.hid (hwf.set k hsB)
        go_wp2_with fail
        refine K1.out.mono ?_
        rintro e w1 ⟨rfl, rfl⟩
        go_wp2_with fail
        refine K2.out.mono ?_
        rintro e w1 ⟨rfl, rfl⟩
        go_wp2
        go_roundw
        case rel => exact ⟨k + 1, d, by omega, hd1, by go_num, rfl, _, hrow'.out, hwf'.out, HP.out, hbel.setCell (Nat.le_refl _) _⟩
        case measure => simp [intOf] <;> omega
      · obtain rfl : k = N + 1 := by omega
        have h1 := HV.out
        rw [HTA.out, HTB.out, val_digs, val_digs, List.take_of_length_le (by rw [hrow.len]; omega)] at h1
        have hv := (no_carry h1 HSUM.out).2
        have ht := dtrimmed_nat (some ⟨w.heap.size, 0, none⟩) (N + 1) (N + 1) ls wr hrow.words hwf (Nat.le_refl _) (by unfold maxLen; omega)
        rw [hv] at ht
        have HT := Lib.hid ht
        clear ht hv h1
        go_wp2_with fail
        refine HT.out.mono ?_
        rintro e w1 ⟨m, rfl, hn1, rfl⟩
        go_wp2
        go_ret
        exact ⟨_, m, _, rfl, hn1, hbel⟩

/-- what holds at the head of a round of minus -/
def DMinusInv (w wr : World) (N : Nat) (la lb : List Nat) (k b0 : Nat) : Prop :=
  ∃ ls, RowAt wr w.heap.size w.heap.size N N ls ∧ Wf ls ∧ val (ls.take k) + val (lb.take k) = val (la.take k) + B ^ k * b0 ∧ Below w.heap.size w wr

set_option maxHeartbeats 2000000 in
set_option maxRecDepth 100000 in
theorem dminus_own (A A' : Option Addr) (n c n' c' x y : Nat) (w : World) (ha : NatD w w.heap.size A n c x) (hb : NatD w w.heap.size A' n' c' y) (hyx : y ≤ x) (hn : n ≤ 1099511627776) (hn' : n' ≤ 1099511627776) :
    Calls Tryz.prog 155 #[.slice A n c, .slice A' n' c'] w (RetDs w (x - y)) := by
  obtain ⟨i0, hi0, hz0, hz1, hz2⟩ := info_parts info_u64
  have hla := ha.len
  have hlb := hb.len
  have hle : n' ≤ n := by rw [← hla, ← hlb]; exact digs_length_mono hyx
  have hta : (digs x).take n = digs x := List.take_of_length_le (by omega)
  have htb : (digs y).take n = digs y := List.take_of_length_le (by omega)
  have hxB : x < B ^ n := by have := lt_of_digs_length x; rwa [hla] at this
  have HTA := Lib.hid hta
  have HTB := Lib.hid htb
  have HXB := Lib.hid hxB
  clear hla hlb hta htb hxB
  go_enter Tryz.func155, Tryz.ntmps155
  go_wp2_with (at_make; refine wpList_make_full _ rfl _ _ 151 rfl w.heap.size 199 i0 (.int .u64 0) 1 Tryz.underlying151 hi0 hz0 hz1 _ _ _ _ n rfl rfl (by omega) (by omega) ?b2 ?b3 (Nat.le_refl _) ?_)
  case b2 => rw [hz2]; omega
  case b3 => unfold maxLen; omega
  intro w0 hown0 hgrow0
  have hrow0 := RowAt.made hown0
  have hbel0 : Below w.heap.size w w0 := (Below.refl _ _).grown hgrow0 (Nat.le_refl _) (fun k h => by cases h)
  clear hown0
  go_wp2
  clear hgrow0
  go_loopw [6, 14] (fun cy s wr => ∃ k b0 : Nat, k ≤ n ∧ b0 ≤ 1 ∧ s = .int .i64 k ∧ cy = .int .u64 b0 ∧ DMinusInv w wr n (digs x) (digs y) k b0) (fun _ s _ => n - (intOf s).toNat)
  case atStart => exact ⟨0, 0, by omega, by omega, rfl, rfl, _, hrow0, Wf.replicate _, by simp, hbel0⟩
  case round =>
    obtain ⟨k, b0, hk, hb0, rfl, rfl, ls, hrow, hwf, hval, hbel⟩ := hrel
    have HV := Lib.hid hval
    clear hval
    by_cases hkn : k < n
    · obtain ⟨ad, rfl, hba, hca⟩ := (ha.below hbel).words.word (k := k) hkn
      have K2 := Lib.hid (fun q => dword_nat A' n' c' (digs y) k _ (wr.drewN q) (hb.below hbel).words hn')
      have hls : k < ls.length := by rw [hrow.len]; omega
      have hcs := hrow.cell k (by omega)
      have hfs := hrow.free k
      have hxB := getD_lt (wf_digs x) k
      have hyB := getD_lt (wf_digs y) k
      obtain ⟨xk, hgx⟩ : ∃ xk, (digs x).getD k 0 = xk := ⟨_, rfl⟩
      obtain ⟨yk, hgy⟩ : ∃ yk, (digs y).getD k 0 = yk := ⟨_, rfl⟩
      rw [hgx] at hca hxB
      rw [hgy] at K2 hyB
      generalize ls.getD k 0 = old at hcs
      obtain ⟨t, ht⟩ : ∃ t, t = 1000000000 + xk - yk - b0 := ⟨_, rfl⟩
      obtain ⟨s, hs⟩ : ∃ s, s = t % B := ⟨_, rfl⟩
      obtain ⟨d, hd⟩ : ∃ d, d = 1 - t / B := ⟨_, rfl⟩
      have hsB : s < B := by rw [hs]; exact Nat.mod_lt _ B_pos
      have hd1 : d ≤ 1 := by rw [hd]; exact Nat.sub_le _ _
      have ht2 : t < 2000000000 := by omega
      have HP : Hid (val ((ls.set k s).take (k + 1)) + val ((digs y).take (k + 1)) = val ((digs x).take (k + 1)) + B ^ (k + 1) * d) :=
        minus_round ls _ _ k hls s b0 d HV.out (by rw [hgx, hgy, hs, hd]; unfold B; omega)
      have es : ((t : Nat) : Int) % 1000000000 = (s : Int) := by rw [hs]; unfold B; omega
      have eq : ((t : Nat) : Int) / 1000000000 = 1 - (d : Int) := by rw [hd]; unfold B; omega
      have ed : (1 : Int) - (1 - (d : Int)) = (d : Int) := by omega
      have e1 : IntKind.u64.wrap (1000000000 + (xk : Int)) = 1000000000 + (xk : Int) := IntWalk.u64_in _ (by omega)
      have e2 : IntKind.u64.wrap (1000000000 + (xk : Int) - (yk : Int)) = 1000000000 + (xk : Int) - (yk : Int) := IntWalk.u64_in _ (by omega)
      have e3 : IntKind.u64.wrap (1000000000 + (xk : Int) - (yk : Int) - (b0 : Int)) = (t : Int) := by rw [IntWalk.u64_in _ (by omega)]; omega
      have hp1 : (0 : Int) ≤ (k : Int) := by omega
      have hp2 : (k : Int) < (n : Int) := by omega
      clear hgx hgy hs hd ht
      have hrow' := Lib.hid (hrow.set k s)
      have hwf' := Lib.hid (hwf.set k hsB)
      go_upto_region 6 with (fail)
      go_quiet ((go_at_call 189; exact quiet_left (K2.out _)))
      clear e1 e2 e3
      go_wp2
      go_roundw
      case rel => exact ⟨k + 1, d, by omega, hd1, by go_num, rfl, _, hrow'.out, hwf'.out, HP.out, (below_drewN hbel _).setCell (Nat.le_refl _) _⟩
      case measure => simp [intOf] <;> omega
    · obtain rfl : k = n := by omega
      have h1 := HV.out
      rw [HTA.out, HTB.out, val_digs, val_digs, List.take_of_length_le (by rw [hrow.len]; omega)] at h1
      have h2 : val ls < B ^ k := by have := val_lt hwf; rwa [hrow.len] at this
      have hv : val ls = x - y := Bn.minus_end _ _ _ _ _ h1 h2 hyx hb0
      have ht := dtrimmed_nat (some ⟨w.heap.size, 0, none⟩) k k ls wr hrow.words hwf (Nat.le_refl _) (by unfold maxLen; omega)
      rw [hv] at ht
      have HT := Lib.hid ht
      clear ht hv h1 h2
      go_wp2_with fail
      refine HT.out.mono ?_
      rintro e w1 ⟨m, rfl, hn1, rfl⟩
      go_wp2
      go_ret
      exact ⟨_, m, _, rfl, Nat.le_refl _, hn1, hbel⟩
theorem dminus_any (A A' : Option Addr) (n c n' c' x y : Nat) (w : World) (ha : NatD w w.heap.size A n c x) (hb : NatD w w.heap.size A' n' c' y) (hyx : y ≤ x) (hn : n ≤ 1099511627776) (hn' : n' ≤ 1099511627776) :
    Calls Tryz.prog 155 #[.slice A n c, .slice A' n' c'] w (RetD w (x - y)) :=
  (dminus_own A A' n c n' c' x y w ha hb hyx hn hn').mono fun _ _ h => h.ret
end Go.Proofs.YtboaojkblmddkaaGreatDoor
