/- Contracts of package rational's naturals: times, estimate. -/
import Derived.Test.YtboaojkblmddkaaGreatDoorCDm
import Derived.Test.YtboaojkblmddkaaGreatDoorCDiv1
import Derived.Test.YtboaojkblmddkaaGreatDoorCNat4
namespace Go.Proofs.YtboaojkblmddkaaGreatDoor
open Go.RowKit Dn

/-- a right factor: words of at most B, a value of at most so many words -/
def Weak (l : List Nat) : Prop := (∀ k, l.getD k 0 ≤ B) ∧ val l ≤ B ^ l.length
theorem Weak.wf {l : List Nat} (h : Wf l) : Weak l := ⟨fun k => Nat.le_of_lt (getD_lt h k), Nat.le_of_lt (val_lt h)⟩
theorem Weak.one {x : Nat} (h : x ≤ B) : Weak [x] := ⟨fun k => by
  rcases k with _ | k
  · simpa using h
  · simp, by simpa using h⟩

theorem carry_lt (l la lb : List Nat) (i n' c : Nat) (hk : i + n' < l.length) (hv : val (l.set (i + n') c) = val (la.take (i + 1)) * val lb) (hwa : Wf la) (hb : val lb ≤ B ^ n') : c < B := by
  have h1 := val_split (l.set (i + n') c) (i + n' + 1) (by rw [List.length_set]; exact hk)
  rw [val_take_set l (i + n') c hk] at h1
  have h2 : val (la.take (i + 1)) < B ^ (i + 1) := Nat.lt_of_lt_of_le (val_lt (hwa.take _)) (Nat.pow_le_pow_right B_pos (by rw [List.length_take]; omega))
  have h3 : val (la.take (i + 1)) * val lb ≤ val (la.take (i + 1)) * B ^ n' := Nat.mul_le_mul_left _ hb
  have h4 : val (la.take (i + 1)) * B ^ n' < B ^ (i + 1) * B ^ n' := Nat.mul_lt_mul_of_pos_right h2 (Nat.pow_pos B_pos)
  have e5 : B ^ (i + n') * B = B ^ (i + 1) * B ^ n' := by
    rw [← Nat.pow_succ, show (i + n').succ = i + 1 + n' from by omega, Nat.pow_add]
  have h5 : B ^ (i + n') * c < B ^ (i + n') * B := by
    rw [e5]
    omega
  exact Nat.lt_of_mul_lt_mul_left h5

/-- what holds at the head of a round of times -/
def DTimesInv (w wr : World) (n n' : Nat) (la lb : List Nat) (i : Nat) : Prop :=
  ∃ ls, RowAt wr w.heap.size w.heap.size (n + n') (n + n') ls ∧ Wf ls ∧ val ls = val (la.take i) * val lb ∧ (∀ t, i + n' ≤ t → ls.getD t 0 = 0) ∧ Below w.heap.size w wr
/-- and in the inner loop -/
def DTimesIn (w wr : World) (n n' : Nat) (la lb : List Nat) (i j c : Nat) : Prop :=
  ∃ ls, RowAt wr w.heap.size w.heap.size (n + n') (n + n') ls ∧ Wf ls ∧ val ls + B ^ (i + j) * c = val (la.take i) * val lb + B ^ i * (la.getD i 0 * val (lb.take j)) ∧ (∀ t, i + n' ≤ t → ls.getD t 0 = 0) ∧ Below w.heap.size w wr

set_option maxHeartbeats 4000000 in
set_option maxRecDepth 100000 in
theorem dtimes_own (A A' : Option Addr) (n c n' c' x : Nat) (lb : List Nat) (w : World) (ha : NatD w w.heap.size A n c x) (hb : WordsAt w w.heap.size A' n' lb) (hw : Weak lb) (hn : n ≤ 1099511627776) (hn' : n' ≤ 1099511627776) :
    Calls Tryz.prog 128 #[.slice A n c, .slice A' n' c'] w (RetDs w (x * val lb)) := by
  obtain ⟨i0, hi0, hz0, hz1, hz2⟩ := info_parts info_u64
  have hla := ha.len
  have hlb := hb.len
  have hvb := hw.2
  rw [hlb] at hvb
  have HA := Lib.hid hla
  have HB := Lib.hid hlb
  have HVB := Lib.hid hvb
  have HW := Lib.hid hw.1
  clear hla hlb hvb hw
  go_enter Tryz.func128, Tryz.ntmps128
  go_wp2_with (at_make; refine wpList_make_full _ rfl _ _ 151 rfl w.heap.size 199 i0 (.int .u64 0) 1 Tryz.underlying151 hi0 hz0 hz1 _ _ _ _ (n + n') rfl rfl (by omega) (by omega) ?b2 ?b3 (Nat.le_refl _) ?_)
  case b2 => rw [hz2]; omega
  case b3 => unfold maxLen; omega
  intro w0 hown0 hgrow0
  have hbel0 : Below w.heap.size w w0 := (Below.refl _ _).grown hgrow0 (Nat.le_refl _) (fun k h => by cases h)
  have hrow0 := RowAt.made hown0
  clear hown0 hgrow0
  go_wp2
  go_loopw [19] (fun s wr => ∃ i : Nat, i ≤ n ∧ s = .int .i64 i ∧ DTimesInv w wr n n' (digs x) lb i) (fun s _ => n - (intOf s).toNat)
  case atStart => exact ⟨0, by omega, rfl, _, hrow0, Wf.replicate _, by simp [val_replicate_zero], fun t _ => lgetD_zeros _ _, hbel0⟩
  case round =>
    obtain ⟨i, hi, rfl, ls, hrow, hwf, hval, hz, hbel⟩ := hrel
    obtain ⟨wo, rfl⟩ : ∃ wo : World, wo = wr := ⟨_, rfl⟩
    have HV := Lib.hid hval
    have HZ := Lib.hid hz
    clear hval hz
    by_cases hin : i < n
    · obtain ⟨ad, rfl, hba, hca⟩ := (ha.below hbel).words.word (k := i) hin
      have hxB := getD_lt (wf_digs x) i
      obtain ⟨f, hgx⟩ : ∃ f, (digs x).getD i 0 = f := ⟨_, rfl⟩
      rw [hgx] at hca hxB
      have HF := Lib.hid hgx
      clear hgx
      go_wp2_with fail
      go_loopw [8, 26] (fun cy s wr => ∃ j c0 : Nat, j ≤ n' ∧ c0 ≤ 1000000000 ∧ s = .int .i64 j ∧ cy = .int .u64 c0 ∧ DTimesIn w wr n n' (digs x) lb i j c0) (fun _ s _ => n' - (intOf s).toNat)
      case atStart => exact ⟨0, 0, by omega, by omega, rfl, rfl, ls, hrow, hwf, by rw [HV.out]; simp, HZ.out, hbel⟩
      case round =>
        obtain ⟨j, c0, hj, hc0, rfl, rfl, l2, hrow2, hwf2, hval2, hz2', hbel2⟩ := hrel
        have HV2 := Lib.hid hval2
        have HZ2 := Lib.hid hz2'
        clear hval2 hz2'
        by_cases hjn : j < n'
        · obtain ⟨ad', rfl, hbb, hcb⟩ := WordsAt.word (Reads.below hb hbel2) (k := j) hjn
          have hyB := HW.out j
          obtain ⟨yk, hgy⟩ : ∃ yk, lb.getD j 0 = yk := ⟨_, rfl⟩
          rw [hgy] at hcb hyB
          have hcs := hrow2.cell (i + j) (by omega)
          have hfs := hrow2.free (i + j)
          have hoB := getD_lt hwf2 (i + j)
          obtain ⟨o, hgo⟩ : ∃ o, l2.getD (i + j) 0 = o := ⟨_, rfl⟩
          rw [hgo] at hcs hoB
          obtain ⟨p, hp⟩ : ∃ p, p = f * yk := ⟨_, rfl⟩
          have hpB : p ≤ 999999999000000000 := by
            rw [hp]; exact Nat.le_trans (Nat.mul_le_mul (show f ≤ 999999999 by omega) (show yk ≤ 1000000000 from hyB)) (by decide)
          have em : (f : Int) * (yk : Int) = (p : Int) := by rw [hp]; exact (Int.natCast_mul f yk).symm
          obtain ⟨t, ht⟩ : ∃ t, t = c0 + (p + o) := ⟨_, rfl⟩
          obtain ⟨lo, hlo⟩ : ∃ lo, lo = t % B := ⟨_, rfl⟩
          obtain ⟨hi', hhi⟩ : ∃ hi', hi' = t / B := ⟨_, rfl⟩
          have hloB : lo < B := by rw [hlo]; exact Nat.mod_lt _ B_pos
          have ht2 : t ≤ 1000000000999999999 := by omega
          have hhiB : hi' ≤ 1000000000 := by rw [hhi]; unfold B; omega
          have e1 : lo + B * hi' = f * yk + o + c0 := by rw [hlo, hhi, Nat.mod_add_div, ← hp, ht]; omega
          have HP : Hid (val (l2.set (i + j) lo) + B ^ (i + (j + 1)) * hi' = val ((digs x).take i) * val lb + B ^ i * ((digs x).getD i 0 * val (lb.take (j + 1)))) :=
            times_round l2 lb i j _ _ lo hi' c0 (by rw [hrow2.len]; omega) HV2.out (by rw [hgy, hgo, HF.out]; exact e1)
          have HZ3 : Hid (∀ t, i + n' ≤ t → (l2.set (i + j) lo).getD t 0 = 0) := fun t ht => by rw [lgetD_set_ne _ _ _ _ (by omega)]; exact HZ2.out t ht
          have es : ((t : Nat) : Int) % 1000000000 = (lo : Int) := by rw [hlo]; unfold B; omega
          have ed : ((t : Nat) : Int) / 1000000000 = (hi' : Int) := by rw [hhi]; unfold B; omega
          have et : (c0 : Int) + ((p : Int) + (o : Int)) = (t : Int) := by omega
          clear e1 hgy hgo hp ht hlo hhi
          have hrow3 := Lib.hid (hrow2.set (i + j) lo)
          have hwf3 := Lib.hid (hwf2.set (i + j) hloB)
          go_wp2
          go_roundw
          case rel => exact ⟨j + 1, hi', by omega, hhiB, by go_num, rfl, _, hrow3.out, hwf3.out, HP.out, HZ3.out, hbel2.setCell (Nat.le_refl _) _⟩
          case measure => simp [intOf] <;> omega
        · obtain rfl : j = n' := by omega
          have hcs := hrow2.cell (i + j) (by omega)
          have hfs := hrow2.free (i + j)
          have hlen : i + j < l2.length := by rw [hrow2.len]; omega
          have HP : Hid (val (l2.set (i + j) c0) = val ((digs x).take (i + 1)) * val lb) :=
            times_row l2 (digs x) lb i j c0 hlen (HZ2.out _ (Nat.le_refl _)) HB.out HV2.out
          have hcB : Hid (c0 < B) := carry_lt l2 (digs x) lb i j c0 hlen HP.out (wf_digs x) HVB.out
          have HZ3 : Hid (∀ t, i + 1 + j ≤ t → (l2.set (i + j) c0).getD t 0 = 0) := fun t ht => by rw [lgetD_set_ne _ _ _ _ (by omega)]; exact HZ2.out t (by omega)
          generalize l2.getD (i + j) 0 = old at hcs
          clear hlen
          go_wp2
          go_roundw
          case rel => exact ⟨i + 1, by omega, by go_num, _, hrow2.set (i + j) c0, hwf2.set _ hcB.out, HP.out, HZ3.out, hbel2.setCell (Nat.le_refl _) _⟩
          case measure => simp [intOf] <;> omega
    · obtain rfl : i = n := by omega
      have hv : val ls = x * val lb := by rw [HV.out, List.take_of_length_le (by rw [HA.out]; exact Nat.le_refl _), val_digs]
      have ht := dtrimmed_nat (some ⟨w.heap.size, 0, none⟩) (i + n') (i + n') ls wo hrow.words hwf (Nat.le_refl _) (by unfold maxLen; omega)
      rw [hv] at ht
      have HC := Lib.hid ht
      clear ht hv
      go_wp2_with fail
      refine HC.out.mono ?_
      rintro e w1 ⟨m, rfl, hn1, rfl⟩
      go_wp2
      go_ret
      exact ⟨_, m, _, rfl, Nat.le_refl _, hn1, hbel⟩

theorem dtimes_any (A A' : Option Addr) (n c n' c' x : Nat) (lb : List Nat) (w : World) (ha : NatD w w.heap.size A n c x) (hb : WordsAt w w.heap.size A' n' lb) (hw : Weak lb) (hn : n ≤ 1099511627776) (hn' : n' ≤ 1099511627776) :
    Calls Tryz.prog 128 #[.slice A n c, .slice A' n' c'] w (RetD w (x * val lb)) :=
  (dtimes_own A A' n c n' c' x lb w ha hb hw hn hn').mono fun _ _ h => h.ret

/-- .. of two naturals -/
theorem dtimes_nat (A A' : Option Addr) (n c n' c' x y : Nat) (w : World) (ha : NatD w w.heap.size A n c x) (hb : NatD w w.heap.size A' n' c' y) (hn : n ≤ 1099511627776) (hn' : n' ≤ 1099511627776) :
    Calls Tryz.prog 128 #[.slice A n c, .slice A' n' c'] w (RetD w (x * y)) := by
  have h := dtimes_any A A' n c n' c' x (digs y) w ha hb.words (Weak.wf (wf_digs y)) hn hn'
  rwa [val_digs] at h

/-! ### estimate -/
theorem dword_one (A : Option Addr) (n c : Nat) (l : List Nat) (k : Nat) (B : Nat) (w : World) (h1 : 1 ≤ k) (hr : WordsAt w B A n l) (hn : n ≤ 1099511627776) :
    Calls Tryz.prog 189 #[.slice A n c, .int .i64 ((k : Int) - 1)] w fun e w' => e = .returned (.int .u64 ((l.getD (k - 1) 0 : Nat) : Int)) ∧ w = w' :=
  (dword_any A n c l _ B w hr hn).mono fun e w' ⟨he, hw⟩ => ⟨by rw [he, if_pos (by omega), show ((k : Int) - 1).toNat = k - 1 from by omega], hw⟩
theorem dword_two (A : Option Addr) (n c : Nat) (l : List Nat) (k : Nat) (B : Nat) (w : World) (hr : WordsAt w B A n l) (hn : n ≤ 1099511627776) :
    Calls Tryz.prog 189 #[.slice A n c, .int .i64 ((k : Int) - 2)] w fun e w' => e = .returned (.int .u64 ((if 2 ≤ k then l.getD (k - 2) 0 else 0 : Nat) : Int)) ∧ w = w' :=
  (dword_any A n c l _ B w hr hn).mono fun e w' ⟨he, hw⟩ => ⟨by
    rw [he]
    by_cases h : 2 ≤ k
    · rw [if_pos (by omega), if_pos h, show ((k : Int) - 2).toNat = k - 2 from by omega]
    · rw [if_neg (by omega), if_neg h], hw⟩

theorem two_lt {l : List Nat} (h : Wf l) (k : Nat) : (if 2 ≤ k then l.getD (k - 2) 0 else 0) < 1000000000 := by
  split
  · exact getD_lt h _
  · omega
theorem est_div (hi cy s lo z h1 : Nat) (e1 : lo + 18446744073709551616 * hi = h1 * 1000000000) (e2 : s + 18446744073709551616 * cy = lo + z) : (hi + cy) * 18446744073709551616 + s = h1 * 1000000000 + z := by omega

set_option maxHeartbeats 2000000 in
set_option maxRecDepth 100000 in
theorem destimate_any (A A' : Option Addr) (n c n' c' r y : Nat) (w : World) (ha : NatD w w.heap.size A n c r) (hb : NatD w w.heap.size A' n' c' y) (h1 : 1 ≤ n') (hry : r < y * B) (hn : n ≤ 1099511627776) (hn' : n' ≤ 1099511627776) :
    Calls Tryz.prog 190 #[.slice A n c, .slice A' n' c'] w fun e w' => e = .returned (.int .u64 ((estA r n' / estB y n' : Nat) : Int)) ∧ ∃ k, w' = w.drewN k := by
  have hlen := hb.len
  have hok := est_ok hlen h1 hry
  have hpos := estB_pos hlen h1
  have hqB : r / y < B := Nat.div_lt_of_lt_mul hry
  have hBB := estB_lt (y := y) (n := n')
  have W1 := Lib.hid (fun W h => dword_nat A n c (digs r) n' w.heap.size W h hn)
  have W2 := Lib.hid (fun W h => dword_one A n c (digs r) n' w.heap.size W h1 h hn)
  have W3 := Lib.hid (fun W h => dword_two A n c (digs r) n' w.heap.size W h hn)
  have W4 := Lib.hid (fun W h => dword_one A' n' c' (digs y) n' w.heap.size W h1 h hn')
  have W5 := Lib.hid (fun W h => dword_two A' n' c' (digs y) n' w.heap.size W h hn')
  have b1 := getD_lt (wf_digs r) n'
  have b2 := getD_lt (wf_digs r) (n' - 1)
  have b3 := two_lt (wf_digs r) n'
  have b4 := getD_lt (wf_digs y) (n' - 1)
  have b5 := two_lt (wf_digs y) n'
  have hwa := Lib.hid ha.words
  have hwb := Lib.hid hb.words
  unfold estA estB at hok hpos hBB ⊢
  generalize (digs r).getD n' 0 = u at *
  generalize (digs r).getD (n' - 1) 0 = v at *
  generalize (if 2 ≤ n' then (digs r).getD (n' - 2) 0 else 0) = z at *
  generalize (digs y).getD (n' - 1) 0 = p at *
  generalize (if 2 ≤ n' then (digs y).getD (n' - 2) 0 else 0) = o at *
  unfold B at *
  obtain ⟨h, hh⟩ : ∃ h, h = u * 1000000000 + v := ⟨_, rfl⟩
  obtain ⟨d, hd⟩ : ∃ d, d = p * 1000000000 + o := ⟨_, rfl⟩
  rw [← hh, ← hd] at hok
  rw [← hd] at hpos hBB
  rw [← hh, ← hd]
  have hhb : h < 1000000000000000000 := by omega
  obtain ⟨hi, lo, e1, hlo, hhi, hmul⟩ := call_mul64 h 1000000000 (by omega) (by omega)
  obtain ⟨s, cy, e2, hsB, hcy, hadd⟩ := call_add64 lo z 0 hlo (by omega) (by omega)
  have e3 := est_div hi cy s lo z h (by rw [← e1]) (by omega)
  have hq : (h * 1000000000 + z) / d ≤ 1000000000 := by omega
  have hlt : h * 1000000000 + z < d * 1000000001 := by
    have h6 := Nat.lt_mul_div_succ (h * 1000000000 + z) (show 0 < d by omega)
    exact Nat.lt_of_lt_of_le h6 (Nat.mul_le_mul_left d (by omega))
  have hic : hi + cy < d := by omega
  have hh9 : hi + cy < 18446744073709551616 := by omega
  have hdd : d < 18446744073709551616 := by omega
  have HDIV := Lib.hid (fun W => div64_any (hi + cy) s d W hic hsB hdd)
  replace hadd : ∀ w : World, (callFunc 196 #[.int .u64 lo, .int .u64 z, .int .u64 0]).run Tryz.prog w = .ok (.value (.tuple #[.int .u64 s, .int .u64 cy])) w := hadd
  have eh : (u : Int) * 1000000000 + (v : Int) = (h : Int) := by omega
  have edd : (p : Int) * 1000000000 + (o : Int) = (d : Int) := by omega
  have HMUL := Lib.hid hmul
  have E3 := Lib.hid e3
  obtain ⟨q, rm, e4, hrm, _, hcall⟩ := HDIV.out w
  have e5 : (h * 1000000000 + z) / d = q := by
    rw [← E3.out, e4, Nat.add_comm, Nat.add_mul_div_right _ _ (by omega), Nat.div_eq_of_lt hrm, Nat.zero_add]
  have E5 := Lib.hid e5
  have HC := Lib.hid hcall
  clear e4 e5 hcall
  clear hok hpos hBB hqB hlen e1 e2 e3 hq hlt hic hh hd hmul hry hrm
  go_enter Tryz.func190, Tryz.ntmps190
  go_wp2_with fail
  refine (W1.out _ hwa.out).mono ?_
  rintro e w1 ⟨rfl, rfl⟩
  go_wp2_with fail
  refine (W2.out _ hwa.out).mono ?_
  rintro e w1 ⟨rfl, rfl⟩
  go_wp2_with fail
  refine (HMUL.out _).mono ?_
  rintro e w1 ⟨rfl, hw1⟩
  obtain rfl : w = w1 := hw1.symm
  clear hw1
  go_wp2_with fail
  refine (W3.out _ hwa.out).mono ?_
  rintro e w1 ⟨rfl, rfl⟩
  go_wp2_with fail
  refine (W4.out _ hwb.out).mono ?_
  rintro e w1 ⟨rfl, rfl⟩
  go_wp2_with fail
  refine (W5.out _ hwb.out).mono ?_
  rintro e w1 ⟨rfl, rfl⟩
  go_wp2_with fail
  refine HC.out.mono ?_
  rintro e w1 ⟨rfl, k, rfl⟩
  go_wp2
  go_ret
  exact ⟨by rw [E5.out]; rfl, k, rfl⟩
end Go.Proofs.YtboaojkblmddkaaGreatDoor
