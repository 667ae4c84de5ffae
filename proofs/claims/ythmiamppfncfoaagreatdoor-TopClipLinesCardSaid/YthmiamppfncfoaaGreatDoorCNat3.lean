/- Contracts of the functions of package number on naturals: plus, subtract, minus. -/
import Derived.Test.YthmiamppfncfoaaGreatDoorCMem
import Derived.Test.YthmiamppfncfoaaGreatDoorCShelf
namespace Go.Proofs.YthmiamppfncfoaaGreatDoor
open Go.RowKit Bn

/-- what holds at the head of a round of plus -/
def PlusInv (w wr : World) (g n : Nat) (la lb : List Nat) (k c0 : Nat) : Prop :=
  ∃ ls, RowAt wr w.heap.size g (n + 1) (n + 1) ls ∧ Wf ls ∧ val (ls.take k) + B ^ k * c0 = val (la.take k) + val (lb.take k) ∧ Below w.heap.size w wr

theorem plus_len_aux (x y p q r : Nat) (h1 : x < p) (h2 : y < q) (h3 : q ≤ p) (h4 : p * 2 ≤ r) : x + y < r := by omega
theorem plus_len {x y n n' : Nat} (h : (digs x).length = n) (h' : (digs y).length = n') (hle : n' ≤ n) : x + y < B ^ (n + 1) := by
  subst h
  subst h'
  rw [Nat.pow_succ]
  exact plus_len_aux x y _ _ _ (lt_of_digs_length x) (lt_of_digs_length y) (Nat.pow_le_pow_right B_pos hle) (Nat.mul_le_mul_left _ B_gt1)

/-- what holds at the head of a round of subtract -/
def SubInv (w wr : World) (base g nt ct : Nat) (lt la lb : List Nat) (same : Prop) (k b0 : Nat) : Prop :=
  ∃ ls, RowAt wr base g nt ct ls ∧ Wf ls ∧ val (ls.take k) + val (lb.take k) = val (la.take k) + B ^ k * b0 ∧ (same → ∀ j, k ≤ j → ls.getD j 0 = lt.getD j 0) ∧ w.grownBy wr (some g)

set_option maxHeartbeats 2000000 in
set_option maxRecDepth 100000 in
/-- target may be a itself (same) -/
theorem subtract_any (A A' : Option Addr) (base g nt ct n c n' c' x y : Nat) (lt : List Nat) (w : World) (same : Prop) (ht : RowAt w base g nt ct lt) (hlt : Wf lt) (ha : NatS w w.heap.size A n c x)
    (hb : NatS w w.heap.size A' n' c' y) (hAs : ((0 < n → Off A g) ∧ ¬ same) ∨ (A = some ⟨g, 0, none⟩ ∧ lt = digs x ∧ same)) (hob : 0 < n' → Off A' g) (hnt : n ≤ nt) (hyx : y ≤ x) (hn : n ≤ 1099511627776) :
    Calls Tryz.prog 99 #[.slice (some ⟨g, 0, none⟩) nt ct, .slice A n c, .slice A' n' c'] w fun e w' => ∃ m, e = .returned (.slice (some ⟨g, 0, none⟩) m ct) ∧ RowAt w' base g m ct (digs (x - y)) ∧ w.grownBy w' (some g) := by
  have hla := ha.len
  have hlb := hb.len
  have hA := Lib.hid hla
  have hB := Lib.hid hlb
  have hle : n' ≤ n := by rw [← hla, ← hlb]; exact digs_length_mono hyx
  clear hla hlb
  have h1 := ha.nc
  have h2 := ha.cm
  have h3 := hb.nc
  have h4 := hb.cm
  have h5 := ht.caps
  unfold maxLen at h2 h4 h5
  obtain ⟨h5, h6⟩ := h5
  have HT := Lib.hid ht
  have HS := Lib.hid hAs
  clear ht hAs
  go_enter Tryz.func99, Tryz.ntmps99
  go_wp2
  go_loopw [7, 13] (fun cy s wr => ∃ k b0 : Nat, k ≤ n ∧ b0 ≤ 1 ∧ s = .int .i64 k ∧ cy = .int .u64 b0 ∧ SubInv w wr base g nt ct lt (digs x) (digs y) same k b0) (fun _ s _ => n - (intOf s).toNat)
  case atStart => exact ⟨0, 0, by omega, by omega, rfl, rfl, lt, HT.out, hlt, by simp, fun _ _ _ => rfl, World.grownBy.refl w _⟩
  case round =>
    obtain ⟨k, b0, hk, hb0, rfl, rfl, ls, hrow, hwf, hval, hsm, hgr⟩ := hrel
    have HV := Lib.hid hval
    have HM := Lib.hid hsm
    clear hval hsm
    by_cases hkn : k < n
    · have hA2 : ∃ ad, A = some ad ∧ wr.cell? (ad.add k) = some (.int .u64 (((digs x).getD k 0 : Nat) : Int)) := by
        rcases HS.out with ⟨ho, _⟩ | ⟨hAe, hle', hs⟩
        · obtain ⟨ad, e, _, hc⟩ := (ha.words.kept hgr (Nat.le_refl _) ho).word (k := k) hkn
          exact ⟨ad, e, hc⟩
        · refine ⟨_, hAe, ?_⟩
          have := hrow.cell k (by omega)
          rw [HM.out hs k (Nat.le_refl _), hle'] at this
          have e0 : (⟨g, 0, none⟩ : Addr).add k = ⟨g, k, none⟩ := by
            unfold Addr.add
            by_cases hj : k = 0 <;> simp [hj]
          rw [e0]; exact this
      obtain ⟨ad, hAe, hca⟩ := hA2
      have HAE := Lib.hid hAe
      have hls : k < ls.length := by rw [hrow.len]; omega
      have hcs := hrow.cell k (by omega)
      have hfs := hrow.free k
      have hxB := getD_lt (wf_digs x) k
      have hyB := getD_lt (wf_digs y) k
      obtain ⟨xk, hgx⟩ : ∃ xk, (digs x).getD k 0 = xk := ⟨_, rfl⟩
      obtain ⟨yk, hgy⟩ : ∃ yk, (digs y).getD k 0 = yk := ⟨_, rfl⟩
      rw [hgx] at hca hxB
      rw [hgy] at hyB
      generalize ls.getD k 0 = old at hcs
      obtain ⟨s, d, hsd, hsB, hd1, hrun⟩ := call_sub64 xk yk b0 hxB hyB hb0
      have HP : Hid (val ((ls.set k s).take (k + 1)) + val ((digs y).take (k + 1)) = val ((digs x).take (k + 1)) + B ^ (k + 1) * d) :=
        minus_round ls _ _ k hls s b0 d HV.out (by rw [hgx, hgy]; exact hsd)
      have HM2 : Hid (same → ∀ j, k + 1 ≤ j → (ls.set k s).getD j 0 = lt.getD j 0) := fun hs j hj => by
        rw [← HM.out hs j (by omega)]
        simp only [List.getD]
        rw [List.getElem?_set_ne (by omega)]
      subst hAe
      by_cases hkn' : k < n'
      · obtain ⟨ad', rfl, hbb, hcb⟩ := (hb.words.kept hgr (Nat.le_refl _) hob).word (k := k) hkn'
        rw [hgy] at hcb
        clear hsd hgx hgy
        go_wp2
        go_roundw
        case rel => exact ⟨k + 1, d, by omega, hd1, by go_num, rfl, _, hrow.set k s, hwf.set k hsB, HP.out, HM2.out, only_setCell hgr (.inl rfl) _⟩
        case measure => simp [intOf] <;> omega
      · have hy0 : yk = 0 := by rw [← hgy]; exact getD_out (by rw [hB.out]; omega)
        subst hy0
        replace hrun : ∀ w : World, (callFunc 118 #[.int .u64 xk, .int .u64 0, .int .u64 b0]).run Tryz.prog w = .ok (.value (.tuple #[.int .u64 s, .int .u64 d])) w := hrun
        clear hsd hgx hgy
        go_wp2
        go_roundw
        case rel => exact ⟨k + 1, d, by omega, hd1, by go_num, rfl, _, hrow.set k s, hwf.set k hsB, HP.out, HM2.out, only_setCell hgr (.inl rfl) _⟩
        case measure => simp [intOf] <;> omega
    · obtain rfl : k = n := by omega
      have hv : val (ls.take k) = x - y := by
        have h7 := HV.out
        rw [List.take_of_length_le (l := digs x) (by rw [hA.out]; exact Nat.le_refl _), List.take_of_length_le (l := digs y) (by rw [hB.out]; exact hle), val_digs, val_digs] at h7
        have h8 := val_lt (hwf.take k)
        rw [List.length_take, hrow.len, Nat.min_eq_left hnt] at h8
        have h9 := lt_of_digs_length x
        rw [hA.out] at h9
        exact minus_end _ _ _ _ _ h7 h8 hyx hb0
      have ht := trimmed_row base g k ct (ls.take k) wr (hrow.take hnt) (hwf.take k)
      rw [hv] at ht
      have HC := Lib.hid ht
      clear ht hv
      go_wp2_with fail
      refine HC.out.mono ?_
      rintro e w1 ⟨m, rfl, hn1, rfl⟩
      go_wp2
      go_ret
      exact ⟨m, rfl, hn1, hgr⟩

end Go.Proofs.YthmiamppfncfoaaGreatDoor

/- Contracts of the functions of package number on naturals: minus, timesPlus, times. -/
namespace Go.Proofs.YthmiamppfncfoaaGreatDoor
open Go.RowKit Bn

theorem call_mul64 (x y : Nat) (hx : x < 18446744073709551616) (hy : y < 18446744073709551616) :
    ∃ hi lo : Nat, lo + 18446744073709551616 * hi = x * y ∧ lo < 18446744073709551616 ∧ hi < 18446744073709551616 ∧
      ∀ w : World, Calls Tryz.prog 115 #[.int .u64 x, .int .u64 y] w fun e w' => e = .returned (.tuple #[.int .u64 (hi : Int), .int .u64 (lo : Int)]) ∧ w' = w := by
  refine ⟨x * y / 18446744073709551616, x * y % 18446744073709551616, Nat.mod_add_div _ _, Nat.mod_lt _ (by omega), ?_, fun w => Tryz.bits_Mul64 x y hx hy w⟩
  exact Nat.div_lt_of_lt_mul (mul_lt_two x y hx hy)

set_option maxHeartbeats 1000000 in
theorem timesPlus_any (a b c d : Nat) (ha : a < 18446744073709551616) (hb : b < 18446744073709551616) (hc : c < 18446744073709551616) (hd : d < 18446744073709551616) :
    ∃ lo hi : Nat, lo + 18446744073709551616 * hi = a * b + c + d ∧ lo < 18446744073709551616 ∧ hi < 18446744073709551616 ∧
      ∀ w : World, Calls Tryz.prog 95 #[.int .u64 a, .int .u64 b, .int .u64 c, .int .u64 d] w fun e w' => e = .returned (.tuple #[.int .u64 (lo : Int), .int .u64 (hi : Int)]) ∧ w = w' := by
  obtain ⟨h, l, hm, hl, hh, hcall⟩ := call_mul64 a b ha hb
  obtain ⟨l1, c1, e1, hl1, hc1, run1⟩ := call_add64 l c 0 hl hc (by omega)
  obtain ⟨l2, c2, e2, hl2, hc2, run2⟩ := call_add64 l1 d 0 hl1 hd (by omega)
  have hbound := mul_bound a b ha hb
  have hle : h + c1 + c2 < 18446744073709551616 := by omega
  refine ⟨l2, h + c1 + c2, by omega, hl2, hle, fun w => ?_⟩
  replace run1 : ∀ w : World, (callFunc 116 #[.int .u64 l, .int .u64 c, .int .u64 0]).run Tryz.prog w = .ok (.value (.tuple #[.int .u64 l1, .int .u64 c1])) w := run1
  replace run2 : ∀ w : World, (callFunc 116 #[.int .u64 l1, .int .u64 d, .int .u64 0]).run Tryz.prog w = .ok (.value (.tuple #[.int .u64 l2, .int .u64 c2])) w := run2
  clear e1 e2 hm hbound
  go_enter Tryz.func95, Tryz.ntmps95
  go_wp2_with fail
  refine (hcall _).mono ?_
  rintro e w' ⟨rfl, rfl⟩
  go_wp2
  go_ret2
  exact ⟨rfl, rfl⟩

/-- what holds at the head of a round of times -/
def TimesInv (w wr : World) (n n' : Nat) (la lb : List Nat) (i : Nat) : Prop :=
  ∃ ls, RowAt wr w.heap.size w.heap.size (n + n') (n + n') ls ∧ Wf ls ∧ val ls = val (la.take i) * val lb ∧ (∀ t, i + n' ≤ t → ls.getD t 0 = 0) ∧ Below w.heap.size w wr
/-- and in the inner loop -/
def TimesIn (w wr : World) (n n' : Nat) (la lb : List Nat) (i j c : Nat) : Prop :=
  ∃ ls, RowAt wr w.heap.size w.heap.size (n + n') (n + n') ls ∧ Wf ls ∧ val ls + B ^ (i + j) * c = val (la.take i) * val lb + B ^ i * (la.getD i 0 * val (lb.take j)) ∧ (∀ t, i + n' ≤ t → ls.getD t 0 = 0) ∧ Below w.heap.size w wr

set_option maxHeartbeats 4000000 in
set_option maxRecDepth 100000 in
theorem times_any (A A' : Option Addr) (n c n' c' x y : Nat) (w : World) (ha : NatS w w.heap.size A n c x) (hb : NatS w w.heap.size A' n' c' y) (hn : n ≤ 1099511627776) (hn' : n' ≤ 1099511627776) :
    Calls Tryz.prog 122 #[.slice A n c, .slice A' n' c'] w (RetNat w (x * y)) := by
  obtain ⟨i0, hi0, hz0, hz1, hz2⟩ := info_parts info_u64
  have hla := ha.len
  have hlb := hb.len
  have hA := Lib.hid hla
  have hB := Lib.hid hlb
  clear hla hlb
  have h1 := ha.nc
  have h2 := ha.cm
  have h3 := hb.nc
  have h4 := hb.cm
  unfold maxLen at h2 h4
  go_enter Tryz.func122, Tryz.ntmps122
  go_wp2_with (at_make; refine wpList_make_full _ rfl _ _ 91 rfl w.heap.size 99 i0 (.int .u64 0) 1 Tryz.underlying91 hi0 hz0 hz1 _ _ _ _ (n + n') rfl rfl (by omega) (by omega) ?b2 ?b3 (Nat.le_refl _) ?_)
  case b2 => rw [hz2]; omega
  case b3 => unfold maxLen; omega
  intro w0 hown0 hgrow0
  have hbel0 : Below w.heap.size w w0 := (Below.refl _ _).grown hgrow0 (Nat.le_refl _) (fun k h => by cases h)
  have hrow0 := RowAt.made hown0
  clear hown0 hgrow0
  go_wp2
  go_loopw [19] (fun s wr => ∃ i : Nat, i ≤ n ∧ s = .int .i64 i ∧ TimesInv w wr n n' (digs x) (digs y) i) (fun s _ => n - (intOf s).toNat)
  case atStart => exact ⟨0, by omega, rfl, _, hrow0, Wf.replicate _, by simp [val_replicate_zero], fun t _ => lgetD_zeros _ _, hbel0⟩
  case round =>
    obtain ⟨i, hi, rfl, ls, hrow, hwf, hval, hz, hbel⟩ := hrel
    obtain ⟨wo, rfl⟩ : ∃ wo : World, wo = wr := ⟨_, rfl⟩
    have HV := Lib.hid hval
    have HZ := Lib.hid hz
    clear hval hz
    by_cases hin : i < n
    · obtain ⟨ad, rfl, hba, hca⟩ := (ha.below hbel).words.word (k := i) hin
      have hxB := getD_lt (wf_digs x) i
      obtain ⟨f, hgx⟩ : ∃ f, (digs x).getD i 0 = f := ⟨_, rfl⟩
      rw [hgx] at hca hxB
      have HF := Lib.hid hgx
      clear hgx
      go_wp2_with fail
      go_loopw [8, 26] (fun cy s wr => ∃ j c0 : Nat, j ≤ n' ∧ c0 < 18446744073709551616 ∧ s = .int .i64 j ∧ cy = .int .u64 c0 ∧ TimesIn w wr n n' (digs x) (digs y) i j c0) (fun _ s _ => n' - (intOf s).toNat)
      case atStart => exact ⟨0, 0, by omega, by omega, rfl, rfl, ls, hrow, hwf, by rw [HV.out]; simp, HZ.out, hbel⟩
      case round =>
        obtain ⟨j, c0, hj, hc0, rfl, rfl, l2, hrow2, hwf2, hval2, hz2', hbel2⟩ := hrel
        have HV2 := Lib.hid hval2
        have HZ2 := Lib.hid hz2'
        clear hval2 hz2'
        by_cases hjn : j < n'
        · obtain ⟨ad', rfl, hbb, hcb⟩ := (hb.below hbel2).words.word (k := j) hjn
          have hyB := getD_lt (wf_digs y) j
          obtain ⟨yk, hgy⟩ : ∃ yk, (digs y).getD j 0 = yk := ⟨_, rfl⟩
          rw [hgy] at hcb hyB
          have hcs := hrow2.cell (i + j) (by omega)
          have hfs := hrow2.free (i + j)
          have hoB := getD_lt hwf2 (i + j)
          obtain ⟨o, hgo⟩ : ∃ o, l2.getD (i + j) 0 = o := ⟨_, rfl⟩
          rw [hgo] at hcs hoB
          obtain ⟨lo, hi', e1, hlo, hhi, hcall⟩ := timesPlus_any f yk o c0 hxB hyB hoB hc0
          have HP : Hid (val (l2.set (i + j) lo) + B ^ (i + (j + 1)) * hi' = val ((digs x).take i) * val (digs y) + B ^ i * ((digs x).getD i 0 * val ((digs y).take (j + 1)))) :=
            times_round l2 (digs y) i j _ _ lo hi' c0 (by rw [hrow2.len]; omega) HV2.out (by rw [hgy, hgo, HF.out]; exact e1)
          have HZ3 : Hid (∀ t, i + n' ≤ t → (l2.set (i + j) lo).getD t 0 = 0) := fun t ht => by rw [lgetD_set_ne _ _ _ _ (by omega)]; exact HZ2.out t ht
          clear e1 hgy hgo
          go_wp2_with fail
          refine (hcall _).mono ?_
          rintro e w' ⟨rfl, rfl⟩
          go_wp2
          go_roundw
          case rel => exact ⟨j + 1, hi', by omega, hhi, by go_num, rfl, _, hrow2.set (i + j) lo, hwf2.set _ hlo, HP.out, HZ3.out, hbel2.setCell (Nat.le_refl _) _⟩
          case measure => simp [intOf] <;> omega
        · obtain rfl : j = n' := by omega
          have hcs := hrow2.cell (i + j) (by omega)
          have hfs := hrow2.free (i + j)
          have HP : Hid (val (l2.set (i + j) c0) = val ((digs x).take (i + 1)) * val (digs y)) :=
            times_row l2 (digs x) (digs y) i j c0 (by rw [hrow2.len]; omega) (HZ2.out _ (Nat.le_refl _)) hB.out HV2.out
          have HZ3 : Hid (∀ t, i + 1 + j ≤ t → (l2.set (i + j) c0).getD t 0 = 0) := fun t ht => by rw [lgetD_set_ne _ _ _ _ (by omega)]; exact HZ2.out t (by omega)
          generalize l2.getD (i + j) 0 = old at hcs
          go_wp2
          go_roundw
          case rel => exact ⟨i + 1, by omega, by go_num, _, hrow2.set (i + j) c0, hwf2.set _ hc0, HP.out, HZ3.out, hbel2.setCell (Nat.le_refl _) _⟩
          case measure => simp [intOf] <;> omega
    · obtain rfl : i = n := by omega
      have hv : val ls = x * y := by rw [HV.out, List.take_of_length_le (by rw [hA.out]; exact Nat.le_refl _), val_digs, val_digs]
      have ht := trimmed_nat (some ⟨w.heap.size, 0, none⟩) (i + n') (i + n') ls wo hrow.words hwf (Nat.le_refl _) (by unfold maxLen; omega)
      rw [hv] at ht
      have HC := Lib.hid ht
      clear ht hv
      go_wp2_with fail
      refine HC.out.mono ?_
      rintro e w1 ⟨m, rfl, hn1, rfl⟩
      go_wp2
      go_ret
      exact ⟨_, m, _, rfl, hn1, hbel⟩

end Go.Proofs.YthmiamppfncfoaaGreatDoor

/- Contracts of the functions of package number on naturals: compare. -/
namespace Go.Proofs.YthmiamppfncfoaaGreatDoor
open Go.RowKit Bn

set_option maxHeartbeats 1000000 in
theorem compare_any (A A' : Option Addr) (n c n' c' x y : Nat) (w : World) (ha : NatS w w.heap.size A n c x) (hb : NatS w w.heap.size A' n' c' y) :
    Calls Tryz.prog 81 #[.slice A n c, .slice A' n' c'] w fun e w' => e = .returned (.int .i64 (ncmp x y)) ∧ ∃ q, w' = w.drewN q := by
  have hla := ha.len
  have hlb := hb.len
  have h1 := ha.cm
  have h2 := ha.nc
  have h3 := hb.cm
  have h4 := hb.nc
  unfold maxLen at h1 h3
  rcases Nat.lt_trichotomy n n' with hlt | heq | hgt
  · have hr : ncmp x y = -1 := ncmp_lt (lt_of_length_lt (by omega))
    have HR := Lib.hid hr
    clear hr hla hlb
    have e1 : (((n : Nat) : Int) != n') = true := by rw [bne_iff_ne]; omega
    have e2 : decide (n' < n) = false := by simp; omega
    go_enter Tryz.func81, Tryz.ntmps81
    go_wp2_with fail
    refine (sign_any _ _).mono ?_
    rintro e w1 ⟨rfl, rfl⟩
    go_wp2
    go_ret
    exact ⟨by rw [HR.out]; rfl, 0, rfl⟩
  · subst heq
    go_enter Tryz.func81, Tryz.ntmps81
    have HA := Lib.hid hla
    have HB := Lib.hid hlb
    clear hla hlb
    go_wp2_with fail
    go_loopw [5] (fun s wr => ∃ i : Int, -1 ≤ i ∧ i < n ∧ s = .int .i64 i ∧ Hid (∀ j (h : j < (digs x).length) (h' : j < (digs y).length), i < (j : Int) → (digs x)[j] = (digs y)[j]) ∧ ∃ q, wr = w.drewN q) (fun s _ => (intOf s + 1).toNat)
    case atStart =>
      refine ⟨_, by omega, by omega, rfl, ?_, 0, rfl⟩
      intro j h h' hj
      have := HA.out
      omega
    case round =>
      obtain ⟨i, hi1, hi2, rfl, hz, q, rfl⟩ := hrel
      by_cases h0 : 0 ≤ i
      · obtain ⟨k, rfl⟩ := Int.eq_ofNat_of_zero_le h0
        have hkn : k < n := by omega
        obtain ⟨ad, rfl, hba, hca⟩ := ha.words.word (k := k) hkn
        obtain ⟨ad', rfl, hbb, hcb⟩ := hb.words.word (k := k) hkn
        have hkx : k < (digs x).length := by rw [HA.out]; exact hkn
        have hky : k < (digs y).length := by rw [HB.out]; exact hkn
        have hcx : (digs x).getD k 0 = (digs x)[k] := by simp [List.getD, hkx]
        have hcy : (digs y).getD k 0 = (digs y)[k] := by simp [List.getD, hky]
        have HX := Lib.hid hcx
        have HY := Lib.hid hcy
        clear hcx hcy
        generalize hgx : (digs x).getD k 0 = xk at hca
        generalize hgy : (digs y).getD k 0 = yk at hcb
        have HGX := Lib.hid hgx
        have HGY := Lib.hid hgy
        clear hgx hgy
        have hck := hca
        have hi3 : (k : Int) < (n : Int) := by omega
        by_cases he : xk = yk
        · subst he
          have e3 : (((xk : Nat) : Int) != xk) = false := by simp
          go_wp2
          go_quiet (fail)
          go_wp2
          go_roundw
          case rel =>
            refine ⟨(k : Int) - 1, by omega, by omega, by go_num, ?_, _, rfl⟩
            intro j h h' hj
            rcases Nat.lt_or_ge k j with h5 | h5
            · exact hz.out j h h' (by omega)
            · obtain rfl : j = k := by omega
              rw [← HX.out, ← HY.out, HGX.out, HGY.out]
          case measure => simp [intOf] <;> omega
        · have e3 : (((xk : Nat) : Int) != yk) = true := by rw [bne_iff_ne]; omega
          have hlen : (digs x).length = (digs y).length := by rw [HA.out, HB.out]
          have HL := Lib.hid hlen
          clear hlen
          by_cases hlt : xk < yk
          · have hr : ncmp x y = -1 := ncmp_lt (digs_lt_at HL.out k hkx (fun j h h' hj => hz.out j h h' (by omega)) (by rw [HGX.out, HGY.out]; exact hlt))
            have HR := Lib.hid hr
            clear hr
            have e4 : decide (yk < xk) = false := by simp; omega
            go_wp2
            go_quiet (fail)
            go_wp2
            go_quiet ((go_at_call 102; first | exact quiet_add_left (sign_any _ _) | exact quiet_left (sign_any _ _)))
            go_wp2
            go_ret
            exact ⟨by rw [HR.out]; rfl, by first | exact ⟨_, rfl⟩ | (simp only [World.drewN_drewN]; exact ⟨_, rfl⟩)⟩
          · have hgt : yk < xk := by omega
            have hr : ncmp x y = 1 := ncmp_gt (digs_lt_at HL.out.symm k hky (fun j h h' hj => (hz.out j h' h (by omega)).symm) (by rw [HGX.out, HGY.out]; exact hgt))
            have HR := Lib.hid hr
            clear hr
            have e4 : decide (yk < xk) = true := by simp; omega
            go_wp2
            go_quiet (fail)
            go_wp2
            go_quiet ((go_at_call 102; first | exact quiet_add_left (sign_any _ _) | exact quiet_left (sign_any _ _)))
            go_wp2
            go_ret
            exact ⟨by rw [HR.out]; rfl, by first | exact ⟨_, rfl⟩ | (simp only [World.drewN_drewN]; exact ⟨_, rfl⟩)⟩
      · go_wp2
        go_ret
        obtain rfl : x = y := digs_eq_of (by rw [HA.out, HB.out]) (fun j h h' => hz.out j h h' (by omega))
        exact ⟨by rw [ncmp_eq]; rfl, q, rfl⟩
  · have hr : ncmp x y = 1 := ncmp_gt (lt_of_length_lt (by omega))
    have HR := Lib.hid hr
    clear hr hla hlb
    have e1 : (((n : Nat) : Int) != n') = true := by rw [bne_iff_ne]; omega
    have e2 : decide (n' < n) = true := by simp; omega
    go_enter Tryz.func81, Tryz.ntmps81
    go_wp2_with fail
    refine (sign_any _ _).mono ?_
    rintro e w1 ⟨rfl, rfl⟩
    go_wp2
    go_ret
    exact ⟨by rw [HR.out]; rfl, 0, rfl⟩
end Go.Proofs.YthmiamppfncfoaaGreatDoor
