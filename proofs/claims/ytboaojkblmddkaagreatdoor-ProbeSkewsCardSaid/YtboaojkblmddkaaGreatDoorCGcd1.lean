/- Contract of commonDivisor. -/
import Derived.Test.YtboaojkblmddkaaGreatDoorCDiv4
import Derived.Deep.LoopGhost
namespace Go.Proofs.YtboaojkblmddkaaGreatDoor
open Go.RowKit Bn

theorem coprime_two_odd (m : Nat) : Nat.Coprime 2 (2 * m + 1) := by
  unfold Nat.Coprime
  rw [Nat.gcd_rec, Nat.mul_add_mod, Nat.gcd_comm]
  rfl
theorem gcd_pow_odd (k a m : Nat) : Nat.gcd (2 ^ k * a) (2 * m + 1) = Nat.gcd a (2 * m + 1) :=
  Nat.Coprime.gcd_mul_left_cancel a (Nat.Coprime.pow_left k (coprime_two_odd m))

/-- the odd part -/
def odd (n : Nat) : Nat := n / 2 ^ ntz n
theorem odd_spec {n : Nat} (h : 0 < n) : n = 2 ^ ntz n * odd n ∧ ∃ m, odd n = 2 * m + 1 := by
  obtain ⟨m, hm⟩ := ntz_spec h
  have e : odd n = 2 * m + 1 := by
    unfold odd
    conv => lhs; lhs; rw [hm]
    rw [Nat.mul_div_cancel_left _ (Nat.two_pow_pos _)]
  exact ⟨by rw [e]; exact hm, m, e⟩
theorem odd_pos {n : Nat} (h : 0 < n) : 0 < odd n := by
  obtain ⟨_, m, e⟩ := odd_spec h
  omega

theorem ntz_le {n k : Nat} (h : 0 < n) (hk : (digs n).length ≤ k) : ntz n ≤ 64 * k := by
  obtain ⟨m, hm⟩ := ntz_spec h
  have h1 := lt_of_digs_length n
  have h2 : B ^ (digs n).length ≤ B ^ k := Nat.pow_le_pow_right B_pos hk
  have h3 : 2 ^ ntz n ≤ n := by
    conv => rhs; rw [hm]
    exact Nat.le_mul_of_pos_right _ (by omega)
  rcases Nat.lt_or_ge (64 * k) (ntz n) with h4 | h4
  · exfalso
    have h5 : 2 ^ (64 * k) ≤ 2 ^ ntz n := Nat.pow_le_pow_right (by omega) (by omega)
    rw [Nat.pow_mul, ← B_two] at h5
    omega
  · exact h4

theorem ntz_div {n : Nat} (h : 0 < n) : ntz n / 64 < (digs n).length := by
  obtain ⟨m, hm⟩ := ntz_spec h
  have h1 := lt_of_digs_length n
  have h3 : 2 ^ ntz n ≤ n := by
    conv => rhs; rw [hm]
    exact Nat.le_mul_of_pos_right _ (by omega)
  rcases Nat.lt_or_ge (ntz n / 64) (digs n).length with h4 | h4
  · exact h4
  · exfalso
    have h5 : 2 ^ (64 * (digs n).length) ≤ 2 ^ ntz n := Nat.pow_le_pow_right (by omega) (by omega)
    rw [Nat.pow_mul, ← B_two] at h5
    omega

theorem gcd_two_pows (s t a b : Nat) (ha : ∃ m, a = 2 * m + 1) (hb : ∃ m, b = 2 * m + 1) : Nat.gcd (2 ^ s * a) (2 ^ t * b) = 2 ^ min s t * Nat.gcd a b := by
  obtain ⟨m, rfl⟩ := ha
  obtain ⟨k, rfl⟩ := hb
  rcases Nat.le_total s t with h | h
  · obtain ⟨d, rfl⟩ : ∃ d, t = s + d := ⟨t - s, by omega⟩
    rw [Nat.min_eq_left h, Nat.pow_add, Nat.mul_assoc, Nat.gcd_mul_left, Nat.gcd_comm, gcd_pow_odd, Nat.gcd_comm]
  · obtain ⟨d, rfl⟩ : ∃ d, s = t + d := ⟨s - t, by omega⟩
    rw [Nat.min_eq_right h, Nat.pow_add, Nat.mul_assoc, Nat.gcd_mul_left, gcd_pow_odd]
theorem gcd_odds {x y : Nat} (hx : 0 < x) (hy : 0 < y) : Nat.gcd x y = Nat.gcd (odd x) (odd y) * 2 ^ min (ntz x) (ntz y) := by
  obtain ⟨e1, o1⟩ := odd_spec hx
  obtain ⟨e2, o2⟩ := odd_spec hy
  have h := gcd_two_pows (ntz x) (ntz y) (odd x) (odd y) o1 o2
  rw [← e1, ← e2] at h
  rw [h, Nat.mul_comm]

/-- a step of the binary way -/
theorem gcd_step {x y : Nat} (hy : ∃ m, y = 2 * m + 1) (hlt : y < x) : Nat.gcd (odd (x - y)) y = Nat.gcd x y := by
  obtain ⟨e, _⟩ := odd_spec (n := x - y) (by omega)
  obtain ⟨m, rfl⟩ := hy
  have h1 : Nat.gcd (x - (2 * m + 1)) (2 * m + 1) = Nat.gcd x (2 * m + 1) := Nat.gcd_sub_self_left (by omega)
  rw [← h1]
  conv => rhs; rw [e]
  rw [gcd_pow_odd]

theorem odd_le {n : Nat} (h : 0 < n) : odd n ≤ n := Nat.div_le_self _ _

set_option maxHeartbeats 4000000 in
set_option maxRecDepth 100000 in
theorem gcd_any (A A' : Option Addr) (n c n' c' x y : Nat) (w : World) (hT : Tabs w) (ha : NatS w w.heap.size A n c x) (hb : NatS w w.heap.size A' n' c' y) (hn : n ≤ 1073741824) (hn' : n' ≤ 1073741824) :
    Calls Tryz.prog 141 #[.slice A n c, .slice A' n' c'] w (RetNat w (Nat.gcd x y)) := by
  have h1 := ha.nc
  have h2 := ha.cm
  have h3 := hb.nc
  have h4 := hb.cm
  unfold maxLen at h2 h4
  go_enter Tryz.func141, Tryz.ntmps141
  go_upto_if 12 with (fail)
  go_cut [0, 1] (fun s s' wc => ∃ A n c A' n' c' u v, s = .slice A n c ∧ s' = .slice A' n' c' ∧ NatS w w.heap.size A n c u ∧ NatS w w.heap.size A' n' c' v ∧ n' ≤ n ∧ n ≤ 1073741824 ∧ Hid (Nat.gcd u v = Nat.gcd x y) ∧ wc = w)
  case first =>
    by_cases hlt : n < n'
    · have hd : decide (n < n') = true := by simpa using hlt
      go_wp2_with fail
      go_meet
      exact ⟨A', n', c', A, n, c, y, x, rfl, rfl, hb, ha, by omega, hn', Nat.gcd_comm _ _, rfl⟩
    · have hd : decide (n < n') = false := by simpa using hlt
      go_wp2_with fail
      go_meet
      exact ⟨A, n, c, A', n', c', x, y, rfl, rfl, ha, hb, by omega, hn, rfl, rfl⟩
  case rest =>
    clear ha hb hn hn' h1 h2 h3 h4
    obtain ⟨A, n, c, A', n', c', u, v, rfl, rfl, ha, hb, hle, hn, hg, rfl⟩ := hcut
    have h1 := ha.nc
    have h2 := ha.cm
    have h3 := hb.nc
    have h4 := hb.cm
    have hz := isZero_any A' n' c' wc (by omega)
    unfold maxLen at h2 h4
    have HA := Lib.hid ha.len
    have HB := Lib.hid hb.len
    have hn'2 : n' ≤ 1073741824 := by omega
    obtain ⟨tb, htb⟩ : ∃ tb, tb = (decide (n' < n) && !decide (n' = 0)) := ⟨_, rfl⟩
    have HTB := Lib.hid htb
    clear htb
    go_upto_region 3 with (fail)
    go_cut [24] (fun b wd => b = .bool tb ∧ wd = wc)
    case first =>
      by_cases hlt : n' < n
      · have hd : decide (n' < n) = true := by simpa using hlt
        have hn0 : ∃ z, ((n' : Int) == 0) = z := ⟨_, rfl⟩
        obtain ⟨z, hn0⟩ := hn0
        rw [hn0] at hz
        go_wp2_with (go_at_call 174; refine hz.mono ?_; rintro e w1 ⟨rfl, rfl⟩)
        go_meet
        refine ⟨?_, rfl⟩
        rw [HTB.out, hd, ← hn0]
        congr 1
        rw [Bool.true_and]
        congr 1
        rw [Bool.eq_iff_iff]
        simp
      · have hd : decide (n' < n) = false := by simpa using hlt
        go_wp2_with fail
        go_meet
        exact ⟨by rw [HTB.out, hd]; rfl, rfl⟩
    case rest =>
      obtain ⟨rfl, rfl⟩ := hcut
      go_upto_if 24 with (fail)
      go_cut [0] (fun s wd => ∃ A2 n2 c2 u2, s = .slice A2 n2 c2 ∧ NatS wd wd.heap.size A2 n2 c2 u2 ∧ NatS wd wd.heap.size A' n' c' v ∧ n2 ≤ 1073741824 ∧ Hid (Nat.gcd u2 v = Nat.gcd x y) ∧ Below wc.heap.size wc wd)
      case first =>
        cases tb
        · go_wp2_with fail
          go_meet
          exact ⟨A, n, c, u, rfl, ha, hb, hn, hg, Below.refl _ _⟩
        · have hv : 0 < v := by
            have h := HTB.out
            rcases Nat.eq_zero_or_pos v with rfl | h0
            · have h5 := HB.out
              rw [digs_zero] at h5
              simp at h5
              subst h5
              simp at h
            · exact h0
          have hov := over_any A A' n c n' c' u v wc ha hb hv (by omega)
          go_wp2_with fail
          refine hov.mono ?_
          rintro e w1 ⟨A1, m1, c1, A2, m2, c2, rfl, hq1, hr1, hb1⟩
          go_wp2_with fail
          go_meet
          refine ⟨A2, m2, c2, u % v, rfl, hr1, hb.later hb1, ?_, ?_, hb1⟩
          · have h6 := hr1.len
            have h7 := digs_length_mono (Nat.le_of_lt (Nat.mod_lt u hv))
            rw [HB.out] at h7
            omega
          · rw [Hid, ← hg.out, ← Nat.gcd_rec v u, Nat.gcd_comm]
      case rest =>
        clear ha hb h1 h2 h3 h4 hz HA HTB hg hn
        obtain ⟨A, n, c, u, rfl, ha, hb, hn, hg, hbel⟩ := hcut
        have hTd := hT.later hbel
        have h1 := ha.nc
        have h2 := ha.cm
        have h3 := hb.nc
        have h4 := hb.cm
        have hz1 := fun W : World => isZero_any A n c W (by omega)
        have hz2 := fun W : World => isZero_any A' n' c' W (by omega)
        unfold maxLen at h2 h4
        by_cases hu0 : n = 0
        · subst hu0
          obtain rfl : u = 0 := digs_length_zero.1 ha.len
          go_wp2_with fail
          refine (hz1 _).mono ?_
          rintro e w1 ⟨rfl, rfl⟩
          go_wp2_with fail
          go_ret
          exact ⟨A', n', c', rfl, by rw [← hg.out, Nat.gcd_zero_left]; exact hb, hbel⟩
        · have hu : 0 < u := by
            rcases Nat.eq_zero_or_pos u with rfl | h
            · exact absurd (by rw [← ha.len, digs_zero]; rfl) hu0
            · exact h
          have hn0 : (((n : Nat) : Int) == 0) = false := by rw [beq_eq_false_iff_ne]; omega
          simp only [hn0] at hz1
          by_cases hv0 : n' = 0
          · subst hv0
            obtain rfl : v = 0 := digs_length_zero.1 hb.len
            go_wp2_with fail
            refine (hz1 _).mono ?_
            rintro e w1 ⟨rfl, rfl⟩
            go_wp2_with fail
            refine (hz2 _).mono ?_
            rintro e w1 ⟨rfl, rfl⟩
            go_wp2_with fail
            go_ret
            exact ⟨A, n, c, rfl, by rw [← hg.out, Nat.gcd_zero_right]; exact ha, hbel⟩
          · have hv : 0 < v := by
              rcases Nat.eq_zero_or_pos v with rfl | h
              · exact absurd (by rw [← hb.len, digs_zero]; rfl) hv0
              · exact h
            have hn0' : (((n' : Nat) : Int) == 0) = false := by rw [beq_eq_false_iff_ne]; omega
            simp only [hn0'] at hz2
            have hlz : ntz u ≤ 1099511627776 ∧ ntz v ≤ 1099511627776 := by
              have k1 := ntz_le hu (by rw [ha.len]; exact hn)
              have k2 := ntz_le hv (by rw [hb.len]; exact hn'2)
              omega
            go_wp2_with fail
            refine (hz1 _).mono ?_
            rintro e w1 ⟨rfl, rfl⟩
            go_wp2_with fail
            refine (hz2 _).mono ?_
            rintro e w1 ⟨rfl, rfl⟩
            go_wp2_with fail
            refine (twos_any A n c u _ hTd ha hu (by omega)).mono ?_
            rintro e w1 ⟨rfl, rfl⟩
            go_wp2_with fail
            refine (shiftedRight_any A n c u (ntz u) _ ha (by omega) hlz.1).mono ?_
            rintro e w1 ⟨hb1, hr1⟩
            rcases hr1 with ⟨_, hbad⟩ | ⟨gx, mx, cx, rfl, hrx⟩
            · exact absurd hbad (by have := odd_pos hu; unfold odd at this; omega)
            have hTd1 := hTd.later hb1
            go_wp2_with fail
            refine (twos_any A' n' c' v _ hTd1 (hb.later hb1) hv (by omega)).mono ?_
            rintro e w2 ⟨rfl, rfl⟩
            go_wp2_with fail
            refine (shiftedRight_any A' n' c' v (ntz v) _ (hb.later hb1) (by omega) hlz.2).mono ?_
            rintro e w3 ⟨hb3, hr3⟩
            rcases hr3 with ⟨_, hbad⟩ | ⟨gy, my, cy, rfl, hry⟩
            · exact absurd hbad (by have := odd_pos hv; unfold odd at this; omega)
            have hrx3 := hrx.below hb3
            have hgne : gx ≠ gy := by have := hrx.lt; have := hry.lt; omega
            have hry3 := hry.mono hb1.size
            have hbel3 : Below wc.heap.size wc w3 := hb1.trans (hb3.mono hb1.size)
            have hlx : mx ≤ 1073741824 := by
              have k1 := hrx.len
              have k2 := digs_length_mono (odd_le hu)
              have k3 := ha.len
              unfold odd at k2
              omega
            have hly : my ≤ 1073741824 := by
              have k1 := hry.len
              have k2 := digs_length_mono (odd_le hv)
              have k3 := hb.len
              unfold odd at k2
              omega
            have HU := Lib.hid (odd_spec hu)
            have HV := Lib.hid (odd_spec hv)
            have HUP := Lib.hid (odd_pos hu)
            have HVP := Lib.hid (odd_pos hv)
            have HG : Hid (Nat.gcd u v = Nat.gcd (odd u) (odd v) * 2 ^ min (ntz u) (ntz v)) := gcd_odds hu hv
            have hrx4 : RowAt w3 wc.heap.size gx mx cx (digs (odd u)) := hrx3
            have hry4 : RowAt w3 wc.heap.size gy my cy (digs (odd v)) := hry3
            clear hrx hry hrx3 hry3 hz1 hz2 hTd1 hb1 hb3
            obtain ⟨U, hU⟩ : ∃ U, U = odd u := ⟨_, rfl⟩
            obtain ⟨V, hV⟩ : ∃ V, V = odd v := ⟨_, rfl⟩
            rw [← hU] at HU HUP HG hrx4
            rw [← hV] at HV HVP HG hry4
            clear hU hV
            go_upto_block 0 with (fail)
            go_cut [5, 6, 7] (fun sx sy _ we => ∃ gx mx cx X gy my cy Y, sx = .slice (some ⟨gx, 0, none⟩) mx cx ∧ sy = .slice (some ⟨gy, 0, none⟩) my cy ∧ RowAt we wc.heap.size gx mx cx (digs X) ∧ RowAt we wc.heap.size gy my cy (digs Y) ∧ mx ≤ 1073741824 ∧ my ≤ 1073741824 ∧ Hid (Nat.gcd X Y = Nat.gcd U V) ∧ Hid (Y = 1 ∨ Nat.gcd X Y = X ∧ Y ≠ 1) ∧ Below wc.heap.size wc we)
            case first =>
              go_wp2_with fail
              go_loopg [5, 6, 7] (U + V) (fun G sx sy _ we => ∃ gx mx cx X gy my cy Y, sx = .slice (some ⟨gx, 0, none⟩) mx cx ∧ sy = .slice (some ⟨gy, 0, none⟩) my cy ∧ gx ≠ gy ∧ RowAt we wc.heap.size gx mx cx (digs X) ∧ RowAt we wc.heap.size gy my cy (digs Y) ∧ mx ≤ 1073741824 ∧ my ≤ 1073741824 ∧ (0 < X ∧ 0 < Y ∧ (∃ m, X = 2 * m + 1) ∧ ∃ m, Y = 2 * m + 1) ∧ Hid (Nat.gcd X Y = Nat.gcd U V) ∧ Below wc.heap.size wc we ∧ X + Y ≤ G)
              case atStart => exact ⟨gx, mx, cx, U, gy, my, cy, V, rfl, rfl, hgne, hrx4, hry4, hlx, hly, ⟨HUP.out, HVP.out, HU.out.2, HV.out.2⟩, rfl, hbel3, Nat.le_refl _⟩
              case round =>
                clear hrx4 hry4 hlx hly hgne hbel3
                obtain ⟨gx, mx, cx, X, gy, my, cy, Y, rfl, rfl, hne, hrx, hry, hlx, hly, hp, hgc, hbe, hG⟩ := hrel
                obtain ⟨we, rfl⟩ : ∃ we : World, we = wr := ⟨_, rfl⟩
                have hT4 := hTd.later hbe
                have ho1 := isOne_any _ mx cx X we hrx.nat
                have ho2 := isOne_any _ my cy Y we hry.nat
                have hcm := compare_any _ _ mx cx my cy X Y we hrx.nat hry.nat
                have HP := Lib.hid hp
                clear hp
                by_cases hX1 : X = 1
                · have d1 : decide (X = 1) = true := by simpa using hX1
                  rw [d1] at ho1
                  have HX1 := Lib.hid hX1
                  clear hX1 d1
                  go_wp2_with fail
                  refine ho1.mono ?_
                  rintro e w1 ⟨rfl, rfl⟩
                  go_wp2_with fail
                  go_meet
                  refine ⟨gx, mx, cx, X, gy, my, cy, Y, rfl, rfl, hrx, hry, hlx, hly, hgc, ?_, hbe⟩
                  by_cases hY1 : Y = 1
                  · exact .inl hY1
                  · exact .inr ⟨by rw [HX1.out, Nat.gcd_one_left], hY1⟩
                · have d1 : decide (X = 1) = false := by simpa using hX1
                  rw [d1] at ho1
                  by_cases hY1 : Y = 1
                  · have d2 : decide (Y = 1) = true := by simpa using hY1
                    rw [d2] at ho2
                    have HY1 := Lib.hid hY1
                    clear hX1 d1 hY1 d2
                    go_wp2_with fail
                    refine ho1.mono ?_
                    rintro e w1 ⟨rfl, rfl⟩
                    go_wp2_with fail
                    refine ho2.mono ?_
                    rintro e w1 ⟨rfl, rfl⟩
                    go_wp2_with fail
                    go_meet
                    exact ⟨gx, mx, cx, X, gy, my, cy, Y, rfl, rfl, hrx, hry, hlx, hly, hgc, .inl HY1.out, hbe⟩
                  · have d2 : decide (Y = 1) = false := by simpa using hY1
                    rw [d2] at ho2
                    have HY1 := Lib.hid hY1
                    clear hX1 d1 hY1 d2
                    rcases Nat.lt_trichotomy X Y with hlt | heq | hgt
                    · rw [ncmp_lt hlt] at hcm
                      go_wp2_with fail
                      refine ho1.mono ?_
                      rintro e w1 ⟨rfl, rfl⟩
                      go_wp2_with fail
                      refine ho2.mono ?_
                      rintro e w1 ⟨rfl, rfl⟩
                      go_wp2_with fail
                      refine hcm.mono ?_
                      rintro e w1 ⟨rfl, q4, rfl⟩
                      have hrx := hrx.drewN q4
                      have hry := hry.drewN q4
                      have hbe := below_drewN hbe q4
                      have hT4 := hTd.later hbe
                      have hp := HP.out
                      clear ho1 ho2 hcm
                      have hle : X ≤ Y := by omega
                      have hsub := subtract_any (some ⟨gy, 0, none⟩) (some ⟨gx, 0, none⟩) wc.heap.size gy my cy my cy mx cx Y X (digs Y) (we.drewN q4) True hry (wf_digs Y) hry.nat hrx.nat (.inr ⟨rfl, rfl, trivial⟩) (fun _ ad h => by injection h with h; subst h; exact hne) (Nat.le_refl _) hle (by omega)
                      go_wp2_with fail
                      refine hsub.mono ?_
                      rintro e w5 ⟨m5, rfl, hr5, hg5⟩
                      have hp5 : 0 < Y - X := by omega
                      have hT5 := hTd.only4 hbe hg5 hry.lt.1
                      have hm5 : m5 ≤ 1073741824 := by
                        have k1 := hr5.len
                        have k2 := digs_length_mono (Nat.sub_le Y X)
                        have k3 := hry.len
                        omega
                      go_wp2_with fail
                      refine (twos_any _ m5 cy (Y - X) _ hT5 hr5.nat hp5 (by omega)).mono ?_
                      rintro e w6 ⟨rfl, rfl⟩
                      have hz5 := ntz_le hp5 (by rw [hr5.len]; exact hm5)
                      have hsh := shift_any (some ⟨gy, 0, none⟩) wc.heap.size gy m5 cy m5 cy (Y - X) (ntz (Y - X)) (digs (Y - X)) w5 True hr5 (wf_digs _) hr5.nat (.inr ⟨rfl, rfl, trivial⟩) (Nat.le_refl _) (by omega) (by omega) (by rw [← hr5.len]; exact ntz_div hp5)
                      go_wp2_with fail
                      refine hsh.mono ?_
                      rintro e w7 ⟨m7, rfl, hr7, hg7⟩
                      have hm7 : m7 ≤ 1073741824 := by
                        have k1 := hr7.len
                        have k2 := digs_length_mono (odd_le hp5)
                        have k3 := hr5.len
                        unfold odd at k2
                        omega
                      have hgg := only_trans hg5 hg7
                      have hry7 := hrx.kept hgg (by intro e; injection e with e; exact hne e.symm)
                      have hbe7 := hbe.grown hgg hbe.size (fun k hk => by cases hk; exact hry.lt.1)
                      have hr8 : RowAt w7 wc.heap.size gy m7 cy (digs (odd (Y - X))) := hr7
                      have hlt7 := odd_le hp5
                      have hpo7 := odd_pos hp5
                      have hod7 := (odd_spec hp5).2
                      have hgc7 : Hid (Nat.gcd (odd (Y - X)) X = Nat.gcd U V) := by rw [Hid, ← hgc.out]; rw [Nat.gcd_comm X Y]; exact gcd_step hp.2.2.1 (by omega)
                      go_wp2_with fail
                      go_roundg (odd (Y - X) + X)
                      case measure => omega
                      case rel => exact ⟨gy, m7, cy, odd (Y - X), gx, mx, cx, X, rfl, rfl, hne.symm, hr8, hry7, hm7, hlx, ⟨hpo7, hp.1, hod7, hp.2.2.1⟩, hgc7, hbe7, Nat.le_refl _⟩
                    · rw [heq, ncmp_eq] at hcm
                      have HE := Lib.hid heq
                      clear heq
                      go_wp2_with fail
                      refine ho1.mono ?_
                      rintro e w1 ⟨rfl, rfl⟩
                      go_wp2_with fail
                      refine ho2.mono ?_
                      rintro e w1 ⟨rfl, rfl⟩
                      go_wp2_with fail
                      refine hcm.mono ?_
                      rintro e w1 ⟨rfl, q4, rfl⟩
                      go_wp2_with fail
                      go_meet
                      exact ⟨gx, mx, cx, X, gy, my, cy, Y, rfl, rfl, hrx.drewN q4, hry.drewN q4, hlx, hly, hgc, .inr ⟨by rw [HE.out, Nat.gcd_self], HY1.out⟩, below_drewN hbe q4⟩
                    · rw [ncmp_gt hgt] at hcm
                      go_wp2_with fail
                      refine ho1.mono ?_
                      rintro e w1 ⟨rfl, rfl⟩
                      go_wp2_with fail
                      refine ho2.mono ?_
                      rintro e w1 ⟨rfl, rfl⟩
                      go_wp2_with fail
                      refine hcm.mono ?_
                      rintro e w1 ⟨rfl, q4, rfl⟩
                      have hrx := hrx.drewN q4
                      have hry := hry.drewN q4
                      have hbe := below_drewN hbe q4
                      have hT4 := hTd.later hbe
                      have hp := HP.out
                      clear ho1 ho2 hcm
                      have hle : Y ≤ X := by omega
                      have hsub := subtract_any (some ⟨gx, 0, none⟩) (some ⟨gy, 0, none⟩) wc.heap.size gx mx cx mx cx my cy X Y (digs X) (we.drewN q4) True hrx (wf_digs X) hrx.nat hry.nat (.inr ⟨rfl, rfl, trivial⟩) (fun _ ad h => by injection h with h; subst h; exact hne.symm) (Nat.le_refl _) hle (by omega)
                      go_wp2_with fail
                      refine hsub.mono ?_
                      rintro e w5 ⟨m5, rfl, hr5, hg5⟩
                      have hp5 : 0 < X - Y := by omega
                      have hT5 := hTd.only4 hbe hg5 hrx.lt.1
                      have hm5 : m5 ≤ 1073741824 := by
                        have k1 := hr5.len
                        have k2 := digs_length_mono (Nat.sub_le X Y)
                        have k3 := hrx.len
                        omega
                      go_wp2_with fail
                      refine (twos_any _ m5 cx (X - Y) _ hT5 hr5.nat hp5 (by omega)).mono ?_
                      rintro e w6 ⟨rfl, rfl⟩
                      have hz5 := ntz_le hp5 (by rw [hr5.len]; exact hm5)
                      have hsh := shift_any (some ⟨gx, 0, none⟩) wc.heap.size gx m5 cx m5 cx (X - Y) (ntz (X - Y)) (digs (X - Y)) w5 True hr5 (wf_digs _) hr5.nat (.inr ⟨rfl, rfl, trivial⟩) (Nat.le_refl _) (by omega) (by omega) (by rw [← hr5.len]; exact ntz_div hp5)
                      go_wp2_with fail
                      refine hsh.mono ?_
                      rintro e w7 ⟨m7, rfl, hr7, hg7⟩
                      have hm7 : m7 ≤ 1073741824 := by
                        have k1 := hr7.len
                        have k2 := digs_length_mono (odd_le hp5)
                        have k3 := hr5.len
                        unfold odd at k2
                        omega
                      have hgg := only_trans hg5 hg7
                      have hry7 := hry.kept hgg (by intro e; injection e with e; exact hne e)
                      have hbe7 := hbe.grown hgg hbe.size (fun k hk => by cases hk; exact hrx.lt.1)
                      have hr8 : RowAt w7 wc.heap.size gx m7 cx (digs (odd (X - Y))) := hr7
                      have hlt7 := odd_le hp5
                      have hpo7 := odd_pos hp5
                      have hod7 := (odd_spec hp5).2
                      have hgc7 : Hid (Nat.gcd (odd (X - Y)) Y = Nat.gcd U V) := by rw [Hid, ← hgc.out]; exact gcd_step hp.2.2.2 (by omega)
                      go_wp2_with fail
                      go_roundg (odd (X - Y) + Y)
                      case measure => omega
                      case rel => exact ⟨gx, m7, cx, odd (X - Y), gy, my, cy, Y, rfl, rfl, hne, hr8, hry7, hm7, hly, ⟨hpo7, hp.2.1, hod7, hp.2.2.2⟩, hgc7, hbe7, Nat.le_refl _⟩
            case rest =>
              clear hrx4 hry4 hlx hly hgne
              obtain ⟨gx, mx, cx, X, gy, my, cy, Y, rfl, rfl, hrx, hry, hlx, hly, hgc, hend, hbe⟩ := hcut
              have ho2 := fun W : World => fun h => isOne_any (some ⟨gy, 0, none⟩) my cy Y W h
              have hTe := hTd.later hbe
              have hau := ha.later hbe
              have hbv := hb.later hbe
              have hmin : Nat.gcd x y = Nat.gcd X Y * 2 ^ min (ntz u) (ntz v) := by rw [← hg.out, HG.out, hgc.out]
              obtain ⟨sm, hsm⟩ : ∃ sm, sm = min (ntz u) (ntz v) := ⟨_, rfl⟩
              have hsml : sm ≤ 1099511627776 := by rw [hsm]; exact Nat.le_trans (Nat.min_le_left _ _) hlz.1
              have esm : min ((ntz u : Nat) : Int) ((ntz v : Nat) : Int) = (sm : Int) := by rw [hsm]; omega
              rw [← hsm] at hmin
              have HM := Lib.hid hmin
              clear hmin hsm
              rcases hend.out with h1Y | ⟨hXg, hY1⟩
              · have d2 : decide (Y = 1) = true := by simpa using h1Y
                have ho := ho2 _ hry.nat
                rw [d2] at ho
                have HY := Lib.hid h1Y
                clear ho2 d2 h1Y
                go_wp2_with fail
                refine ho.mono ?_
                rintro e w4 ⟨rfl, rfl⟩
                go_wp2_with fail
                refine (twos_any A n c u _ hTe hau hu (by omega)).mono ?_
                rintro e w4 ⟨rfl, rfl⟩
                go_wp2_with fail
                refine (twos_any A' n' c' v _ hTe hbv hv (by omega)).mono ?_
                rintro e w4 ⟨rfl, rfl⟩
                have hsl := shiftedLeft_any (some ⟨gy, 0, none⟩) my cy Y sm _ hry.nat (by omega) hsml
                have HSL := Lib.hid hsl
                clear hsl
                go_wp2_with fail
                refine HSL.out.mono ?_
                rintro e w5 ⟨A5, m5, c5, rfl, hn5, hb5⟩
                go_wp2_with fail
                go_ret
                refine ⟨A5, m5, c5, rfl, ?_, hbel.trans ((hbe.trans (hb5.mono hbe.size)).mono hbel.size)⟩
                rw [HM.out, show Nat.gcd X Y = Y by rw [HY.out, Nat.gcd_one_right]]
                exact hn5
              · have d2 : decide (Y = 1) = false := by simpa using hY1
                have ho := ho2 _ hry.nat
                rw [d2] at ho
                have HXG := Lib.hid hXg
                clear ho2 d2 hXg hY1
                go_wp2_with fail
                refine ho.mono ?_
                rintro e w4 ⟨rfl, rfl⟩
                go_wp2_with fail
                refine (twos_any A n c u _ hTe hau hu (by omega)).mono ?_
                rintro e w4 ⟨rfl, rfl⟩
                go_wp2_with fail
                refine (twos_any A' n' c' v _ hTe hbv hv (by omega)).mono ?_
                rintro e w4 ⟨rfl, rfl⟩
                have hsl := shiftedLeft_any (some ⟨gx, 0, none⟩) mx cx X sm _ hrx.nat (by omega) hsml
                have HSL := Lib.hid hsl
                clear hsl
                go_wp2_with fail
                refine HSL.out.mono ?_
                rintro e w5 ⟨A5, m5, c5, rfl, hn5, hb5⟩
                go_wp2_with fail
                go_ret
                refine ⟨A5, m5, c5, rfl, ?_, hbel.trans ((hbe.trans (hb5.mono hbe.size)).mono hbel.size)⟩
                rw [HM.out, HXG.out]
                exact hn5

end Go.Proofs.YtboaojkblmddkaaGreatDoor
