/- ProbeRebuilds: the errors of times, the line of valid times; plain, and probe's checkTimes and FromChanges of any times. -/
import Derived.Test.YtboaojkblmddkaaGreatDoorCRf3
import Derived.Deep.LoopGhost
import Derived.BigQuiet
namespace Go.Proofs.YtboaojkblmddkaaGreatDoor
open Go.RowKit

/-- the first error of times of a line whose last time may be m -/
def chkT (m : Int) : Int → List Int → Int
  | _, [] => 0
  | last, t :: r => if rangeE t 0 m ≠ 0 then rangeE t 0 m else if t ≤ last then 11 else chkT m t r
theorem chkT_nil (m last : Int) : chkT m last [] = 0 := rfl
theorem chkT_cons (m last t : Int) (r : List Int) : chkT m last (t :: r) = if rangeE t 0 m ≠ 0 then rangeE t 0 m else if t ≤ last then 11 else chkT m t r := rfl
/-- the error of changes -/
def fcE (N : Nat) (n : Int) (ts : List Int) : Int := firstE [if (4096 : Int) < (N : Int) then 5 else 0, rangeE n 0 4096, chkT (wrap64 (n - 1)) (-1) ts]

theorem firstE_all3 {a b c : Int} (h : firstE [a, b, c] = 0) : a = 0 ∧ b = 0 ∧ c = 0 := by
  have e : firstE [a, b, c] = if a ≠ 0 then a else if b ≠ 0 then b else if c ≠ 0 then c else 0 := rfl
  rw [e] at h
  split at h
  · rename_i h1; exact absurd h h1
  · rename_i h1
    split at h
    · rename_i h2; exact absurd h h2
    · rename_i h2
      split at h
      · rename_i h3; exact absurd h h3
      · rename_i h3
        exact ⟨Classical.byContradiction h1, Classical.byContradiction h2, Classical.byContradiction h3⟩
theorem chkT_ok (m : Int) : ∀ (ts : List Int) (last : Int), chkT m last ts = 0 → (∀ t ∈ ts, last < t ∧ 0 ≤ t ∧ t ≤ m) ∧ ts.Pairwise (· < ·)
  | [], _, _ => ⟨(fun t h => by cases h), List.Pairwise.nil⟩
  | t :: r, last, h => by
    unfold chkT at h
    split at h
    · rename_i h1; exact absurd h h1
    · rename_i h1
      split at h
      · cases h
      · rename_i h2
        obtain ⟨h3, h4⟩ := chkT_ok m r t h
        have h5 : 0 ≤ t ∧ t ≤ m := by
          unfold rangeE at h1
          split at h1
          · exact absurd (by decide) h1
          · omega
        refine ⟨fun x hx => ?_, List.pairwise_cons.2 ⟨fun x hx => (h3 x hx).1, h4⟩⟩
        rcases List.mem_cons.1 hx with rfl | hx
        · omega
        · have := h3 x hx; omega

theorem chgB_app (b : Bool) (l : List Bool) (x : Bool) (i : Nat) (h : i < l.length) : chgB b (l ++ [x]) i = chgB b l i := by
  unfold chgB
  have e1 : (l ++ [x]).getD i false = l.getD i false := by simp [List.getD, List.getElem?_append_left h]
  have e2 : (l ++ [x]).getD (i - 1) false = l.getD (i - 1) false := by simp [List.getD, List.getElem?_append_left (show i - 1 < l.length by omega)]
  rw [e1, e2]
theorem chg_app (b : Bool) (l : List Bool) (x : Bool) (n : Nat) (h : l.length = n) : chg b (l ++ [x]) n = chg b l n := by
  unfold chg
  refine List.filter_congr fun i hi => ?_
  rw [chgB_app b l x i (by have := List.mem_range.1 hi; omega)]
theorem chgB_last (b : Bool) (l : List Bool) (x : Bool) (n : Nat) (h : l.length = n) : chgB b (l ++ [x]) n = (x != prv b l n) := by
  unfold chgB prv
  have e1 : (l ++ [x]).getD n false = x := by simp [List.getD, ← h]
  rw [e1]
  by_cases h0 : n = 0
  · rw [if_pos h0, if_pos h0]
  · rw [if_neg h0, if_neg h0]
    have e2 : (l ++ [x]).getD (n - 1) false = l.getD (n - 1) false := by simp [List.getD, List.getElem?_append_left (show n - 1 < l.length by omega)]
    rw [e2]

/-- valid times are the changes of a line -/
theorem line_of (b : Bool) : ∀ (n : Nat) (ts : List Nat), ts.Pairwise (· < ·) → (∀ t ∈ ts, t < n) → ∃ l : List Bool, l.length = n ∧ chg b l n = ts
  | 0, ts, _, hb => by
    cases ts with
    | nil => exact ⟨[], rfl, rfl⟩
    | cons t r => exact absurd (hb t List.mem_cons_self) (Nat.not_lt_zero _)
  | n + 1, ts, hp, hb => by
    by_cases hn : n ∈ ts
    · obtain ⟨L, R, rfl⟩ := List.append_of_mem hn
      have hR : R = [] := by
        cases R with
        | nil => rfl
        | cons y R =>
          have h1 := (List.pairwise_append.1 hp).2.1
          have h2 := (List.pairwise_cons.1 h1).1 y List.mem_cons_self
          have h3 := hb y (by simp)
          omega
      subst hR
      obtain ⟨l, hl, hc⟩ := line_of b n L (List.pairwise_append.1 hp).1 (fun t ht => (List.pairwise_append.1 hp).2.2 t ht n (by simp))
      refine ⟨l ++ [!prv b l n], by simp [hl], ?_⟩
      rw [chg_succ, chg_app b l _ n hl, chgB_last b l _ n hl, hc]
      simp
    · obtain ⟨l, hl, hc⟩ := line_of b n ts hp (fun t ht => by
        have h1 := hb t ht
        have h2 : t ≠ n := fun e => hn (e ▸ ht)
        omega)
      refine ⟨l ++ [prv b l n], by simp [hl], ?_⟩
      rw [chg_succ, chg_app b l _ n hl, chgB_last b l _ n hl, hc]
      simp

/-- times that are not below 0, as numbers -/
theorem nats_of : ∀ (ts : List Int), (∀ t ∈ ts, 0 ≤ t) → ∃ ns : List Nat, ts = ns.map (fun k : Nat => (k : Int))
  | [], _ => ⟨[], rfl⟩
  | t :: r, h => by
    obtain ⟨ns, rfl⟩ := nats_of r (fun x hx => h x (List.mem_cons_of_mem _ hx))
    have h0 := h t List.mem_cons_self
    exact ⟨t.toNat :: ns, by rw [List.map_cons, Int.toNat_of_nonneg h0]⟩

/-- what changes without error are -/
theorem fcE_ok (b : Bool) (N : Nat) (n : Int) (ts : List Int) (h : fcE N n ts = 0) (hN : ts.length = N) :
    ∃ (m : Nat) (l : List Bool), n = (m : Int) ∧ m ≤ 4096 ∧ N ≤ 4096 ∧ l.length = m ∧ ts.map i64v = (chg b l m).map natv ∧ (chg b l m).length = N := by
  unfold fcE at h
  have h1 := firstE_all3 h
  obtain ⟨ha, hb, hc⟩ := h1
  have hN2 : N ≤ 4096 := by
    split at ha
    · cases ha
    · omega
  have hn : 0 ≤ n ∧ n ≤ 4096 := by
    unfold rangeE at hb
    split at hb
    · cases hb
    · omega
  rw [IntWalk.wrap64_in _ (by omega)] at hc
  obtain ⟨h3, h4⟩ := chkT_ok (n - 1) ts (-1) hc
  obtain ⟨ns, rfl⟩ := nats_of ts (fun t ht => (h3 t ht).2.1)
  have hp : ns.Pairwise (· < ·) := by
    have := List.pairwise_map.1 h4
    exact this.imp (fun h => by omega)
  obtain ⟨l, hl, hc2⟩ := line_of b n.toNat ns hp (fun t ht => by
    have := h3 (t : Int) (List.mem_map_of_mem ht)
    omega)
  refine ⟨n.toNat, l, by omega, by omega, hN2, hl, ?_, ?_⟩
  · rw [hc2, List.map_map]; rfl
  · rw [hc2]; simpa using hN

set_option maxHeartbeats 1000000 in
theorem checkTimes_any (A : Option Addr) (N c : Nat) (n m : Int) (ts : List Int) (w : World) (h : Reads w w.heap.size 1 A N (ts.map i64v)) (hN : N ≤ maxLen) (hw : wrap64 (n - 1) = m) :
    Calls Tryz.prog 65 #[.slice A N c, .int .i64 n] w fun e w' => e = .returned (.int .i64 (chkT m (-1) ts)) ∧ w = w' := by
  unfold maxLen at hN
  have HL := Lib.hid h.lenM
  go_enter Tryz.func65, Tryz.ntmps65
  go_wp2
  go_loopg [5, 11] N (fun q p s W => ∃ (k : Nat) (last : Int), k ≤ N ∧ s = .int .i64 k ∧ p = .int .i64 last ∧ N - k ≤ q ∧ Hid (chkT m (-1) ts = chkT m last (ts.drop k)) ∧ W = w)
  case atStart => exact ⟨0, -1, Nat.zero_le _, rfl, rfl, by omega, rfl, rfl⟩
  case round =>
    obtain ⟨k, last, hk, rfl, rfl, hq, hch, rfl⟩ := hrel
    by_cases h0 : k < N
    · obtain ⟨ad, hkl, rfl, hbb, hcell⟩ := h.cellM h0
      have hdr : ts.drop k = ts[k] :: ts.drop (k + 1) := List.drop_eq_getElem_cons hkl
      have hc2 := hch.out
      rw [hdr, chkT_cons] at hc2
      clear hdr hch
      unfold i64v at hcell
      generalize ts[k] = t at *
      generalize hRR : ts.drop (k + 1) = R at *
      have HRR := Lib.hid hRR
      clear hRR
      have hR := Lib.hid (cinRange_any t 0 m wr)
      by_cases h1 : rangeE t 0 m ≠ 0
      · rw [if_pos h1] at hc2
        have HC := Lib.hid hc2
        generalize rangeE t 0 m = x at *
        have e1 : (x == 0) = false := by simpa using h1
        have e2 : (x != 0) = true := by simpa using h1
        have e3 : decide (x = 0) = false := by simpa using h1
        clear hc2 h1
        go_wp2_with fail
        refine hR.out.mono ?_
        rintro e w1 ⟨rfl, rfl⟩
        go_wp2_with fail
        go_ret
        exact ⟨by rw [HC.out]; rfl, rfl⟩
      · rw [if_neg h1] at hc2
        have hz : rangeE t 0 m = 0 := Classical.byContradiction h1
        rw [hz] at hR
        clear h1 hz
        by_cases h2 : t ≤ last
        · rw [if_pos h2] at hc2
          have HC := Lib.hid hc2
          have hd : decide (t ≤ last) = true := by simpa using h2
          clear hc2
          go_wp2_with fail
          refine hR.out.mono ?_
          rintro e w1 ⟨rfl, rfl⟩
          go_wp2_with fail
          go_ret
          exact ⟨by rw [HC.out]; rfl, rfl⟩
        · rw [if_neg h2] at hc2
          have HC := Lib.hid hc2
          have hd : decide (t ≤ last) = false := by simpa using h2
          clear hc2
          go_wp2_with fail
          refine hR.out.mono ?_
          rintro e w1 ⟨rfl, rfl⟩
          go_wp2_with fail
          go_roundg (N - (k + 1))
          case measure => omega
          case rel => exact ⟨k + 1, t, by omega, by go_num, rfl, Nat.le_refl _, (by show chkT m (-1) ts = chkT m t (ts.drop (k + 1)); rw [HRR.out]; exact HC.out), rfl⟩
    · have hc2 := hch.out
      rw [List.drop_eq_nil_of_le (by have := HL.out; omega)] at hc2
      rw [chkT_nil] at hc2
      have HC := Lib.hid hc2
      clear hc2 hch
      go_wp2
      go_ret
      exact ⟨by rw [HC.out]; rfl, rfl⟩

end Go.Proofs.YtboaojkblmddkaaGreatDoor

/- ProbeRebuilds: FromChanges where it answers an error, the reference's CheckChanges and FromChanges, copies of ints. -/
namespace Go.Proofs.YtboaojkblmddkaaGreatDoor
open Go.RowKit

theorem cfirst3_any (x y z : Int) (w : World) (t : TypeId) (g : Nat) (hg : w.heap.size = g) :
    Calls Tryz.prog 57 #[.slice (some ⟨g, 0, none⟩) 3 3] (w.alloc (.cells #[.int .i64 x, .int .i64 y, .int .i64 z] t)) fun e w' => e = .returned (.int .i64 (firstE [x, y, z])) ∧ w.alloc (.cells #[.int .i64 x, .int .i64 y, .int .i64 z] t) = w' := by
  subst hg
  exact cfirst_any (some ⟨w.heap.size, 0, none⟩) 3 3 [x, y, z] (w.alloc (.cells #[.int .i64 x, .int .i64 y, .int .i64 z] t)) (Reads.lit w [.int .i64 x, .int .i64 y, .int .i64 z] t) (by unfold maxLen; omega)

set_option maxHeartbeats 1000000 in
theorem fromChanges_err (A : Option Addr) (N c : Nat) (b : Bool) (n : Int) (ts : List Int) (w : World) (h : Reads w w.heap.size 1 A N (ts.map i64v)) (hN : N ≤ maxLen) (hE : fcE N n ts ≠ 0) :
    Calls Tryz.prog 24 #[.slice A N c, .bool b, .int .i64 n] w fun e w' => e = .returned (.tuple #[.slice none 0 0, .int .i64 (fcE N n ts)]) ∧ Below w.heap.size w w' := by
  have K1 := Lib.hid (catMost_int A N c 4096 w)
  have K2 := Lib.hid (cinRange_any n 0 4096 w)
  have K3 := Lib.hid (checkTimes_any A N c n (wrap64 (n - 1)) ts w h hN rfl)
  have K4 := Lib.hid (cfirst3_any (if (4096 : Int) < (N : Int) then 5 else 0) (rangeE n 0 4096) (chkT (wrap64 (n - 1)) (-1) ts) w 29 w.heap.size rfl)
  have hfe : firstE [if (4096 : Int) < (N : Int) then 5 else 0, rangeE n 0 4096, chkT (wrap64 (n - 1)) (-1) ts] = fcE N n ts := rfl
  rw [hfe] at K4
  generalize fcE N n ts = E at *
  generalize (if (4096 : Int) < (N : Int) then (5 : Int) else 0) = e1 at *
  generalize rangeE n 0 4096 = e2 at *
  generalize chkT (wrap64 (n - 1)) (-1) ts = e3 at *
  have d1 : (E == 0) = false := by simpa using hE
  have d2 : (E != 0) = true := by simpa using hE
  have d3 : decide (E = 0) = false := by simpa using hE
  clear hfe h hE
  go_enter Tryz.func24, Tryz.ntmps24
  go_wp2_with fail
  refine K1.out.mono ?_
  rintro e w1 ⟨rfl, rfl⟩
  go_wp2_with fail
  refine K2.out.mono ?_
  rintro e w1 ⟨rfl, rfl⟩
  go_wp2_with fail
  refine K3.out.mono ?_
  rintro e w1 ⟨rfl, rfl⟩
  go_wp2_with fail
  refine K4.out.mono ?_
  rintro e w1 ⟨rfl, rfl⟩
  have hb1 : Below w.heap.size w (w.alloc (.cells #[.int .i64 e1, .int .i64 e2, .int .i64 e3] 29)) := (Below.refl _ _).alloc (Nat.le_refl _) _
  go_wp2_with fail
  go_ret2
  exact ⟨rfl, hb1⟩

set_option maxHeartbeats 2000000 in
theorem rCheckChanges_any (A : Option Addr) (N c : Nat) (n : Int) (ts : List Int) (w : World) (h : Reads w w.heap.size 1 A N (ts.map i64v)) (hN : N ≤ maxLen) :
    Calls Tryz.prog 25 #[.slice A N c, .int .i64 n] w fun e w' => e = .returned (.int .i64 (fcE N n ts)) ∧ Below w.heap.size w w' := by
  have hfe : fcE N n ts = if (4096 : Int) < (N : Int) then 5 else if rangeE n 0 4096 ≠ 0 then rangeE n 0 4096 else chkT (wrap64 (n - 1)) (-1) ts := by
    unfold fcE
    have e : ∀ a b d : Int, firstE [a, b, d] = if a ≠ 0 then a else if b ≠ 0 then b else if d ≠ 0 then d else 0 := fun _ _ _ => rfl
    rw [e]
    split
    · simp_all
    · simp_all
      split <;> simp_all
  unfold maxLen at hN
  by_cases h1 : 4096 < N
  · rw [if_pos (by omega)] at hfe
    have d1 : decide ((4096 : Int) < (N : Int)) = true := by simpa using (show (4096 : Int) < N from by omega)
    have HF := Lib.hid hfe
    clear hfe h
    go_enter Tryz.func25, Tryz.ntmps25
    go_wp2
    go_ret
    exact ⟨by rw [HF.out]; rfl, Below.refl _ _⟩
  · rw [if_neg (by omega)] at hfe
    have d1 : decide ((4096 : Int) < (N : Int)) = false := by simpa using (show ¬ ((4096 : Int) < N) from by omega)
    by_cases h2 : n < 0
    · have hr : rangeE n 0 4096 = 3 := by unfold rangeE; rw [if_pos (by omega)]
      rw [hr, if_pos (by decide)] at hfe
      have d2 : decide (n < 0) = true := by simpa using h2
      have HF := Lib.hid hfe
      clear hfe h hr
      go_enter Tryz.func25, Tryz.ntmps25
      go_wp2
      go_ret
      exact ⟨by rw [HF.out]; rfl, Below.refl _ _⟩
    · have d2 : decide (n < 0) = false := by simpa using h2
      by_cases h3 : 4096 < n
      · have hr : rangeE n 0 4096 = 3 := by unfold rangeE; rw [if_pos (by omega)]
        rw [hr, if_pos (by decide)] at hfe
        have d3 : decide (4096 < n) = true := by simpa using h3
        have HF := Lib.hid hfe
        clear hfe h hr
        go_enter Tryz.func25, Tryz.ntmps25
        go_wp2
        go_ret
        exact ⟨by rw [HF.out]; rfl, Below.refl _ _⟩
      · have d3 : decide (4096 < n) = false := by simpa using h3
        have hr : rangeE n 0 4096 = 0 := by unfold rangeE; rw [if_neg (by omega)]
        rw [hr, if_neg (by decide), IntWalk.wrap64_in _ (by omega)] at hfe
        have HF := Lib.hid hfe
        have HL := Lib.hid h.lenM
        clear hfe hr
        go_enter Tryz.func25, Tryz.ntmps25
        go_wp2
        go_loopg [5] N (fun q s W => ∃ k : Nat, k ≤ N ∧ s = .int .i64 k ∧ N - k ≤ q ∧ Hid (chkT (n - 1) (-1) ts = chkT (n - 1) (if k = 0 then -1 else ts.getD (k - 1) 0) (ts.drop k)) ∧ Below w.heap.size w W)
        case atStart => exact ⟨0, Nat.zero_le _, rfl, by omega, rfl, Below.refl _ _⟩
        case round =>
          obtain ⟨k, hk, rfl, hq, hch, hbel⟩ := hrel
          by_cases h0 : k < N
          · obtain ⟨ad, hkl, rfl, hbb, hcell⟩ := (h.below hbel).cellM h0
            have hdr : ts.drop k = ts[k] :: ts.drop (k + 1) := List.drop_eq_getElem_cons hkl
            have hnx : (if k + 1 = 0 then (-1 : Int) else ts.getD (k + 1 - 1) 0) = ts[k] := by
              rw [if_neg (by omega), Nat.add_sub_cancel]
              simp [List.getD, hkl]
            have hc2 := hch.out
            rw [hdr, chkT_cons] at hc2
            clear hdr hch
            unfold i64v at hcell
            have HNX := Lib.hid hnx
            have hkN : (k : Int) < (N : Int) := by omega
            clear hnx
            generalize ht : ts[k] = t at *
            generalize hRR : ts.drop (k + 1) = R at *
            have HRR := Lib.hid hRR
            clear ht hRR
            by_cases ha : t < 0
            · have hx : rangeE t 0 (n - 1) = 3 := by unfold rangeE; rw [if_pos (by omega)]
              rw [hx, if_pos (by decide)] at hc2
              have da : decide (t < 0) = true := by simpa using ha
              have HC := Lib.hid hc2
              clear hc2 hx
              go_wp2
              go_ret
              exact ⟨by rw [HF.out, HC.out]; rfl, hbel⟩
            · have da : decide (t < 0) = false := by simpa using ha
              by_cases hb : n ≤ t
              · have hx : rangeE t 0 (n - 1) = 3 := by unfold rangeE; rw [if_pos (by omega)]
                rw [hx, if_pos (by decide)] at hc2
                have db : decide (n ≤ t) = true := by simpa using hb
                have HC := Lib.hid hc2
                clear hc2 hx
                go_wp2
                go_ret
                exact ⟨by rw [HF.out, HC.out]; rfl, hbel⟩
              · have db : decide (n ≤ t) = false := by simpa using hb
                have hx : rangeE t 0 (n - 1) = 0 := by unfold rangeE; rw [if_neg (by omega)]
                rw [hx, if_neg (by decide)] at hc2
                clear hx
                have hnew : ∀ z : Int, chkT (n - 1) (-1) ts = chkT (n - 1) z R → z = t → chkT (n - 1) (-1) ts = chkT (n - 1) (if k + 1 = 0 then (-1 : Int) else ts.getD (k + 1 - 1) 0) R := fun z h1 h2 => by rw [HNX.out, ← h2]; exact h1
                have HNEW := Lib.hid hnew
                clear hnew HNX
                by_cases hk0 : k = 0
                · rw [if_pos hk0, if_neg (by omega)] at hc2
                  have HC := Lib.hid (HNEW.out _ hc2 rfl)
                  have hp0 : decide (0 < k) = false := by simp [hk0]
                  clear hc2 HNEW hk0
                  go_upto_region 10 with (fail)
                  go_quiet (fail)
                  go_wp2
                  go_roundg (N - (k + 1))
                  case measure => omega
                  case rel => exact ⟨k + 1, by omega, by go_num, Nat.le_refl _, (by rw [HRR.out]; exact HC.out), below_drewN hbel _⟩
                · obtain ⟨p, hkp⟩ : ∃ p : Nat, k = p + 1 := ⟨k - 1, by omega⟩
                  obtain ⟨ad2, hkl2, e2, _, hcell2⟩ := (h.below hbel).cellM (show p < N by omega)
                  injection e2 with e2
                  subst e2
                  rw [if_neg hk0, show k - 1 = p from by omega] at hc2
                  have hgd : ts.getD p 0 = ts[p] := by simp [List.getD, hkl2]
                  rw [hgd] at hc2
                  unfold i64v at hcell2
                  generalize ts[p] = u at *
                  have hwr : IntKind.i64.wrap ((k : Int) - 1) = (p : Int) := by rw [IntWalk.i64_in _ (by omega)]; omega
                  have hp0 : decide (0 < k) = true := by simpa using (show 0 < k from by omega)
                  have hp1 : (0 : Int) ≤ (p : Int) := by omega
                  have hp2 : (p : Int) < (N : Int) := by omega
                  have hge : decide ((N : Int) ≤ (p : Int)) = false := by simpa using (show ¬ ((N : Int) ≤ (p : Int)) from by omega)
                  have hge2 : decide (N ≤ p) = false := by simpa using (show ¬ (N ≤ p) from by omega)
                  have hge3 : decide (N ≤ k) = false := by simpa using (show ¬ (N ≤ k) from by omega)
                  by_cases hd : t ≤ u
                  · rw [if_pos hd] at hc2
                    have dd : decide (t ≤ u) = true := by simpa using hd
                    have HC := Lib.hid hc2
                    have HKP := Lib.hid hkp
                    clear hc2 HNEW hgd hkp
                    go_upto_region 10 with (fail)
                    go_quiet (fail)
                    go_wp2
                    go_ret
                    exact ⟨by rw [HF.out, HC.out]; rfl, below_drewN hbel _⟩
                  · rw [if_neg hd] at hc2
                    have dd : decide (t ≤ u) = false := by simpa using hd
                    have HC := Lib.hid (HNEW.out _ hc2 rfl)
                    clear hc2 HNEW hgd hkp
                    go_upto_region 10 with (fail)
                    go_quiet (fail)
                    go_wp2
                    go_roundg (N - (k + 1))
                    case measure => omega
                    case rel => exact ⟨k + 1, by omega, by go_num, Nat.le_refl _, (by rw [HRR.out]; exact HC.out), below_drewN hbel _⟩
          · have hc2 := hch.out
            rw [List.drop_eq_nil_of_le (by have := HL.out; omega)] at hc2
            rw [chkT_nil] at hc2
            have HC := Lib.hid hc2
            clear hc2 hch
            go_wp2
            go_ret
            exact ⟨by rw [HF.out, HC.out]; rfl, hbel⟩

end Go.Proofs.YtboaojkblmddkaaGreatDoor
