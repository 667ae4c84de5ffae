/- Contracts of probe's Changes, checkTimes and FromChanges. -/
import Derived.Test.YthmiamppfncfoaaGreatDoorCRws
import Derived.Test.YthmiamppfncfoaaGreatDoorCTrn
import Derived.Test.YthmiamppfncfoaaGreatDoorCPl1
import Derived.Test.YthmiamppfncfoaaGreatDoorCCSm
import Derived.Maps.AppendAt
import Derived.IntWalk
namespace Go.Proofs.YthmiamppfncfoaaGreatDoor
open Go.RowKit

theorem info_int : (Tryz.prog.info? 3).map (fun i => (i.zero, i.size, i.bytes)) = some (some (.int .i64 0), 1, 8) := by kernel_rfl

/-- the value before an index -/
def prv (b : Bool) (l : List Bool) (k : Nat) : Bool := if k = 0 then b else l.getD (k - 1) false
theorem prv_next (b : Bool) (l : List Bool) (k : Nat) (h : k < l.length) : prv b l (k + 1) = l[k] := by
  unfold prv
  rw [if_neg (by omega)]
  simp [List.getD, h]
theorem chgB_prv (b : Bool) (l : List Bool) (k : Nat) (h : k < l.length) : chgB b l k = (l[k] != prv b l k) := by
  unfold chgB prv
  simp [List.getD, h]

set_option maxHeartbeats 2000000 in
set_option maxRecDepth 100000 in
theorem changes_ok (A : Option Addr) (n c : Nat) (b : Bool) (l : List Bool) (w : World) (h : Reads w w.heap.size 1 A n (l.map boolv)) (hn : n ≤ 4096) :
    Calls Tryz.prog 14 #[.slice A n c, .bool b] w fun e w' => ∃ A' c', e = .returned (.tuple #[.slice A' (chg b l n).length c', .int .i64 0]) ∧ Reads w' w'.heap.size 1 A' (chg b l n).length ((chg b l n).map natv) ∧ Below w.heap.size w w' := by
  obtain ⟨i0, hi0, hz0, hz1, hz2⟩ := info_parts info_int
  have e1 : (if (4096 : Int) < (n : Int) then (5 : Int) else 0) = 0 := if_neg (by omega)
  have H1 := catMost_bool A n c 4096 w
  rw [e1] at H1
  have K1 := Lib.hid H1
  clear H1 e1
  go_enter Tryz.func14, Tryz.ntmps14
  go_wp2_with fail
  refine K1.out.mono ?_
  rintro e w1 ⟨rfl, rfl⟩
  go_wp2
  go_loopg [1, 7, 17] n (fun q p v s W => ∃ k : Nat, k ≤ n ∧ s = .int .i64 k ∧ n - k ≤ q ∧ p = .bool (prv b l k) ∧ W.ownsRow w.heap.size 3 1 v (chg b l k).length ((chg b l k).map natv) ∧ Below w.heap.size w W)
  case atStart => exact ⟨0, Nat.zero_le _, rfl, by omega, rfl, World.ownsRow_nil _ _ _ _, Below.refl _ _⟩
  case round =>
    obtain ⟨k, hk, rfl, hq, rfl, hown, hbel⟩ := hrel
    by_cases h0 : k < n
    · obtain ⟨ad, hkl, rfl, hbb, hcell⟩ := (h.below hbel).cellM h0
      have hcb := chgB_prv b l k hkl
      have hnx := prv_next b l k hkl
      have hsu := chg_succ b l k
      have hcl := chg_len b l k
      rw [hcb] at hsu
      unfold boolv at hcell
      generalize l[k] = x at *
      generalize prv b l k = p at *
      have HN := Lib.hid hnx
      by_cases hxp : (x != p) = true
      · rw [hxp, if_pos rfl] at hsu
        have HS := Lib.hid hsu
        clear hsu hnx hcb
        generalize hL : chg b l k = L at *
        have HL := Lib.hid hL
        clear hL
        cases x <;> cases p <;> first | exact absurd hxp (by decide) | clear hxp
        all_goals
          go_wp2_with (at_builtin; refine wpList_append_own _ rfl _ _ 23 rfl w.heap.size 3 i0 (.int .i64 0) 1 8 Tryz.underlying23 hi0 hz0 hz1 hz2 rfl (by decide) _ _ _ rfl (hown.alloc _) ⟨wr.heap.size, 0, none⟩ 1 1 [.int .i64 k] rfl rfl ?c1 ?c2 ?c3 ?c4 ?c5 ?_)
          case c1 => exact cell_one_new _ _ _
          case c2 => intro u hu; simp at hu; subst hu; rfl
          case c3 => unfold maxLen; omega
          case c4 => omega
          case c5 => have := hbel.size; simp; omega
          intro v' w2 hown' hgrow _
          have hb2 : Below w.heap.size w w2 := (hbel.alloc hbel.size _).grown hgrow (by have := hbel.size; simp; omega) (fun g hg => (World.ownsRow.lt hown g hg).1)
          clear hgrow hown
          go_wp2
          go_roundg (n - (k + 1))
          case measure => omega
          case rel => exact ⟨k + 1, by omega, by go_num, Nat.le_refl _, by rw [HN.out], by rw [HS.out, List.length_append, List.map_append]; exact hown', hb2⟩
      · have hxp' : (x != p) = false := by simpa using hxp
        rw [hxp', if_neg (by decide), List.append_nil] at hsu
        have HS := Lib.hid hsu
        clear hsu hnx hcb hxp
        cases x <;> cases p <;> first | exact absurd hxp' (by decide) | clear hxp'
        all_goals
          go_wp2
          go_roundg (n - (k + 1))
          case measure => omega
          case rel => exact ⟨k + 1, by omega, by go_num, Nat.le_refl _, by rw [HN.out], by rw [HS.out]; exact hown, hbel⟩
    · obtain rfl : k = n := by omega
      obtain ⟨A', c', rfl, _, _, hr⟩ := own_slice hown
      go_wp2
      go_ret2
      exact ⟨A', c', rfl, hr, hbel⟩

end Go.Proofs.YthmiamppfncfoaaGreatDoor

/- Contracts of probe's checkTimes and FromChanges, of the changes of a line. -/
namespace Go.Proofs.YthmiamppfncfoaaGreatDoor
open Go.RowKit

theorem range_ok {n a b : Int} (h1 : a ≤ n) (h2 : n ≤ b) : rangeE n a b = 0 := by unfold rangeE; rw [if_neg (by omega)]

set_option maxHeartbeats 1000000 in
theorem checkTimes_ok (A : Option Addr) (N c n : Nat) (ts : List Nat) (w : World) (h : Reads w w.heap.size 1 A N (ts.map natv)) (hlt : ∀ i t : Nat, ts[i]? = some t → t < n) (hs : ∀ i j s t : Nat, i < j → ts[i]? = some s → ts[j]? = some t → s < t) (hn : n ≤ 4096) (hN : N ≤ 4096) :
    Calls Tryz.prog 42 #[.slice A N c, .int .i64 n] w fun e w' => e = .returned (.int .i64 0) ∧ w = w' := by
  have HLT := Lib.hid hlt
  have HS := Lib.hid hs
  clear hlt hs
  go_enter Tryz.func42, Tryz.ntmps42
  go_wp2
  go_loop [5, 11] (fun p s => ∃ k : Nat, k ≤ N ∧ s = .int .i64 k ∧ ∃ last : Int, p = .int .i64 last ∧ -1 ≤ last ∧ last < n ∧ Hid (∀ t, ts[k]? = some t → last < (t : Int))) (fun _ s => N - (intOf s).toNat)
  case atStart => exact ⟨0, Nat.zero_le _, rfl, -1, rfl, by omega, by omega, fun t _ => by omega⟩
  case round =>
    obtain ⟨k, hk, rfl, last, rfl, hl1, hl2, hl3⟩ := hrel
    by_cases h0 : k < N
    · obtain ⟨ad, hkl, rfl, hbb, hcell⟩ := h.cellM h0
      have hg : ts[k]? = some ts[k] := List.getElem?_eq_getElem hkl
      have h4 := HLT.out k _ hg
      have h5 := hl3.out _ hg
      have h6 : ∀ t, ts[k + 1]? = some t → ((ts[k] : Nat) : Int) < (t : Int) := fun t ht => by
        have := HS.out k (k + 1) _ t (by omega) hg ht
        omega
      have H6 := Lib.hid h6
      unfold natv at hcell
      clear h6 hg
      generalize ts[k] = t at *
      have hw1 : wrap64 ((n : Int) - 1) = (n : Int) - 1 := IntWalk.wrap64_in _ (by omega)
      have hd : decide ((t : Int) ≤ last) = false := by simpa using (show ¬ ((t : Int) ≤ last) from by omega)
      have hR := cinRange_any (t : Int) 0 ((n : Int) - 1) w
      rw [range_ok (by omega) (by omega)] at hR
      have HR := Lib.hid hR
      clear hR
      go_wp2_with fail
      refine HR.out.mono ?_
      rintro e w1 ⟨rfl, rfl⟩
      go_wp2
      go_round
      case rel => exact ⟨k + 1, by omega, by go_num, (t : Int), rfl, by omega, by omega, H6.out⟩
      case measure => simp [intOf]; omega
    · go_wp2
      go_ret
      exact ⟨rfl, rfl⟩

/-- the line while it is laid -/
def lnRow (l : List Bool) (n k : Nat) : List Value := (l.take k).map boolv ++ List.replicate (n - k) (.bool false)

set_option maxHeartbeats 2000000 in
set_option maxRecDepth 100000 in
theorem fromChanges_ok (A : Option Addr) (c n : Nat) (b : Bool) (l : List Bool) (w : World) (h : Reads w w.heap.size 1 A (chg b l n).length ((chg b l n).map natv)) (hl : l.length = n) (hn : n ≤ 4096) :
    Calls Tryz.prog 15 #[.slice A (chg b l n).length c, .bool b, .int .i64 n] w fun e w' => ∃ g, e = .returned (.tuple #[.slice (some ⟨g, 0, none⟩) n n, .int .i64 0]) ∧ w'.ownsRow w.heap.size 4 1 (.slice (some ⟨g, 0, none⟩) n n) n (l.map boolv) ∧ Below w.heap.size w w' := by
  obtain ⟨i0, hi0, hz0, hz1, hz2⟩ := info_parts info_bool
  have hN := chg_len b l n
  have e1 : (if (4096 : Int) < ((chg b l n).length : Int) then (5 : Int) else 0) = 0 := if_neg (by omega)
  have H1 := catMost_int A (chg b l n).length c 4096 w
  rw [e1] at H1
  have H2 := cinRange_any (n : Int) 0 4096 w
  rw [range_ok (by omega) (by omega)] at H2
  have H3 := checkTimes_ok A (chg b l n).length c n (chg b l n) w h (fun i t ht => chg_mem (List.mem_of_getElem? ht)) (fun i j s t hij hi hj => chg_lt b l n i j s t hij hi hj) hn (by omega)
  have K1 := Lib.hid H1
  have K2 := Lib.hid H2
  have K3 := Lib.hid H3
  have HL := Lib.hid hl
  clear H1 H2 H3 e1 hl
  generalize hT : chg b l n = T at *
  have HT := Lib.hid hT
  clear hT
  generalize hTN : T.length = N at *
  have HTN := Lib.hid hTN
  clear hTN
  go_enter Tryz.func15, Tryz.ntmps15
  go_wp2_with fail
  refine K1.out.mono ?_
  rintro e w1 ⟨rfl, rfl⟩
  go_wp2_with fail
  refine K2.out.mono ?_
  rintro e w1 ⟨rfl, rfl⟩
  go_wp2_with fail
  refine K3.out.mono ?_
  rintro e w1 ⟨rfl, rfl⟩
  go_wp2_with fail
  refine (cfirst_three w 31 w.heap.size rfl).mono ?_
  rintro e w1 ⟨rfl, rfl⟩
  have hb1 : Below w.heap.size w (w.alloc (.cells #[.int .i64 0, .int .i64 0, .int .i64 0] 31)) := (Below.refl _ _).alloc (Nat.le_refl _) _
  generalize w.alloc (.cells #[.int .i64 0, .int .i64 0, .int .i64 0] 31) = w1 at *
  go_wp2_with (at_make; refine wpList_make_full _ rfl _ _ 35 rfl w1.heap.size 4 i0 (.bool false) 1 Tryz.underlying35 hi0 hz0 hz1 _ _ _ _ n rfl rfl (by omega) (by omega) ?b2 ?b3 (Nat.le_refl _) ?_)
  case b2 => rw [hz2]; omega
  case b3 => unfold maxLen; omega
  intro w2 hown0 hgrow0
  rw [toList_madeCells_one] at hown0
  have hB2 : Below w.heap.size w w2 := hb1.trans ((gnone hgrow0 (Nat.le_refl _)).mono hb1.size)
  have hle := hb1.size
  have hown1 : w2.ownsRow w1.heap.size 4 1 (.slice (some ⟨w1.heap.size, 0, none⟩) n n) n (lnRow l n 0) := by
    unfold lnRow
    rw [set_start]
    simpa using hown0
  clear hown0 hgrow0
  generalize w1.heap.size = G at *
  go_wp2
  go_loopg [10, 11, 30] n (fun q p s5 s W => ∃ k : Nat, k ≤ n ∧ s = .int .i64 k ∧ n - k ≤ q ∧ p = .bool (prv b l k) ∧ (∃ j : Nat, s5 = .int .i64 j ∧ j ≤ k ∧ Hid (j = (chg b l k).length)) ∧ W.ownsRow G 4 1 (.slice (some ⟨G, 0, none⟩) n n) n (lnRow l n k) ∧ Below w.heap.size w W)
  case atStart => exact ⟨0, Nat.zero_le _, rfl, by omega, rfl, ⟨0, rfl, Nat.le_refl _, rfl⟩, hown1, hB2⟩
  case round =>
    obtain ⟨k, hk, rfl, hq, rfl, ⟨j, rfl, hjk, hj⟩, hown, hbel⟩ := hrel
    by_cases h0 : k < n
    · have hkl : k < l.length := by have := HL.out; omega
      have hcb := chgB_prv b l k hkl
      have hnx := prv_next b l k hkl
      have hsu := chg_succ b l k
      have hnt := chg_next b l n k h0
      have hss := set_step boolv l (.bool false) n k hkl HL.out
      have hcl := chg_len b l (k + 1)
      rw [hcb] at hsu hnt
      rw [← hj.out, HT.out] at hnt
      generalize l[k] = x at *
      generalize prv b l k = p at *
      have HN := Lib.hid hnx
      have HSS := Lib.hid hss
      clear hcb hnx hss
      obtain ⟨v0, hc0⟩ := own_cell hown k h0
      have hf0 := own_free hown k
      have hrd := h.below hbel
      by_cases hxp : (x != p) = true
      · rw [hxp, if_pos rfl] at hsu
        have hjt := hnt.1 hxp
        have hjN : j < N := by
          have := (List.getElem?_eq_some_iff.1 hjt).1
          have := HTN.out
          omega
        obtain ⟨ad, hjl, rfl, hbb, hcell⟩ := hrd.cellM hjN
        have hjv : T[j] = k := by
          rw [List.getElem?_eq_getElem hjl] at hjt
          injection hjt
        rw [hjv] at hcell
        unfold natv at hcell
        have hj2 : Hid (j + 1 = (chg b l (k + 1)).length) := by
          unfold Hid
          rw [hsu, List.length_append, ← hj.out]; rfl
        clear hsu hnt hjt hjv hrd
        cases x <;> cases p <;> first | exact absurd hxp (by decide) | clear hxp
        all_goals
          go_wp2
          go_roundg (n - (k + 1))
          case measure => omega
          case rel => exact ⟨k + 1, by omega, by go_num, Nat.le_refl _, by rw [HN.out], ⟨j + 1, by go_num, by omega, hj2⟩, by first | (have h9 := own_set hown k (boolv true); unfold lnRow at h9; rw [HSS.out] at h9; exact h9) | (have h9 := own_set hown k (boolv false); unfold lnRow at h9; rw [HSS.out] at h9; exact h9), hbel.setCell (p := ⟨G, k, none⟩) hle _⟩
      · have hxp' : (x != p) = false := by simpa using hxp
        rw [hxp', if_neg (by decide), List.append_nil] at hsu
        have hj2 : Hid (j = (chg b l (k + 1)).length) := by
          unfold Hid
          rw [hsu]; exact hj.out
        have hnt2 := hnt.2 hxp'
        clear hsu hnt hxp
        by_cases hjN : j < N
        · obtain ⟨ad, hjl, rfl, hbb, hcell⟩ := hrd.cellM hjN
          have hkt := hnt2 T[j] (List.getElem?_eq_getElem hjl)
          unfold natv at hcell
          generalize T[j] = t at *
          have htk : ((t : Int) == (k : Int)) = false := by rw [beq_eq_false_iff_ne]; omega
          clear hnt2 hrd
          cases x <;> cases p <;> first | exact absurd hxp' (by decide) | clear hxp'
          all_goals
            go_wp2
            go_roundg (n - (k + 1))
            case measure => omega
            case rel => exact ⟨k + 1, by omega, by go_num, Nat.le_refl _, by rw [HN.out], ⟨j, by go_num, by omega, hj2⟩, by first | (have h9 := own_set hown k (boolv true); unfold lnRow at h9; rw [HSS.out] at h9; exact h9) | (have h9 := own_set hown k (boolv false); unfold lnRow at h9; rw [HSS.out] at h9; exact h9), hbel.setCell (p := ⟨G, k, none⟩) hle _⟩
        · have hd : decide (j < N) = false := by simpa using hjN
          clear hnt2 hrd
          cases x <;> cases p <;> first | exact absurd hxp' (by decide) | clear hxp'
          all_goals
            go_wp2
            go_roundg (n - (k + 1))
            case measure => omega
            case rel => exact ⟨k + 1, by omega, by go_num, Nat.le_refl _, by rw [HN.out], ⟨j, by go_num, by omega, hj2⟩, by first | (have h9 := own_set hown k (boolv true); unfold lnRow at h9; rw [HSS.out] at h9; exact h9) | (have h9 := own_set hown k (boolv false); unfold lnRow at h9; rw [HSS.out] at h9; exact h9), hbel.setCell (p := ⟨G, k, none⟩) hle _⟩
    · obtain rfl : k = n := by omega
      unfold lnRow at hown
      rw [set_stop boolv l _ k HL.out] at hown
      go_wp2
      go_ret2
      exact ⟨_, rfl, own_mono hown hle, hbel⟩

end Go.Proofs.YthmiamppfncfoaaGreatDoor
