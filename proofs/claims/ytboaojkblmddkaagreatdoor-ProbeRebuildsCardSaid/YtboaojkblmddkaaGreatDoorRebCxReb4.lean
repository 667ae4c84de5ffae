/- ProbeRebuilds: the law, main case. -/
import Derived.Test.YtboaojkblmddkaaGreatDoorRebCxPk4
import Derived.Test.YtboaojkblmddkaaGreatDoorCards
import Derived.Test.YtboaojkblmddkaaGreatDoorTie
import Derived.Test.YtboaojkblmddkaaGreatDoorCAwj
import Derived.Test.YtboaojkblmddkaaGreatDoorCTog3
import Derived.WalkKit
import Derived.ProofKit
import Derived.OpenShut
import Derived.Deep.DeepHandedRow
import Derived.Lib.LaidTab
import Derived.Lib.SmallJoins
import Derived.Stop.LaidErr
import Derived.WideKeyArgs
namespace Go.Proofs.YtboaojkblmddkaaGreatDoor
open Go.RowKit

set_option maxHeartbeats 4000000 in
set_option maxRecDepth 100000 in
theorem reb_main (A : Option Addr) (N c : Nat) (b : Bool) (n : Int) (ts : List Int) (w : World) (KV : AwakeOk) (hT : Tabs w) (h : Reads w w.heap.size 1 A N (ts.map i64v)) (hac : A = none → c = 0)
    (hL : (N : Int) ≤ 64 ∨ 4096 < (N : Int) ∧ (N : Int) ≤ 4098) (hn : n ≤ 100 ∨ 4096 < n) :
    Calls Tryz.prog 4 #[.slice A N c, .bool b, .int .i64 n] w fun e w' => e = .returned (.bool true) ∧ Below w.heap.size w w' := by
  have HLE := Lib.hid (fun W => rLength_any N 64 W)
  rw [decide_eq_true hL] at HLE
  have KV := Lib.hid KV
  have hNm : N ≤ maxLen := by unfold maxLen; omega
  have HCC := Lib.hid (fun W hr => rCheckChanges_any A N c n ts W hr hNm)
  have HR := Lib.hid h
  have HAC := Lib.hid hac
  have hLN := h.lenM
  have HN0 : Hid (A = none → N = 0) := fun e => by
    subst e
    rcases Nat.eq_zero_or_pos N with h0 | h0
    · exact h0
    · obtain ⟨ad, e, _⟩ := h.2 h0
      cases e
  by_cases hE : fcE N n ts = 0
  · obtain ⟨m, l, rfl, hm, hN4, hl, hts, hlen⟩ := fcE_ok b N n ts hE hLN
    rw [hE] at HCC
    have HF := Lib.hid (fun A c W h => fromChanges_ok A c m b l W h hl hm)
    have HRF := Lib.hid (fun A c W h => rFromChanges_ok A c m b l W h hl hm)
    rw [hlen] at HF HRF
    have HTS := Lib.hid hts
    have d1 : decide ((100 : Int) < (m : Int)) = false := by simpa using (show ¬ ((100 : Int) < (m : Int)) from by omega)
    have hm2 : m ≤ 4096 := hm
    clear h hac hE hts hlen hl hn hL hLN
    cases A with
    | none =>
      obtain rfl := HAC.out rfl
      obtain rfl : N = 0 := HN0.out rfl
      go_enter Tryz.func4, Tryz.ntmps4
      go_wp2_with fail
      refine (HLE.out w).mono ?_
      rintro e w1 ⟨rfl, rfl⟩
      have hB3 : Below w.heap.size w (w.alloc (.cells #[] 3)) := (Below.refl _ _).alloc (Nat.le_refl _) _
      have hr3 : Reads (w.alloc (.cells #[] 3)) (w.alloc (.cells #[] 3)).heap.size 1 (some ⟨w.heap.size, 0, none⟩) 0 (ts.map i64v) := ⟨HR.out.1, fun h0 => absurd h0 (by omega)⟩
      go_wp2_with fail
      generalize w.alloc (.cells #[] 3) = w3 at *
      have hr3n := hr3
      rw [HTS.out] at hr3n
      have HX4 := HF.out (some ⟨w.heap.size, 0, none⟩) 0 w3 hr3n
      refine HX4.mono ?_
      rintro e w4 ⟨g4, rfl, ho4, hb4⟩
      have r4 := Reads.of_own ho4
      have hB4 := hB3.trans (hb4.mono hB3.size)
      clear hr3 hr3n ho4 hb4
      go_wp2_with fail
      have HX5 := HCC.out w4 (HR.out.later hB4)
      refine HX5.mono ?_
      rintro e w5 ⟨rfl, hb5⟩
      have hB5 := hB4.trans (hb5.mono hB4.size)
      have r5 := r4.later hb5
      clear r4 hb5
      have hrn := HR.out.later hB5
      rw [HTS.out] at hrn
      go_wp2_with fail
      have HX6 := HRF.out none 0 w5 hrn
      refine HX6.mono ?_
      rintro e w6 ⟨v6, rfl, ho6, hb6⟩
      have hB6 := hB5.trans (hb6.mono hB5.size)
      have r6 := r5.later hb6
      obtain ⟨A6, c6, rfl, _, _, rr6⟩ := own_slice ho6
      clear r5 hb6 hrn ho6
      go_wp2_with fail
      have HX7 := sameBools_eq (some ⟨g4, 0, none⟩) A6 m m c6 l w6 r6 rr6 (by unfold maxLen; omega)
      refine HX7.mono ?_
      rintro e w7 ⟨rfl, hb7⟩
      have hB7 := hB6.trans (hb7.mono hB6.size)
      clear r6 rr6 hb7
      go_wp2_with fail
      refine (KV.out w7 (hT.later hB7)).mono ?_
      rintro e w8 ⟨rfl, hb8⟩
      go_wp2_with fail
      go_ret
      exact ⟨rfl, hB7.trans (hb8.mono hB7.size)⟩
    | some a1 =>
      obtain ⟨i0, hi0, hz0, hz1, hz2⟩ := info_parts info_int
      go_enter Tryz.func4, Tryz.ntmps4
      go_wp2_with fail
      refine (HLE.out w).mono ?_
      rintro e w1 ⟨rfl, rfl⟩
      go_wp2_with (at_builtin; refine wpList_append_own _ rfl _ _ 34 rfl w.heap.size 3 i0 (.int .i64 0) 1 8 Tryz.underlying34 hi0 hz0 hz1 hz2 rfl (by decide) _ _ _ rfl (own_empty w w.heap.size 3 (Nat.le_refl _)) a1 N c (ts.map i64v) rfl ?c0 ?c1 ?c2 ?c3 ?c4 ?c5 ?_)
      case c0 => rw [HR.out.1]
      case c1 => exact (HR.out.below ((Below.refl _ _).alloc (Nat.le_refl _) _)).cellsAll
      case c2 => exact i64v_one ts
      case c3 => unfold maxLen; omega
      case c4 => omega
      case c5 => simp
      intro v1 w3 hown1 hgrow1 _
      have hB3 : Below w.heap.size w w3 := ((Below.refl w.heap.size w).alloc (Nat.le_refl _) (.cells #[] 3)).grown hgrow1 (by simp) (fun g hg => by simp [Value.ownBlock] at hg; omega)
      obtain ⟨A3, c3, rfl, _, _, hr3⟩ := own_slice hown1
      clear hgrow1 hown1
      go_wp2_with fail
      have hr3n := hr3
      rw [HTS.out] at hr3n
      have HX4 := HF.out A3 c3 w3 hr3n
      refine HX4.mono ?_
      rintro e w4 ⟨g4, rfl, ho4, hb4⟩
      have r4 := Reads.of_own ho4
      have hB4 := hB3.trans (hb4.mono hB3.size)
      clear hr3 hr3n ho4 hb4
      go_wp2_with fail
      have HX5 := HCC.out w4 (HR.out.later hB4)
      refine HX5.mono ?_
      rintro e w5 ⟨rfl, hb5⟩
      have hB5 := hB4.trans (hb5.mono hB4.size)
      have r5 := r4.later hb5
      clear r4 hb5
      have hrn := HR.out.later hB5
      rw [HTS.out] at hrn
      go_wp2_with fail
      have HX6 := HRF.out (some a1) c w5 hrn
      refine HX6.mono ?_
      rintro e w6 ⟨v6, rfl, ho6, hb6⟩
      have hB6 := hB5.trans (hb6.mono hB5.size)
      have r6 := r5.later hb6
      obtain ⟨A6, c6, rfl, _, _, rr6⟩ := own_slice ho6
      clear r5 hb6 hrn ho6
      go_wp2_with fail
      have HX7 := sameBools_eq (some ⟨g4, 0, none⟩) A6 m m c6 l w6 r6 rr6 (by unfold maxLen; omega)
      refine HX7.mono ?_
      rintro e w7 ⟨rfl, hb7⟩
      have hB7 := hB6.trans (hb7.mono hB6.size)
      clear r6 rr6 hb7
      go_wp2_with fail
      refine (KV.out w7 (hT.later hB7)).mono ?_
      rintro e w8 ⟨rfl, hb8⟩
      go_wp2_with fail
      go_ret
      exact ⟨rfl, hB7.trans (hb8.mono hB7.size)⟩
  · have HFE := Lib.hid (fun A c W h => fromChanges_err A N c b n ts W h hNm hE)
    generalize fcE N n ts = E at *
    have e1 : (E == 0) = false := by simpa using hE
    have e2 : (E == E) = true := by simp
    have e3 : decide (E = 0) = false := by simpa using hE
    have hN5 : N ≤ 4098 := by omega
    clear h hac hE hL hLN
    by_cases h1 : 100 < n
    · have d1 : decide (100 < n) = true := by simpa using h1
      have d2 : decide (n ≤ 4096) = false := by simpa using (show ¬ (n ≤ 4096) from by omega)
      clear hn h1
      cases A with
      | none =>
        obtain rfl := HAC.out rfl
        obtain rfl : N = 0 := HN0.out rfl
        go_enter Tryz.func4, Tryz.ntmps4
        go_wp2_with fail
        refine (HLE.out w).mono ?_
        rintro e w1 ⟨rfl, rfl⟩
        have hB3 : Below w.heap.size w (w.alloc (.cells #[] 3)) := (Below.refl _ _).alloc (Nat.le_refl _) _
        have hr3 : Reads (w.alloc (.cells #[] 3)) (w.alloc (.cells #[] 3)).heap.size 1 (some ⟨w.heap.size, 0, none⟩) 0 (ts.map i64v) := ⟨HR.out.1, fun h0 => absurd h0 (by omega)⟩
        go_wp2_with fail
        generalize w.alloc (.cells #[] 3) = w3 at *
        have HX4 := HFE.out (some ⟨w.heap.size, 0, none⟩) 0 w3 hr3
        refine HX4.mono ?_
        rintro e w4 ⟨rfl, hb4⟩
        have hB4 := hB3.trans (hb4.mono hB3.size)
        clear hr3 hb4
        go_wp2_with fail
        have HX5 := HCC.out w4 (HR.out.later hB4)
        refine HX5.mono ?_
        rintro e w5 ⟨rfl, hb5⟩
        have hB5 := hB4.trans (hb5.mono hB4.size)
        clear hb5
        go_wp2_with fail
        have HX7 := sameBools_eq none none 0 0 0 [] w5 Reads.none_ Reads.none_ (by unfold maxLen; omega)
        refine HX7.mono ?_
        rintro e w7 ⟨rfl, hb7⟩
        have hB7 := hB5.trans (hb7.mono hB5.size)
        clear hb7
        go_wp2_with fail
        refine (KV.out w7 (hT.later hB7)).mono ?_
        rintro e w8 ⟨rfl, hb8⟩
        go_wp2_with fail
        go_ret
        exact ⟨rfl, hB7.trans (hb8.mono hB7.size)⟩
      | some a1 =>
        obtain ⟨i0, hi0, hz0, hz1, hz2⟩ := info_parts info_int
        go_enter Tryz.func4, Tryz.ntmps4
        go_wp2_with fail
        refine (HLE.out w).mono ?_
        rintro e w1 ⟨rfl, rfl⟩
        go_wp2_with (at_builtin; refine wpList_append_own _ rfl _ _ 34 rfl w.heap.size 3 i0 (.int .i64 0) 1 8 Tryz.underlying34 hi0 hz0 hz1 hz2 rfl (by decide) _ _ _ rfl (own_empty w w.heap.size 3 (Nat.le_refl _)) a1 N c (ts.map i64v) rfl ?c0 ?c1 ?c2 ?c3 ?c4 ?c5 ?_)
        case c0 => rw [HR.out.1]
        case c1 => exact (HR.out.below ((Below.refl _ _).alloc (Nat.le_refl _) _)).cellsAll
        case c2 => exact i64v_one ts
        case c3 => unfold maxLen; omega
        case c4 => omega
        case c5 => simp
        intro v1 w3 hown1 hgrow1 _
        have hB3 : Below w.heap.size w w3 := ((Below.refl w.heap.size w).alloc (Nat.le_refl _) (.cells #[] 3)).grown hgrow1 (by simp) (fun g hg => by simp [Value.ownBlock] at hg; omega)
        obtain ⟨A3, c3, rfl, _, _, hr3⟩ := own_slice hown1
        clear hgrow1 hown1
        go_wp2_with fail
        have HX4 := HFE.out A3 c3 w3 hr3
        refine HX4.mono ?_
        rintro e w4 ⟨rfl, hb4⟩
        have hB4 := hB3.trans (hb4.mono hB3.size)
        clear hr3 hb4
        go_wp2_with fail
        have HX5 := HCC.out w4 (HR.out.later hB4)
        refine HX5.mono ?_
        rintro e w5 ⟨rfl, hb5⟩
        have hB5 := hB4.trans (hb5.mono hB4.size)
        clear hb5
        go_wp2_with fail
        have HX7 := sameBools_eq none none 0 0 0 [] w5 Reads.none_ Reads.none_ (by unfold maxLen; omega)
        refine HX7.mono ?_
        rintro e w7 ⟨rfl, hb7⟩
        have hB7 := hB5.trans (hb7.mono hB5.size)
        clear hb7
        go_wp2_with fail
        refine (KV.out w7 (hT.later hB7)).mono ?_
        rintro e w8 ⟨rfl, hb8⟩
        go_wp2_with fail
        go_ret
        exact ⟨rfl, hB7.trans (hb8.mono hB7.size)⟩
    · have d1 : decide (100 < n) = false := by simpa using h1
      clear hn h1
      cases A with
      | none =>
        obtain rfl := HAC.out rfl
        obtain rfl : N = 0 := HN0.out rfl
        go_enter Tryz.func4, Tryz.ntmps4
        go_wp2_with fail
        refine (HLE.out w).mono ?_
        rintro e w1 ⟨rfl, rfl⟩
        have hB3 : Below w.heap.size w (w.alloc (.cells #[] 3)) := (Below.refl _ _).alloc (Nat.le_refl _) _
        have hr3 : Reads (w.alloc (.cells #[] 3)) (w.alloc (.cells #[] 3)).heap.size 1 (some ⟨w.heap.size, 0, none⟩) 0 (ts.map i64v) := ⟨HR.out.1, fun h0 => absurd h0 (by omega)⟩
        go_wp2_with fail
        generalize w.alloc (.cells #[] 3) = w3 at *
        have HX4 := HFE.out (some ⟨w.heap.size, 0, none⟩) 0 w3 hr3
        refine HX4.mono ?_
        rintro e w4 ⟨rfl, hb4⟩
        have hB4 := hB3.trans (hb4.mono hB3.size)
        clear hr3 hb4
        go_wp2_with fail
        have HX5 := HCC.out w4 (HR.out.later hB4)
        refine HX5.mono ?_
        rintro e w5 ⟨rfl, hb5⟩
        have hB5 := hB4.trans (hb5.mono hB4.size)
        clear hb5
        go_wp2_with fail
        have HX7 := sameBools_eq none none 0 0 0 [] w5 Reads.none_ Reads.none_ (by unfold maxLen; omega)
        refine HX7.mono ?_
        rintro e w7 ⟨rfl, hb7⟩
        have hB7 := hB5.trans (hb7.mono hB5.size)
        clear hb7
        go_wp2_with fail
        refine (KV.out w7 (hT.later hB7)).mono ?_
        rintro e w8 ⟨rfl, hb8⟩
        go_wp2_with fail
        go_ret
        exact ⟨rfl, hB7.trans (hb8.mono hB7.size)⟩
      | some a1 =>
        obtain ⟨i0, hi0, hz0, hz1, hz2⟩ := info_parts info_int
        go_enter Tryz.func4, Tryz.ntmps4
        go_wp2_with fail
        refine (HLE.out w).mono ?_
        rintro e w1 ⟨rfl, rfl⟩
        go_wp2_with (at_builtin; refine wpList_append_own _ rfl _ _ 34 rfl w.heap.size 3 i0 (.int .i64 0) 1 8 Tryz.underlying34 hi0 hz0 hz1 hz2 rfl (by decide) _ _ _ rfl (own_empty w w.heap.size 3 (Nat.le_refl _)) a1 N c (ts.map i64v) rfl ?c0 ?c1 ?c2 ?c3 ?c4 ?c5 ?_)
        case c0 => rw [HR.out.1]
        case c1 => exact (HR.out.below ((Below.refl _ _).alloc (Nat.le_refl _) _)).cellsAll
        case c2 => exact i64v_one ts
        case c3 => unfold maxLen; omega
        case c4 => omega
        case c5 => simp
        intro v1 w3 hown1 hgrow1 _
        have hB3 : Below w.heap.size w w3 := ((Below.refl w.heap.size w).alloc (Nat.le_refl _) (.cells #[] 3)).grown hgrow1 (by simp) (fun g hg => by simp [Value.ownBlock] at hg; omega)
        obtain ⟨A3, c3, rfl, _, _, hr3⟩ := own_slice hown1
        clear hgrow1 hown1
        go_wp2_with fail
        have HX4 := HFE.out A3 c3 w3 hr3
        refine HX4.mono ?_
        rintro e w4 ⟨rfl, hb4⟩
        have hB4 := hB3.trans (hb4.mono hB3.size)
        clear hr3 hb4
        go_wp2_with fail
        have HX5 := HCC.out w4 (HR.out.later hB4)
        refine HX5.mono ?_
        rintro e w5 ⟨rfl, hb5⟩
        have hB5 := hB4.trans (hb5.mono hB4.size)
        clear hb5
        go_wp2_with fail
        have HX7 := sameBools_eq none none 0 0 0 [] w5 Reads.none_ Reads.none_ (by unfold maxLen; omega)
        refine HX7.mono ?_
        rintro e w7 ⟨rfl, hb7⟩
        have hB7 := hB5.trans (hb7.mono hB5.size)
        clear hb7
        go_wp2_with fail
        refine (KV.out w7 (hT.later hB7)).mono ?_
        rintro e w8 ⟨rfl, hb8⟩
        go_wp2_with fail
        go_ret
        exact ⟨rfl, hB7.trans (hb8.mono hB7.size)⟩


theorem reb_any (A : Option Addr) (N c : Nat) (b : Bool) (n : Int) (ts : List Int) (w : World) (KV : AwakeOk) (hT : Tabs w) (h : Reads w w.heap.size 1 A N (ts.map i64v)) (hac : A = none → c = 0) :
    Calls Tryz.prog 4 #[.slice A N c, .bool b, .int .i64 n] w fun e w' => e = .returned (.bool true) ∧ Below w.heap.size w w' := by
  by_cases h1 : (N : Int) ≤ 64 ∨ 4096 < (N : Int) ∧ (N : Int) ≤ 4098
  · by_cases h2 : 100 < n ∧ n ≤ 4096
    · exact reb_turned A N c b n w KV hT (.inr h2)
    · exact reb_main A N c b n ts w KV hT h hac h1 (by omega)
  · exact reb_turned A N c b n w KV hT (.inl h1)

end Go.Proofs.YtboaojkblmddkaaGreatDoor

/- For every input ProbeRebuilds returns true and leaves its arguments as they were, in every world in which the five package-level variables that its row lists (three tables, two errors) hold what the program's text lays in them. Said, and its tied card. -/
namespace Go.Proofs.YtboaojkblmddkaaGreatDoor.rebuilds
open Go.ChangeShapes Go.WideShapes Go.ChangeAt Go.RowKit Go.Deep

theorem own : ownKnob Tryz.prog.godebug = none := by kernel_rfl
theorem laidOut : laidOutB Tryz.prog = true := by kernel_rfl
theorem cellsR : Tryz.prog.cellsOf 22 = 1 := by kernel_rfl
theorem cellsI : Tryz.prog.cellsOf 3 = 1 := by kernel_rfl
theorem cellsF : Tryz.prog.cellsOf 23 = 1 := by kernel_rfl
theorem cellsB : Tryz.prog.cellsOf 5 = 1 := by kernel_rfl
theorem cellsU : Tryz.prog.cellsOf 199 = 1 := by kernel_rfl
theorem gTz : Tryz.prog.globalNamed "math/bits.deBruijn64tab" = some 2 := by kernel_rfl
theorem gPow : Tryz.prog.globalNamed "internal/strconv.uint64pow10" = some 5 := by kernel_rfl

/-- a slice of ints; a nil one has no capacity -/
theorem open_i64s0 {H : Type} {enc : TypeId × Value → H} {P : Program} {w : World} {base fuel : Nat} {held : Bool} {t e : TypeId} {cs : List Value} {x : DataW H × List MemPlace}
    (ht : P.underlying t = some (.slice e)) (he : P.underlying e = some (.int .i64)) (hc : P.cellsOf e = 1) (h : DataW.trod enc P w base (fun _ => true) held fuel t cs = some x) :
    ∃ (A : Option Addr) (n c : Nat) (l : List Int), cs = [.slice A n c] ∧ n ≤ c ∧ c ≤ maxLen ∧ (A = none → c = 0) ∧ Reads w w.heap.size 1 A n (l.map i64v) := by
  rcases open_ints ht he hc h with ⟨rfl, _⟩ | ⟨a, len, cap, zs, rfl, _, hl, hm, hz, _, hcell, _⟩
  · exact ⟨none, 0, 0, [], rfl, Nat.le_refl _, Nat.zero_le _, fun _ => rfl, Reads.none_⟩
  · simp only [if_true] at hz
    refine ⟨some a, len, cap, zs.take len, rfl, hl, hm, (fun e => by cases e), by simp; omega, fun hp => ⟨a, rfl, ?_, fun j u hu => ?_⟩⟩
    · have := World.block_lt_of_cell? w _ (hcell 0 (by omega))
      simpa [block_of_add] using this
    · have hj : j < len := by
        rcases Nat.lt_or_ge j len with h1 | h1
        · exact h1
        · rw [List.getElem?_eq_none (by simp; omega)] at hu; cases hu
      rw [List.getElem?_eq_getElem (by simp; omega)] at hu
      injection hu with hu
      rw [hcell j (by omega), ← hu]
      simp [i64v, List.getD, List.getElem?_eq_getElem (show j < zs.length by omega)]

set_option maxRecDepth 100000 in
theorem tabs {W : World} (h : laidMetH Tryz.prog Rows.probeRebuildsRow.laid W) (hs : W.ShapedOpen Tryz.prog) : Tabs W := by
  have h1 : laidMet Tryz.prog Rows.probeRebuildsRow.laid W := h
  have h2 := laidMet.tail h1
  have h3 := laidMet.tail h2
  have t2 : Lib.TabIs Tryz.prog W "math/bits.deBruijn64tab" .u8 (Lib.deBruijn64tab.map fun (n : Nat) => (n : Int)) :=
    Lib.tabIs_of_head gTz (by kernel_rfl) Tryz.underlying263 Tryz.underlying5 cellsB (by kernel_rfl) h2
  have t3 : Lib.TabIs Tryz.prog W "internal/strconv.uint64pow10" .u64 Lib.pow10Tab :=
    Lib.tabIs_of_head gPow (by kernel_rfl) Tryz.underlying272 Tryz.underlying199 cellsU (by kernel_rfl) h3
  refine ⟨fun j hj => ?_, t3, ?_⟩
  · have := t2.cell gTz j (by simpa using hj)
    rw [this]
    simp [List.getD, List.getElem?_map, List.getElem?_eq_getElem hj]
  · exact cell_of_shapedOpen_int (zero := #[.int .i64 0]) (t := 3) hs (of_decide_eq_true (by kernel_rfl)) (by kernel_rfl) rfl (by kernel_rfl) (by kernel_rfl) Tryz.underlying3

set_option maxRecDepth 100000 in
theorem contract (H : Type) (enc : TypeId × Value → H) (W : World) (base : Nat) (args : Array Value) (ds gs : List (DataW H)) (before : List MemPlace)
    (hval : ∀ (j : Nat) t v, Tryz.f4.params[j]? = some t → args[j]? = some v → Value.okWide Tryz.prog W .any base t v)
    (hW : DataW.Whole enc Tryz.prog Tryz.f4.params.toList Rows.probeRebuildsSpec.vars false W args.toList ds gs before) (hL : laidMetH Tryz.prog Rows.probeRebuildsRow.laid W) (hS : W.ShapedOpen Tryz.prog) :
    Calls Tryz.prog 4 args W fun e W' => ∃ v, e = .returned v ∧ Rows.probeRebuildsSpec.post enc Tryz.prog Tryz.f4 false true false false W args v W' := by
  have hW' := hW
  obtain ⟨p, q, hA0, hV, rfl, hfz, hnd⟩ := hW
  have hA : DataW.TrodAll enc Tryz.prog W 0 (fun _ => true) true Tryz.f4.params.toList args.toList ds p := hA0
  rw [Tryz.params4] at hA hval
  obtain ⟨v0, vs0, d0, ds0, p0, q0, hargs, rfl, rfl, h0, r0⟩ := trodAll_cons hA
  obtain ⟨v1, vs1, d1, ds1, p1, q1, rfl, rfl, rfl, h1, r1⟩ := trodAll_cons r0
  obtain ⟨v2, vs2, d2, ds2, p2, q2, rfl, rfl, rfl, h2, r2⟩ := trodAll_cons r1
  obtain ⟨rfl, rfl, rfl⟩ := trodAll_nil r2
  obtain rfl : args = #[v0, v1, v2] := by cases args; simp_all
  obtain ⟨rfl, rfl⟩ := trodVars_none hV
  obtain ⟨A, n, c, rfl⟩ := okWide_slice Tryz.underlying34 (hval 0 34 v0 rfl rfl)
  obtain ⟨b, rfl⟩ := okWide_bool Tryz.underlying4 (hval 1 4 v1 rfl rfl)
  obtain ⟨k, rfl⟩ := okWide_int Tryz.underlying3 (hval 2 3 v2 rfl rfl)
  obtain ⟨m0, hf0⟩ := id h0
  obtain ⟨B0, k0, e0, l, he0, hke, hm0, hnc, hrd⟩ := open_i64s0 Tryz.underlying34 Tryz.underlying3 cellsI hf0
  simp only [Value.cells, List.cons.injEq, Value.slice.injEq, and_true] at he0
  obtain ⟨rfl, rfl, rfl⟩ := he0
  have walk := reb_any A n c b k l W awake_ok (tabs hL hS) hrd hnc
  have hlt : ∀ x ∈ p0 ++ (p1 ++ (p2 ++ [])) ++ [], x.block < W.heap.size := fun x hx => hW'.lt x hx
  refine walk.mono fun e W' ⟨he, hb⟩ => ?_
  subst he
  have st : ∀ (t : TypeId) (v : Value) (d : DataW H) (ps : List MemPlace) (sp : Nat → Bool), Tryz.prog.readableRec t = true → t < Tryz.prog.types.size → DataW.Trod enc Tryz.prog W 0 (fun _ => true) true t v d ps →
      (∀ x ∈ ps, x.block < W.heap.size) → (∀ x ∈ ps, sp x.block = true) → DataW.Trod enc Tryz.prog W' 0 sp true t v d ps := fun t v d ps sp hr hrow h hl hs =>
    WideElems.Trod_stays laidOut hr hrow h (fun x hx => hb.same (hl x hx)) hs
  refine ⟨_, rfl, post_below (pa := p0 ++ (p1 ++ (p2 ++ []))) (pv := []) hW' (fun _ _ _ => trodAll_cons_mk (shut_bool Tryz.underlying4 _) trodAll_mk0) (fun sp hsp => ?_) (fun _ _ => rfl) rfl hb (ok_one (by kernel_rfl) rfl (okWide_bool_mk Tryz.underlying4 _))⟩
  refine trodAll_cons_mk (st _ _ _ _ sp (by kernel_rfl) (of_decide_eq_true (by kernel_rfl)) h0 (fun x hx => hlt x (by simp [hx])) (fun x hx => hsp x (by simp [hx]))) ?_
  refine trodAll_cons_mk (st _ _ _ _ sp (by kernel_rfl) (of_decide_eq_true (by kernel_rfl)) h1 (fun x hx => hlt x (by simp [hx])) (fun x hx => hsp x (by simp [hx]))) ?_
  exact trodAll_cons_mk (st _ _ _ _ sp (by kernel_rfl) (of_decide_eq_true (by kernel_rfl)) h2 (fun x hx => hlt x (by simp [hx])) (fun x hx => hsp x (by simp [hx]))) trodAll_mk0

/-- a world for the witness: the settled one, the three tables as their initialisers lay them -/
def cellsOver (cs : Array Value) : Obj → Obj
  | .cells _ t frozen => .cells cs t frozen
  | o => o
def tab32 : List Nat := [0, 1, 28, 2, 29, 14, 24, 3, 30, 22, 20, 15, 25, 17, 4, 8, 31, 27, 13, 23, 21, 19, 16, 7, 26, 12, 18, 6, 11, 5, 10, 9]
noncomputable def low : Nat := (World.holding Tryz.prog default ⟨#[], #[], []⟩).heap.size
noncomputable def laidWorld (os : Os) : World :=
  { (World.holding Tryz.prog os ⟨#[.cells #[.string { data := #[118, 97, 108, 117, 101, 32, 111, 117, 116, 32, 111, 102, 32, 114, 97, 110, 103, 101] }] 286, .cells #[.string { data := #[105, 110, 118, 97, 108, 105, 100, 32, 115, 121, 110, 116, 97, 120] }] 286], #[], []⟩) with heap := ((((((World.holding Tryz.prog os ⟨#[.cells #[.string { data := #[118, 97, 108, 117, 101, 32, 111, 117, 116, 32, 111, 102, 32, 114, 97, 110, 103, 101] }] 286, .cells #[.string { data := #[105, 110, 118, 97, 108, 105, 100, 32, 115, 121, 110, 116, 97, 120] }] 286], #[], []⟩).heap.modify 8 (cellsOver (tab32.map fun (n : Nat) => Value.int .u8 (n : Int)).toArray)).modify 2 (cellsOver (Lib.deBruijn64tab.map fun (n : Nat) => Value.int .u8 (n : Int)).toArray)).modify 5 (cellsOver (Lib.pow10Tab.map fun n => Value.int .u64 n).toArray)).modify 7 (cellsOver #[.iface 284 (.pointer (some ⟨low, 0, none⟩))])).modify 6 (cellsOver #[.iface 284 (.pointer (some ⟨low + 1, 0, none⟩))])) }
def wargs : Array Value := #[.slice none 0 0, .bool false, .int .i64 0]
set_option maxRecDepth 100000 in
theorem laid_met (os : Os) : laidMet Tryz.prog Rows.probeRebuildsRow.laid ((laidWorld os).forCall (fun _ _ => 0) ⟨#[], wargs, []⟩).memory :=
  laidMet_of_run' 8 (by kernel_rfl) (by kernel_rfl)
set_option maxRecDepth 100000 in
theorem reads (os : Os) {H : Type} (enc : TypeId × Value → H) : ∃ places, DataW.whole enc Tryz.prog ((laidWorld os).forCall (fun _ _ => 0) ⟨#[], wargs, []⟩).memory Tryz.f4.params.toList Rows.probeRebuildsSpec.vars false wargs.toList 8 = some ([.nil, .lit (.bool false), .lit (.int .i64 0)], [], places) :=
  ⟨[], by kernel_rfl⟩

set_option maxRecDepth 100000 in
theorem lifted (os : Os) (started : os.Started) (H : Type) (enc : TypeId × Value → H) (F : Stop.Interp) :
    ReturnsInHanded {} Tryz.checked os 4 .any ((OpenSpec.ofChange Rows.probeRebuildsSpec).preRow enc Tryz.prog Tryz.f4 Rows.probeRebuildsRow.domain false Rows.probeRebuildsRow.laid) (((OpenSpec.ofChange Rows.probeRebuildsSpec).at F).post enc Tryz.prog Tryz.f4 false true false false) := by
  obtain ⟨places, hx⟩ := reads os enc
  refine returnsInHanded_of_row (C := Tryz.checked) (s := OpenSpec.ofChange Rows.probeRebuildsSpec) own started (by kernel_rfl) Tryz.func4
    (witness_row_at (enc := enc) (C := Tryz.checked) false (laidWorld os) wargs rfl (by kernel_rfl) (by kernel_rfl) (by kernel_rfl)
      (OpenSpec.preRow_of_cond 8 hx (by kernel_rfl) (fun k hk => by cases hk) (by kernel_rfl) (laid_met os))) ?_
  intro W base args ds gs before hval hW _ _ _ hL hS _
  exact contract H enc W base args ds gs before hval hW hL hS

theorem said : Rows.ProbeRebuildsSaid :=
  OpenClaim.holds_of_cond 4 Tryz.f4 rfl rfl rfl rfl rfl rfl rfl ⟨rfl, rfl, rfl, rfl, rfl⟩ rfl rfl rfl rfl rfl (by kernel_rfl) Tryz.func4 (by kernel_rfl)
    (of_decide_eq_true (by kernel_rfl)) (by unfold Func.isWrapper; first | (rw [if_pos (by decide +kernel)]; kernel_rfl) | (rw [if_neg (by decide +kernel)]; exact ⟨rfl, rfl⟩))
    (fun os started H enc _ F => by rw [OpenClaim.pre_eq_preRow]; exact lifted os started H enc F)

theorem plain (f : FuncId) (fn : Func) (hf : Tryz.pinned.checked.prog.funcNamed "strobe/strobelaw02.ProbeRebuilds" = some f) (hfn : Tryz.pinned.checked.prog.funcs[f]? = some fn) :
    true = Tryz.pinned.checked.prog.looks [] ∧ ∀ (j : Nat) t, fn.params[j]? = some t → Tryz.pinned.checked.prog.wantsStandIn t = false := by
  obtain rfl : f = 4 := Option.some.inj ((show Tryz.prog.funcNamed "strobe/strobelaw02.ProbeRebuilds" = some 4 by kernel_rfl).symm.trans hf) |>.symm
  obtain rfl : fn = Tryz.f4 := (Option.some.inj (Tryz.func4.symm.trans hfn)).symm
  refine ⟨by kernel_rfl, fun j t ht => ?_⟩
  rw [Tryz.params4] at ht
  have hm := Array.mem_of_getElem? ht
  simp at hm
  rcases hm with rfl | rfl | rfl
  · exact (show Tryz.prog.wantsStandIn 34 = false by kernel_rfl)
  · exact (show Tryz.prog.wantsStandIn 4 = false by kernel_rfl)
  · exact (show Tryz.prog.wantsStandIn 3 = false by kernel_rfl)

/-- THE CARD -/
theorem card : Rows.ProbeRebuildsCardSaid :=
  Claim7.holds_tied_plain_at .later [] _ _ _ _ said (fun _ h => by cases h) (by kernel_rfl) (fun _ h => by cases h) probeRebuilds_row_tie rfl ⟨rfl, rfl⟩ (by kernel_rfl) rfl plain (by kernel_rfl)
end Go.Proofs.YtboaojkblmddkaaGreatDoor.rebuilds
