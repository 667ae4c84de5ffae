/- The law's one voltage: its contract. -/
import Derived.Test.YthmiamppfncfoaaGreatDoorCCode1
import Derived.Test.YthmiamppfncfoaaGreatDoorCDig
import Derived.Test.YthmiamppfncfoaaGreatDoorCWd2
import Derived.Test.YthmiamppfncfoaaGreatDoorCRf2
import Derived.Test.YthmiamppfncfoaaGreatDoorCAl3
namespace Go.Proofs.YthmiamppfncfoaaGreatDoor
open Go.RowKit Bn
open Flt

theorem rows2 (w : World) (g1 g2 : Nat) (r1 r2 : List Bool) (t : TypeId) (h1 : Reads w w.heap.size 1 (some ⟨g1, 0, none⟩) 2 (r1.map boolv)) (h2 : Reads w w.heap.size 1 (some ⟨g2, 0, none⟩) 2 (r2.map boolv)) :
    RowsR boolv (w.alloc (.cells #[.slice (some ⟨g1, 0, none⟩) 2 2, .slice (some ⟨g2, 0, none⟩) 2 2] t)) (w.alloc (.cells #[.slice (some ⟨g1, 0, none⟩) 2 2, .slice (some ⟨g2, 0, none⟩) 2 2] t)).heap.size (some ⟨w.heap.size, 0, none⟩) 2 [r1, r2] := by
  have hb : Below w.heap.size w (w.alloc (.cells #[.slice (some ⟨g1, 0, none⟩) 2 2, .slice (some ⟨g2, 0, none⟩) 2 2] t)) := (Below.refl _ _).alloc (Nat.le_refl _) _
  have l1 := h1.lenM
  have l2 := h2.lenM
  refine ⟨rfl, _, Reads.lit w [.slice (some ⟨g1, 0, none⟩) 2 2, .slice (some ⟨g2, 0, none⟩) 2 2] t, fun i hi => ?_⟩
  have h1' := h1.later hb
  have h2' := h2.later hb
  have hi2 : i < 2 := hi
  rcases (show i = 0 ∨ i = 1 from by omega) with rfl | rfl
  · refine ⟨some ⟨g1, 0, none⟩, 2, ?_, ?_, by unfold maxLen; omega, ?_⟩
    · show some _ = some (Value.slice _ r1.length 2); rw [l1]
    · show r1.length ≤ 2; omega
    · show Reads _ _ 1 _ r1.length (r1.map boolv); rw [l1]; exact h1'
  · refine ⟨some ⟨g2, 0, none⟩, 2, ?_, ?_, by unfold maxLen; omega, ?_⟩
    · show some _ = some (Value.slice _ r2.length 2); rw [l2]
    · show r2.length ≤ 2; omega
    · show Reads _ _ 1 _ r2.length (r2.map boolv); rw [l2]; exact h2'

theorem vol_code (w : World) (hT : Tabs w) : Calls Tryz.prog 19 #[.agg #[.int .i64 8, .int .i64 (-2), .int .i64 128, .string { data := #[49] }, .string { data := #[48] }], .string { data := #[49, 47, 51] }] w fun e w' => e = .returned (.tuple #[.int .i64 129, .int .i64 0, .int .i64 0]) ∧ Below w.heap.size w w' := by
  refine Code_ok { data := #[49, 47, 51] } 8 130 (-2) 128 { data := #[49] } { data := #[48] } w hT vol_conv (by decide) vol_read 129 0 (by decide) ?_ ?_ (by decide) (by decide)
  · intro t ht
    have e : ({ data := #[49, 47, 51] } : ByteArray).data.toList = [49, 47, 51] := rfl
    rw [e, vol_near]
    exact vol_lo t ht
  · intro t h1 h2
    have e : ({ data := #[49, 47, 51] } : ByteArray).data.toList = [49, 47, 51] := rfl
    have e2 : (2 : Nat) ^ 8 = 256 := by decide
    rw [e, vol_near]
    have h3 := vol_hi (t - 130) (by omega)
    rw [show 130 + (t - 130) = t from by omega] at h3
    exact h3
theorem vol_volts (w : World) (hT : Tabs w) : Calls Tryz.prog 21 #[.agg #[.int .i64 8, .int .i64 (-2), .int .i64 128, .string { data := #[49] }, .string { data := #[48] }], .int .i64 129] w fun e w' => e = .returned (.tuple #[.float .f32 1048576000, .int .i64 0]) ∧ Below w.heap.size w w' := by
  have h := Volts_ok 8 (-2) 128 129 { data := #[49] } { data := #[48] } w hT vol_conv (by decide)
  rw [show (129 : Int) - 128 = 1 from rfl, vol_nom] at h
  exact h
theorem vol_float (w : World) (hT : Tabs w) : Calls Tryz.prog 20 #[.string { data := #[49, 47, 52] }] w fun e w' => e = .returned (.tuple #[.float .f32 1048576000, .int .i64 0]) ∧ Below w.heap.size w w' := by
  refine (Float_any { data := #[49, 47, 52] } w hT (by decide)).mono ?_
  rintro e w' ⟨rfl, hb⟩
  have e1 : ({ data := #[49, 47, 52] } : ByteArray).data.toList = [49, 47, 52] := rfl
  rw [e1, vol_read4, vol_fl, vol_fx]
  exact ⟨rfl, hb⟩
theorem vol_digital (w : World) (lo hi : Nat) (r : List Bool) (t : TypeId) (g : Nat) (hg : g = w.heap.size) (h1 : fin Ieee.single lo = true) (h2 : fin Ieee.single hi = true) (h3 : fge lo hi = false) (hr : digL lo hi false [1048576000, 1065353216] = r) :
    Calls Tryz.prog 8 #[.slice (some ⟨g, 0, none⟩) 2 2, .agg #[.float .f32 lo, .float .f32 hi], .bool false] (w.alloc (.cells #[.float .f32 1048576000, .float .f32 1065353216] t)) fun e w' =>
      ∃ g, e = .returned (.tuple #[.slice (some ⟨g, 0, none⟩) 2 2, .int .i64 0]) ∧ Reads w' w'.heap.size 1 (some ⟨g, 0, none⟩) 2 (r.map boolv) ∧ Below w.heap.size w w' := by
  subst hg
  have hb : Below w.heap.size w (w.alloc (.cells #[.float .f32 1048576000, .float .f32 1065353216] t)) := (Below.refl _ _).alloc (Nat.le_refl _) _
  refine (digital_ok (some ⟨w.heap.size, 0, none⟩) 2 2 lo hi false [1048576000, 1065353216] _ (Reads.lit w [.float .f32 1048576000, .float .f32 1065353216] t) vol_fin (by omega) h1 h2 h3).mono ?_
  rintro e w' ⟨g, rfl, ho, hb'⟩
  rw [hr] at ho
  exact ⟨g, rfl, Reads.of_own ho, hb.trans (hb'.mono hb.size)⟩

set_option maxHeartbeats 2000000 in
set_option maxRecDepth 100000 in
theorem clipVolt_ok (w : World) (hT : Tabs w) : Calls Tryz.prog 6 #[] w fun e w' => e = .returned (.bool true) ∧ Below w.heap.size w w' := by
  have hb0 : Below w.heap.size w (w.alloc (.cells #[.int .i64 8, .int .i64 (-2), .int .i64 128, .string { data := #[49] }, .string { data := #[48] }] 57)) := (Below.refl _ _).alloc (Nat.le_refl _) _
  have q0 : CBlk (w.alloc (.cells #[.int .i64 8, .int .i64 (-2), .int .i64 128, .string { data := #[49] }, .string { data := #[48] }] 57)) w.heap.size #[.int .i64 8, .int .i64 (-2), .int .i64 128, .string { data := #[49] }, .string { data := #[48] }] 57 := CBlk.new w _ _ _ rfl
  have hEQ := vol_eq
  go_enter Tryz.func6, Tryz.ntmps6
  go_wp2_with fail
  generalize (w.alloc (.cells #[.int .i64 8, .int .i64 (-2), .int .i64 128, .string { data := #[49] }, .string { data := #[48] }] 57)) = w1 at *
  have hT1 := hT.later hb0
  refine (vol_code w1 hT1).mono ?_
  rintro e w2 ⟨rfl, hb2⟩
  have hB2 := hb0.trans (hb2.mono hb0.size)
  have hT2 := hT.later hB2
  have q2 := q0.below hb2 q0.lt
  go_wp2_with fail
  refine (vol_float w2 hT2).mono ?_
  rintro e w3 ⟨rfl, hb3⟩
  have hB3 := hB2.trans (hb3.mono hB2.size)
  have hT3 := hT.later hB3
  have q3 := q2.below hb3 q2.lt
  have x0 := q3.cell 0
  have x1 := q3.cell 1
  have x2 := q3.cell 2
  have x3 := q3.cell 3
  have x4 := q3.cell 4
  go_wp2_with fail
  refine (vol_volts w3 hT3).mono ?_
  rintro e w4 ⟨rfl, hb4⟩
  have hB4 := hB3.trans (hb4.mono hB3.size)
  clear x0 x1 x2 x3 x4
  go_wp2_with fail
  refine (vol_digital w4 1056964608 1061158912 [false, true] _ _ rfl (by decide +kernel) (by decide +kernel) (by decide +kernel) vol_dig1).mono ?_
  rintro e w5 ⟨g1, rfl, hr1, hb5⟩
  have hB5 := hB4.trans (hb5.mono hB4.size)
  go_wp2_with fail
  refine (vol_digital w5 0 1048576000 [true, true] _ _ rfl (by decide +kernel) (by decide +kernel) (by decide +kernel) vol_dig2).mono ?_
  rintro e w6 ⟨g2, rfl, hr2, hb6⟩
  have hB6 := hB5.trans (hb6.mono hB5.size)
  have hr1' := hr1.later hb6
  go_wp2_with fail
  have hR := rows2 w6 g1 g2 [false, true] [true, true] 35 hr1' hr2
  have hb7 : Below w6.heap.size w6 (w6.alloc (.cells #[.slice (some ⟨g1, 0, none⟩) 2 2, .slice (some ⟨g2, 0, none⟩) 2 2] 35)) := (Below.refl _ _).alloc (Nat.le_refl _) _
  have hB7 := hB6.trans (hb7.mono hB6.size)
  generalize w6.alloc (.cells #[.slice (some ⟨g1, 0, none⟩) 2 2, .slice (some ⟨g2, 0, none⟩) 2 2] 35) = w7 at *
  refine (words_ok (some ⟨w6.heap.size, 0, none⟩) 2 2 2 [[false, true], [true, true]] w7 hR (by omega) (by omega) (by intro r hr; simp at hr; rcases hr with rfl | rfl <;> rfl) (by omega)).mono ?_
  rintro e w8 ⟨g3, rfl, ho8, hb8⟩
  rw [vol_wd] at ho8
  have hB8 := hB7.trans (hb8.mono hB7.size)
  have hr8 := (Reads.of_own ho8).later ((Below.refl w8.heap.size w8).alloc (Nat.le_refl _) (.cells #[.int .u16 2, .int .u16 3] 63))
  have hb9 : Below w8.heap.size w8 (w8.alloc (.cells #[.int .u16 2, .int .u16 3] 63)) := (Below.refl _ _).alloc (Nat.le_refl _) _
  have hB9 := hB8.trans (hb9.mono hB8.size)
  go_wp2_with fail
  refine (sameWords_eq (some ⟨g3, 0, none⟩) (some ⟨w8.heap.size, 0, none⟩) 2 2 2 [2, 3] _ hr8 (Reads.lit w8 [.int .u16 2, .int .u16 3] _) (by unfold maxLen; omega)).mono ?_
  rintro e w10 ⟨rfl, hb10⟩
  go_wp2_with fail
  go_ret
  exact ⟨rfl, hB9.trans (hb10.mono hB9.size)⟩

end Go.Proofs.YthmiamppfncfoaaGreatDoor

/- The law of lines: what its guards say; where it answers by its one voltage alone. -/
namespace Go.Proofs.YthmiamppfncfoaaGreatDoor
open Go.RowKit Bn
open Flt

theorem firstE_all : ∀ l : List Int, firstE l = 0 → ∀ x ∈ l, x = 0
  | [], _, x, hx => by cases hx
  | a :: t, h, x, hx => by
    by_cases ha : a = 0
    · subst ha
      have ht : firstE t = 0 := by
        have e : firstE (0 :: t) = if (0 : Int) ≠ 0 then 0 else firstE t := rfl
        rw [e, if_neg (by simp)] at h
        exact h
      rcases List.mem_cons.1 hx with rfl | hx
      · rfl
      · exact firstE_all t ht x hx
    · exfalso
      have e : firstE (a :: t) = if a ≠ 0 then a else firstE t := rfl
      rw [e, if_pos ha] at h
      exact ha h
theorem recE_valid (rows : List (List Nat)) (sk : List Int) (h : recE rows sk = 0) : Valid rows sk := by
  unfold recE at h
  split at h
  · cases h
  split at h
  · cases h
  rename_i h0 h8
  split at h
  · rename_i hx; exact absurd h hx
  rename_i hf
  split at h
  · cases h
  rename_i hs
  split at h
  · rename_i hsm
    have hf0 : firstE (rows.map smpE) = 0 := Classical.byContradiction hf
    have hall : ∀ r ∈ rows, smpE r = 0 := fun r hr => firstE_all _ hf0 _ (List.mem_map_of_mem hr)
    refine ⟨by omega, by omega, ?_, ?_, by omega, ?_⟩
    · intro r hr
      have := hall r hr
      unfold smpE at this
      split at this
      · cases this
      · omega
    · intro r hr x hx
      have := hall r hr
      unfold smpE at this
      split at this
      · cases this
      · split at this
        · rename_i ha; exact List.all_eq_true.1 ha x hx
        · cases this
    · intro s hsk
      have := List.all_eq_true.1 hsm s hsk
      unfold smallS at this
      simpa using this
  · cases h
theorem levE_ok (lo hi : Nat) (h : levE lo hi = 0) : fin Ieee.single lo = true ∧ fin Ieee.single hi = true ∧ fge lo hi = false := by
  unfold levE at h
  split at h
  · rename_i hf
    split at h
    · cases h
    · rename_i hg
      exact ⟨hf.1, hf.2, by simpa using hg⟩
  · cases h

set_option maxHeartbeats 2000000 in
set_option maxRecDepth 100000 in
/-- a guard of the law turns the input away: its one voltage answers -/
theorem law_turned (A A' : Option Addr) (n c n' c' lo hi : Nat) (rows : List (List Nat)) (sk : List Int) (w : World) (hT : Tabs w) (h : RowsR f32v w w.heap.size A n rows) (h' : Reads w w.heap.size 1 A' n' (sk.map i64v)) (hn : n ≤ maxLen) (hn' : n' ≤ maxLen)
    (hg : 4 < n ∨ recE rows sk ≠ 0 ∨ levE lo hi ≠ 0) :
    Calls Tryz.prog 3 #[.slice A n c, .slice A' n' c', .agg #[.float .f32 lo, .float .f32 hi]] w fun e w' => e = .returned (.bool true) ∧ Below w.heap.size w w' := by
  have hb0 : Below w.heap.size w (w.alloc (.cells #[.float .f32 lo, .float .f32 hi] 26)) := (Below.refl _ _).alloc (Nat.le_refl _) _
  have q0 : CBlk (w.alloc (.cells #[.float .f32 lo, .float .f32 hi] 26)) w.heap.size #[.float .f32 lo, .float .f32 hi] 26 := CBlk.new w _ _ _ rfl
  have K1 := Lib.hid (rCheckRecords_any A A' n c n' c' rows sk _ (h.later hb0) (h'.later hb0) hn hn')
  have K2 := Lib.hid (fun W => rCheckLevels_any lo hi W)
  have KV := Lib.hid (fun W hT => clipVolt_ok W hT)
  have hT1 := hT.later hb0
  unfold maxLen at hn hn'
  clear h h'
  by_cases h1 : 4 < n
  · have d1 : decide ((4 : Int) < (n : Int)) = true := by simpa using (show (4 : Int) < n from by omega)
    clear hg
    go_enter Tryz.func3, Tryz.ntmps3
    go_wp2_with fail
    refine (KV.out _ hT1).mono ?_
    rintro e w2 ⟨rfl, hb2⟩
    go_wp2_with fail
    go_ret
    exact ⟨rfl, hb0.trans (hb2.mono hb0.size)⟩
  · have d1 : decide ((4 : Int) < (n : Int)) = false := by simpa using (show ¬ ((4 : Int) < n) from by omega)
    by_cases h2 : recE rows sk = 0
    · have h3 : levE lo hi ≠ 0 := (hg.resolve_left h1).resolve_left (fun h => h h2)
      generalize recE rows sk = r at *
      generalize levE lo hi = v at *
      subst h2
      have d3 : (v == 0) = false := by simpa using h3
      clear hg h1 h3
      go_enter Tryz.func3, Tryz.ntmps3
      go_wp2_with fail
      refine K1.out.mono ?_
      rintro e w1 ⟨rfl, hb1⟩
      have hB1 := hb0.trans (hb1.mono hb0.size)
      have q1 := q0.below hb1 q0.lt
      have x0 := q1.cell 0
      have x1 := q1.cell 1
      go_wp2_with fail
      refine (K2.out w1).mono ?_
      rintro e w2 ⟨rfl, hb2⟩
      have hB2 := hB1.trans (hb2.mono hB1.size)
      have hT2 := hT.later hB2
      go_wp2_with fail
      refine (KV.out w2 hT2).mono ?_
      rintro e w3 ⟨rfl, hb3⟩
      go_wp2_with fail
      go_ret
      exact ⟨rfl, hB2.trans (hb3.mono hB2.size)⟩
    · generalize recE rows sk = r at *
      have d3 : (r == 0) = false := by simpa using h2
      have d4 : (r != 0) = true := by simpa using h2
      have d5 : decide (r = 0) = false := by simpa using h2
      have d6 : decide (r ≠ 0) = true := by simpa using h2
      clear hg h1 h2
      go_enter Tryz.func3, Tryz.ntmps3
      go_wp2_with fail
      refine K1.out.mono ?_
      rintro e w1 ⟨rfl, hb1⟩
      have hB1 := hb0.trans (hb1.mono hb0.size)
      have hT2 := hT.later hB1
      have q1 := q0.below hb1 q0.lt
      have x0 := q1.cell 0
      have x1 := q1.cell 1
      go_wp2_with fail
      refine (KV.out w1 hT2).mono ?_
      rintro e w3 ⟨rfl, hb3⟩
      go_wp2_with fail
      go_ret
      exact ⟨rfl, hB1.trans (hb3.mono hB1.size)⟩

end Go.Proofs.YthmiamppfncfoaaGreatDoor

/- The law of lines where a record is too long for it. -/
namespace Go.Proofs.YthmiamppfncfoaaGreatDoor
open Go.RowKit Bn
open Flt

set_option maxHeartbeats 2000000 in
set_option maxRecDepth 100000 in
/-- a record of more than 30 samples: the one voltage answers -/
theorem law_long (A A' : Option Addr) (n c n' c' lo hi : Nat) (rows : List (List Nat)) (sk : List Int) (w : World) (hT : Tabs w) (h : RowsR f32v w w.heap.size A n rows) (h' : Reads w w.heap.size 1 A' n' (sk.map i64v)) (hn : n ≤ maxLen) (hn' : n' ≤ maxLen)
    (h1 : n ≤ 4) (h2 : recE rows sk = 0) (h3 : levE lo hi = 0) (hg : ∃ (k : Nat) (hk : k < rows.length), 30 < rows[k].length) :
    Calls Tryz.prog 3 #[.slice A n c, .slice A' n' c', .agg #[.float .f32 lo, .float .f32 hi]] w fun e w' => e = .returned (.bool true) ∧ Below w.heap.size w w' := by
  have hb0 : Below w.heap.size w (w.alloc (.cells #[.float .f32 lo, .float .f32 hi] 26)) := (Below.refl _ _).alloc (Nat.le_refl _) _
  have q0 : CBlk (w.alloc (.cells #[.float .f32 lo, .float .f32 hi] 26)) w.heap.size #[.float .f32 lo, .float .f32 hi] 26 := CBlk.new w _ _ _ rfl
  have k1 := rCheckRecords_any A A' n c n' c' rows sk _ (h.later hb0) (h'.later hb0) hn hn'
  have k2 := fun W => rCheckLevels_any lo hi W
  have hLEN := (recE_valid rows sk h2).len
  rw [h2] at k1
  rw [h3] at k2
  have K1 := Lib.hid k1
  have K2 := Lib.hid k2
  have HG := Lib.hid hg
  have HLEN := Lib.hid hLEN
  have KV := Lib.hid (fun W hT => clipVolt_ok W hT)
  have hT1 := hT.later hb0
  have d1 : decide ((4 : Int) < (n : Int)) = false := by simpa using (show ¬ ((4 : Int) < n) from by omega)
  have hl := Lib.hid h.1
  unfold maxLen at hn hn'
  clear h' h2 h3 k1 k2 hg hLEN
  go_enter Tryz.func3, Tryz.ntmps3
  go_wp2_with fail
  refine K1.out.mono ?_
  rintro e w1 ⟨rfl, hb1⟩
  have hB1 := hb0.trans (hb1.mono hb0.size)
  have q1 := q0.below hb1 q0.lt
  have x0 := q1.cell 0
  have x1 := q1.cell 1
  go_wp2_with fail
  refine (K2.out w1).mono ?_
  rintro e w2 ⟨rfl, hb2⟩
  have hB2 := hB1.trans (hb2.mono hB1.size)
  have hT2 := hT.later hB2
  clear x0 x1
  go_wp2
  go_loopg [61] n (fun q s W => ∃ k : Nat, k ≤ n ∧ s = .int .i64 k ∧ n - k ≤ q ∧ Below w2.heap.size w2 W ∧ Hid (∀ (i : Nat) (hi : i < rows.length), i < k → rows[i].length ≤ 30))
  case atStart => exact ⟨0, Nat.zero_le _, rfl, by omega, Below.refl _ _, fun i _ hi => absurd hi (by omega)⟩
  case round =>
    obtain ⟨k, hk, rfl, hq, hbel, hall⟩ := hrel
    have hB3 := hB2.trans (hbel.mono hB2.size)
    by_cases h0 : k < n
    · obtain ⟨ad, hkl, A1, c1, rfl, hbb, hcell, hlc, hcm, hrd⟩ := (h.below hB3).row h0
      have hL := HLEN.out rows[k] (List.getElem_mem hkl)
      have hstep : rows[k].length ≤ 30 → ∀ (i : Nat) (hi : i < rows.length), i < k + 1 → rows[i].length ≤ 30 := by
        intro h30 i hi hik
        rcases Nat.lt_or_ge i k with hlt | hge
        · exact hall.out i hi hlt
        · obtain rfl : i = k := by omega
          exact h30
      have HST := Lib.hid hstep
      clear hstep
      generalize rows[k].length = L at *
      by_cases h30 : L ≤ 30
      · have d2 : decide ((30 : Int) < (L : Int)) = false := by simpa using (show ¬ ((30 : Int) < L) from by omega)
        go_wp2_with fail
        go_roundg (n - (k + 1))
        case measure => omega
        case rel => exact ⟨k + 1, by omega, by go_num, Nat.le_refl _, hbel, HST.out h30⟩
      · have d2 : decide ((30 : Int) < (L : Int)) = true := by simpa using (show (30 : Int) < L from by omega)
        have hT3 := hT.later hB3
        go_wp2_with fail
        refine (KV.out wr hT3).mono ?_
        rintro e w3 ⟨rfl, hb3⟩
        go_wp2_with fail
        go_ret
        exact ⟨rfl, hB3.trans (hb3.mono hB3.size)⟩
    · exfalso
      obtain ⟨i, hi, h31⟩ := HG.out
      have := hall.out i hi (by have := hl.out; omega)
      omega

end Go.Proofs.YthmiamppfncfoaaGreatDoor
