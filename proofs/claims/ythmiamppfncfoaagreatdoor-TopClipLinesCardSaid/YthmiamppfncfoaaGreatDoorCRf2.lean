/- The reference's CheckSamples, CheckRecords, CheckLevels, SameWords, SameBools. -/
import Derived.Test.YthmiamppfncfoaaGreatDoorCRf1
import Derived.Deep.LoopGhost
namespace Go.Proofs.YthmiamppfncfoaaGreatDoor
open Go.RowKit
open Flt

/-- the error of samples -/
def smpE (l : List Nat) : Int := if 4096 < l.length then 5 else if l.all (fin Ieee.single) then 0 else 1

set_option maxHeartbeats 1000000 in
theorem rCheckSamples_any (A : Option Addr) (n c : Nat) (l : List Nat) (w : World) (h : Reads w w.heap.size 1 A n (l.map f32v)) (hn : n ≤ maxLen) :
    Calls Tryz.prog 17 #[.slice A n c] w fun e w' => e = .returned (.int .i64 (smpE l)) ∧ Below w.heap.size w w' := by
  unfold maxLen at hn
  have hl := h.lenM
  by_cases hb : 4096 < n
  · have hv : Hid (smpE l = 5) := by unfold Hid smpE; rw [if_pos (by omega)]
    have hd : decide (4096 < n) = true := by simpa using hb
    clear hl
    go_enter Tryz.func17, Tryz.ntmps17
    go_wp2
    go_ret
    exact ⟨by rw [hv.out]; rfl, Below.refl _ _⟩
  · have hd : decide (4096 < n) = false := by simpa using hb
    have HL := Lib.hid hl
    clear hl
    go_enter Tryz.func17, Tryz.ntmps17
    go_wp2
    go_loopg [3] n (fun m s W => ∃ k : Nat, k ≤ n ∧ s = .int .i64 k ∧ n - k ≤ m ∧ Hid ((l.take k).all (fin Ieee.single) = true) ∧ Below w.heap.size w W)
    case atStart => exact ⟨0, Nat.zero_le _, rfl, by omega, by simp [Hid], Below.refl _ _⟩
    case round =>
      obtain ⟨k, hk, rfl, hm, ha, hbel⟩ := hrel
      by_cases h0 : k < n
      · obtain ⟨ad, hkl, rfl, hbb, hcell⟩ := (h.below hbel).cellM h0
        have hs : (l.take (k + 1)).all (fin Ieee.single) = ((l.take k).all (fin Ieee.single) && fin Ieee.single l[k]) := by
          rw [List.take_succ_eq_append_getElem hkl, List.all_append]; simp
        have hm2 : ∀ x ∈ l, l.all (fin Ieee.single) = true → fin Ieee.single x = true := fun x hx hal => List.all_eq_true.1 hal x hx
        have hmem : l[k] ∈ l := List.getElem_mem hkl
        have hx2 := hm2 _ hmem
        clear hm2 hmem
        unfold f32v at hcell
        generalize l[k] = x at *
        by_cases hf : fin Ieee.single x = true
        · have hF := Finite_any x wr
          rw [hf] at hF
          have HF := Lib.hid hF
          rw [hf, Bool.and_true, ha.out] at hs
          have HS := Lib.hid hs
          clear hF hf hs hx2
          go_wp2_with fail
          refine HF.out.mono ?_
          rintro e w1 ⟨rfl, hb1⟩
          go_wp2_with fail
          go_roundg (n - (k + 1))
          case measure => omega
          case rel => exact ⟨k + 1, by omega, by go_num, Nat.le_refl _, HS.out, hbel.trans (hb1.mono hbel.size)⟩
        · have hf' : fin Ieee.single x = false := by simpa using hf
          have hF := Finite_any x wr
          rw [hf'] at hF
          have HF := Lib.hid hF
          have hv : Hid (smpE l = 1) := by
            unfold Hid smpE
            rw [if_neg (by have := HL.out; omega), if_neg (fun h => hf (hx2 h))]
          clear hF hf hf' hs hx2
          go_wp2_with fail
          refine HF.out.mono ?_
          rintro e w1 ⟨rfl, hb1⟩
          go_wp2_with fail
          go_ret
          exact ⟨by rw [hv.out]; rfl, hbel.trans (hb1.mono hbel.size)⟩
      · have hv : Hid (smpE l = 0) := by
          have ha2 := ha.out
          rw [List.take_of_length_le (by have := HL.out; omega)] at ha2
          unfold Hid smpE
          rw [if_neg (by have := HL.out; omega), if_pos ha2]
        go_wp2
        go_ret
        exact ⟨by rw [hv.out]; rfl, hbel⟩

/-- the error of two levels -/
def levE (lo hi : Nat) : Int := if fin Ieee.single lo = true ∧ fin Ieee.single hi = true then (if fge lo hi = true then 11 else 0) else 1

set_option maxHeartbeats 1000000 in
theorem rCheckLevels_any (lo hi : Nat) (w : World) : Calls Tryz.prog 5 #[.agg #[.float .f32 lo, .float .f32 hi]] w fun e w' => e = .returned (.int .i64 (levE lo hi)) ∧ Below w.heap.size w w' := by
  have hb0 : Below w.heap.size w (w.alloc (.cells #[.float .f32 lo, .float .f32 hi] 26)) := (Below.refl _ _).alloc (Nat.le_refl _) _
  have q0 : CBlk (w.alloc (.cells #[.float .f32 lo, .float .f32 hi] 26)) w.heap.size #[.float .f32 lo, .float .f32 hi] 26 := CBlk.new w _ _ _ rfl
  have hF := fun (b : Nat) (W : World) => Finite_any b W
  by_cases h1 : fin Ieee.single lo = true
  · by_cases h2 : fin Ieee.single hi = true
    · have F1 := Lib.hid (fun W : World => h1 ▸ Finite_any lo W)
      have F2 := Lib.hid (fun W : World => h2 ▸ Finite_any hi W)
      by_cases h3 : fge lo hi = true
      · have hv : Hid (levE lo hi = 11) := by unfold Hid levE; rw [if_pos ⟨h1, h2⟩, if_pos h3]
        have t3 : (FloatKind.f32.format.order lo hi == some .gt || FloatKind.f32.format.order lo hi == some .eq) = true := h3
        clear h1 h2 h3 hF
        go_enter Tryz.func5, Tryz.ntmps5
        go_wp2_with fail
        refine (F1.out _).mono ?_
        rintro e w1 ⟨rfl, hb1⟩
        have q1 := q0.below hb1 q0.lt
        have z0 := q1.cell 0
        have z1 := q1.cell 1
        go_wp2_with fail
        refine (F2.out _).mono ?_
        rintro e w2 ⟨rfl, hb2⟩
        have q2 := q1.below hb2 q1.lt
        have y0 := q2.cell 0
        have y1 := q2.cell 1
        go_wp2_with fail
        go_ret
        exact ⟨by rw [hv.out]; rfl, (hb0.trans (hb1.mono hb0.size)).trans (hb2.mono (hb0.trans (hb1.mono hb0.size)).size)⟩
      · have hv : Hid (levE lo hi = 0) := by unfold Hid levE; rw [if_pos ⟨h1, h2⟩, if_neg h3]
        have h3' : fge lo hi = false := by simpa using h3
        have t3 : (FloatKind.f32.format.order lo hi == some .gt || FloatKind.f32.format.order lo hi == some .eq) = false := h3'
        clear h1 h2 h3 h3' hF
        go_enter Tryz.func5, Tryz.ntmps5
        go_wp2_with fail
        refine (F1.out _).mono ?_
        rintro e w1 ⟨rfl, hb1⟩
        have q1 := q0.below hb1 q0.lt
        have z0 := q1.cell 0
        have z1 := q1.cell 1
        go_wp2_with fail
        refine (F2.out _).mono ?_
        rintro e w2 ⟨rfl, hb2⟩
        have q2 := q1.below hb2 q1.lt
        have y0 := q2.cell 0
        have y1 := q2.cell 1
        go_wp2_with fail
        go_ret
        exact ⟨by rw [hv.out]; rfl, (hb0.trans (hb1.mono hb0.size)).trans (hb2.mono (hb0.trans (hb1.mono hb0.size)).size)⟩
    · have hv : Hid (levE lo hi = 1) := by unfold Hid levE; rw [if_neg (fun h => h2 h.2)]
      have h2' : fin Ieee.single hi = false := by simpa using h2
      have F1 := Lib.hid (fun W : World => h1 ▸ Finite_any lo W)
      have F2 := Lib.hid (fun W : World => h2' ▸ Finite_any hi W)
      clear h1 h2 h2' hF
      go_enter Tryz.func5, Tryz.ntmps5
      go_wp2_with fail
      refine (F1.out _).mono ?_
      rintro e w1 ⟨rfl, hb1⟩
      have q1 := q0.below hb1 q0.lt
      have z0 := q1.cell 0
      have z1 := q1.cell 1
      go_wp2_with fail
      refine (F2.out _).mono ?_
      rintro e w2 ⟨rfl, hb2⟩
      go_wp2_with fail
      go_ret
      exact ⟨by rw [hv.out]; rfl, (hb0.trans (hb1.mono hb0.size)).trans (hb2.mono (hb0.trans (hb1.mono hb0.size)).size)⟩
  · have hv : Hid (levE lo hi = 1) := by unfold Hid levE; rw [if_neg (fun h => h1 h.1)]
    have h1' : fin Ieee.single lo = false := by simpa using h1
    have F1 := Lib.hid (fun W : World => h1' ▸ Finite_any lo W)
    clear h1 h1' hF
    go_enter Tryz.func5, Tryz.ntmps5
    go_wp2_with fail
    refine (F1.out _).mono ?_
    rintro e w1 ⟨rfl, hb1⟩
    go_wp2_with fail
    go_ret
    exact ⟨by rw [hv.out]; rfl, hb0.trans (hb1.mono hb0.size)⟩

set_option maxHeartbeats 1000000 in
theorem sameWords_eq (A A' : Option Addr) (n c c' : Nat) (l : List Nat) (w : World) (h : Reads w w.heap.size 1 A n (l.map u16v)) (h' : Reads w w.heap.size 1 A' n (l.map u16v)) (hn : n ≤ maxLen) :
    Calls Tryz.prog 12 #[.slice A n c, .slice A' n c'] w fun e w' => e = .returned (.bool true) ∧ Below w.heap.size w w' := by
  unfold maxLen at hn
  go_enter Tryz.func12, Tryz.ntmps12
  go_wp2
  go_loopg [5] n (fun m s W => ∃ k : Nat, k ≤ n ∧ s = .int .i64 k ∧ n - k ≤ m ∧ Below w.heap.size w W)
  case atStart => exact ⟨0, Nat.zero_le _, rfl, by omega, Below.refl _ _⟩
  case round =>
    obtain ⟨k, hk, rfl, hm, hbel⟩ := hrel
    by_cases h0 : k < n
    · obtain ⟨ad, hkl, rfl, hbb, hcell⟩ := (h.below hbel).cellM h0
      obtain ⟨ad', hkl', rfl, hbb', hcell'⟩ := (h'.below hbel).cellM h0
      unfold u16v at hcell hcell'
      generalize l[k] = x at *
      go_wp2
      go_region
      go_wp2
      go_roundg (n - (k + 1))
      case measure => omega
      case rel => exact ⟨k + 1, by omega, by go_num, Nat.le_refl _, hbel.drew⟩
    · go_wp2
      go_ret
      exact ⟨rfl, hbel⟩

set_option maxHeartbeats 1000000 in
theorem sameBools_eq (A A' : Option Addr) (n c c' : Nat) (l : List Bool) (w : World) (h : Reads w w.heap.size 1 A n (l.map boolv)) (h' : Reads w w.heap.size 1 A' n (l.map boolv)) (hn : n ≤ maxLen) :
    Calls Tryz.prog 16 #[.slice A n c, .slice A' n c'] w fun e w' => e = .returned (.bool true) ∧ Below w.heap.size w w' := by
  unfold maxLen at hn
  go_enter Tryz.func16, Tryz.ntmps16
  go_wp2
  go_loopg [5] n (fun m s W => ∃ k : Nat, k ≤ n ∧ s = .int .i64 k ∧ n - k ≤ m ∧ Below w.heap.size w W)
  case atStart => exact ⟨0, Nat.zero_le _, rfl, by omega, Below.refl _ _⟩
  case round =>
    obtain ⟨k, hk, rfl, hm, hbel⟩ := hrel
    by_cases h0 : k < n
    · obtain ⟨ad, hkl, rfl, hbb, hcell⟩ := (h.below hbel).cellM h0
      obtain ⟨ad', hkl', rfl, hbb', hcell'⟩ := (h'.below hbel).cellM h0
      unfold boolv at hcell hcell'
      generalize l[k] = x at *
      have hxx : (x != x) = false := by cases x <;> rfl
      go_wp2
      go_region
      go_wp2
      go_roundg (n - (k + 1))
      case measure => omega
      case rel => exact ⟨k + 1, by omega, by go_num, Nat.le_refl _, hbel.drew⟩
    · go_wp2
      go_ret
      exact ⟨rfl, hbel⟩

end Go.Proofs.YthmiamppfncfoaaGreatDoor

/- The reference's CheckRecords. -/
namespace Go.Proofs.YthmiamppfncfoaaGreatDoor
open Go.RowKit
open Flt

def smallS (s : Int) : Bool := decide (-1000 ≤ s) && decide (s ≤ 1000)
/-- the error of records and skews by themselves -/
def recE (rows : List (List Nat)) (sk : List Int) : Int :=
  if rows.length = 0 then 12 else if 8 < rows.length then 5 else if firstE (rows.map smpE) ≠ 0 then firstE (rows.map smpE) else if sk.length ≠ rows.length then 2 else if sk.all smallS = true then 0 else 3

set_option maxHeartbeats 2000000 in
set_option maxRecDepth 100000 in
theorem rCheckRecords_any (A A' : Option Addr) (n c n' c' : Nat) (rows : List (List Nat)) (sk : List Int) (w : World) (h : RowsR f32v w w.heap.size A n rows) (h' : Reads w w.heap.size 1 A' n' (sk.map i64v)) (hn : n ≤ maxLen) (hn' : n' ≤ maxLen) :
    Calls Tryz.prog 4 #[.slice A n c, .slice A' n' c'] w fun e w' => e = .returned (.int .i64 (recE rows sk)) ∧ Below w.heap.size w w' := by
  unfold maxLen at hn hn'
  have hl := h.1
  have hl' := h'.lenM
  by_cases hz : n = 0
  · have hv : Hid (recE rows sk = 12) := by unfold Hid recE; rw [if_pos (by omega)]
    have hd : ((n : Int) == 0) = true := by rw [beq_iff_eq]; omega
    clear hl hl' hz
    go_enter Tryz.func4, Tryz.ntmps4
    go_wp2
    go_ret
    exact ⟨by rw [hv.out]; rfl, Below.refl _ _⟩
  · have hd0 : ((n : Int) == 0) = false := by rw [beq_eq_false_iff_ne]; omega
    by_cases h8 : 8 < n
    · have hv : Hid (recE rows sk = 5) := by unfold Hid recE; rw [if_neg (by omega), if_pos (by omega)]
      have hd : decide (8 < n) = true := by simpa using h8
      clear hl hl' hz
      go_enter Tryz.func4, Tryz.ntmps4
      go_wp2
      go_ret
      exact ⟨by rw [hv.out]; rfl, Below.refl _ _⟩
    · have hd8 : decide (8 < n) = false := by simpa using h8
      have HL := Lib.hid hl
      have HL' := Lib.hid hl'
      clear hl hl'
      go_enter Tryz.func4, Tryz.ntmps4
      go_wp2
      go_loopg [5] n (fun m s W => ∃ k : Nat, k ≤ n ∧ s = .int .i64 k ∧ n - k ≤ m ∧ Hid (firstE (rows.map smpE) = firstE ((rows.map smpE).drop k)) ∧ Below w.heap.size w W)
      case atStart => exact ⟨0, Nat.zero_le _, rfl, by omega, rfl, Below.refl _ _⟩
      case round =>
        obtain ⟨k, hk, rfl, hm, hf, hbel⟩ := hrel
        by_cases h0 : k < n
        · obtain ⟨ad, hkl, A1, c1, rfl, hbb, hcell, hlc, hcm, hrd⟩ := (h.below hbel).row h0
          have hkm : k < (rows.map smpE).length := by rw [List.length_map]; exact hkl
          have hf2 := hf.out
          rw [List.drop_eq_getElem_cons hkm, List.getElem_map] at hf2
          have hC := rCheckSamples_any A1 rows[k].length c1 rows[k] wr (hrd.more hbel.size) (by unfold maxLen at *; omega)
          generalize rows[k].length = L at *
          generalize smpE rows[k] = x at *
          have HC := Lib.hid hC
          by_cases hx : x = 0
          · subst hx
            have hf3 : Hid (firstE (rows.map smpE) = firstE ((rows.map smpE).drop (k + 1))) := by unfold Hid; rw [hf2]; rfl
            clear hf2 hC
            go_wp2_with fail
            refine HC.out.mono ?_
            rintro e w1 ⟨rfl, hb1⟩
            go_wp2_with fail
            go_roundg (n - (k + 1))
            case measure => omega
            case rel => exact ⟨k + 1, by omega, by go_num, Nat.le_refl _, hf3, hbel.trans (hb1.mono hbel.size)⟩
          · have hv : Hid (recE rows sk = x) := by
              have e : firstE (rows.map smpE) = x := by rw [hf2]; unfold firstE; rw [if_pos hx]
              unfold Hid recE
              rw [if_neg (by have := HL.out; omega), if_neg (by have := HL.out; omega), if_pos (by rw [e]; exact hx), e]
            have hx1 : (x != 0) = true := by simpa using hx
            clear hf2 hC hx
            go_wp2_with fail
            refine HC.out.mono ?_
            rintro e w1 ⟨rfl, hb1⟩
            go_wp2_with fail
            go_ret
            exact ⟨by rw [hv.out]; rfl, hbel.trans (hb1.mono hbel.size)⟩
        · have hff : firstE (rows.map smpE) = 0 := by
            rw [hf.out, List.drop_eq_nil_of_le (by rw [List.length_map]; have := HL.out; omega)]; rfl
          have HFF := Lib.hid hff
          clear hff
          by_cases hnn : n' = n
          · have hde : ((n' : Int) != (n : Int)) = false := by rw [hnn]; simp
            have hrE : recE rows sk = if sk.all smallS = true then 0 else 3 := by
              unfold recE
              rw [if_neg (by have := HL.out; omega), if_neg (by have := HL.out; omega), if_neg (by rw [HFF.out]; exact fun h => h rfl), if_neg (by have := HL.out; have := HL'.out; omega)]
            have HRE := Lib.hid hrE
            clear hrE hnn
            go_wp2
            go_loopg [7] n' (fun m s W => ∃ j : Nat, j ≤ n' ∧ s = .int .i64 j ∧ n' - j ≤ m ∧ Hid ((sk.take j).all smallS = true) ∧ Below w.heap.size w W)
            case atStart => exact ⟨0, Nat.zero_le _, rfl, by omega, by simp [Hid], hbel⟩
            case round =>
              obtain ⟨j, hj, rfl, hm2, ha, hbel2⟩ := hrel
              by_cases hjn : j < n'
              · obtain ⟨ad, hjl, rfl, hbb, hcell⟩ := (h'.below hbel2).cellM hjn
                have hs : (sk.take (j + 1)).all smallS = ((sk.take j).all smallS && smallS sk[j]) := by
                  rw [List.take_succ_eq_append_getElem hjl, List.all_append]; simp
                have hsa : sk.all smallS = true → smallS sk[j] = true := fun hal => List.all_eq_true.1 hal _ (List.getElem_mem hjl)
                unfold i64v at hcell
                generalize sk[j] = x at *
                rw [ha.out, Bool.true_and] at hs
                by_cases hx1 : x < -1000
                · have hv : Hid (recE rows sk = 3) := by
                    unfold Hid
                    rw [HRE.out, if_neg (fun h => by have := hsa h; unfold smallS at this; simp at this; omega)]
                  have hd : decide (x < -1000) = true := by simpa using hx1
                  clear hs hsa
                  go_wp2
                  go_ret
                  exact ⟨by rw [hv.out]; rfl, hbel2⟩
                · have hd1 : decide (x < -1000) = false := by simpa using hx1
                  by_cases hx2 : 1000 < x
                  · have hv : Hid (recE rows sk = 3) := by
                      unfold Hid
                      rw [HRE.out, if_neg (fun h => by have := hsa h; unfold smallS at this; simp at this; omega)]
                    have hd : decide (1000 < x) = true := by simpa using hx2
                    clear hs hsa
                    go_wp2
                    go_ret
                    exact ⟨by rw [hv.out]; rfl, hbel2⟩
                  · have hd2 : decide (1000 < x) = false := by simpa using hx2
                    have hs2 : Hid ((sk.take (j + 1)).all smallS = true) := by
                      unfold Hid
                      rw [hs]; unfold smallS; simp; omega
                    clear hs hsa
                    go_wp2
                    go_roundg (n' - (j + 1))
                    case measure => omega
                    case rel => exact ⟨j + 1, by omega, by go_num, Nat.le_refl _, hs2, hbel2⟩
              · have hv : Hid (recE rows sk = 0) := by
                  have ha2 := ha.out
                  rw [List.take_of_length_le (by have := HL'.out; omega)] at ha2
                  unfold Hid
                  rw [HRE.out, if_pos ha2]
                go_wp2
                go_ret
                exact ⟨by rw [hv.out]; rfl, hbel2⟩
          · have hde : ((n' : Int) != (n : Int)) = true := by rw [bne_iff_ne]; omega
            have hv : Hid (recE rows sk = 2) := by
              unfold Hid recE
              rw [if_neg (by have := HL.out; omega), if_neg (by have := HL.out; omega), if_neg (by rw [HFF.out]; exact fun h => h rfl), if_pos (by have := HL.out; have := HL'.out; omega)]
            clear hnn
            go_wp2
            go_ret
            exact ⟨by rw [hv.out]; rfl, hbel⟩

end Go.Proofs.YthmiamppfncfoaaGreatDoor
