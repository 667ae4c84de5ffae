/- number.CheckSamples of any samples; probe's CheckLevels, Digital and Changes of any arguments. -/
import Derived.Test.YtboaojkblmddkaaGreatDoorCAwb
import Derived.Test.YtboaojkblmddkaaGreatDoorCAw8
import Derived.Test.YtboaojkblmddkaaGreatDoorCEx2
import Derived.Test.YtboaojkblmddkaaGreatDoorCRf3
import Derived.Deep.LoopGhost
import Derived.Test.YtboaojkblmddkaaGreatDoorCUnp
import Derived.Test.YtboaojkblmddkaaGreatDoorCAwc
import Derived.Test.YtboaojkblmddkaaGreatDoorCAd2
import Derived.Deep.AppendLies
import Derived.Deep.RegionHeld3
import Derived.BigQuiet
namespace Go.Proofs.YtboaojkblmddkaaGreatDoor
open Go.RowKit Bn
open Flt

theorem ncheck1_any (b : Nat) (i : Int) (w : World) : Calls Tryz.prog 105 #[.int .i64 i, .float .f32 b] w fun e w' => e = .returned (.int .i64 (if fin Ieee.single b = true then 0 else 1)) ∧ Below w.heap.size w w' := by
  by_cases h : fin Ieee.single b = true
  · rw [if_pos h]
    refine (ncheck1_ok b i w h).mono ?_
    rintro e w' ⟨rfl, rfl⟩
    exact ⟨rfl, Below.refl _ _⟩
  · rw [if_neg h]
    have h' : fin Ieee.single b = false := by simpa using h
    have H := isFinite_any b w
    rw [h'] at H
    have H := Lib.hid H
    clear h h'
    go_enter Tryz.func105, Tryz.ntmps105
    go_wp2_with fail
    refine H.out.mono ?_
    rintro e w1 ⟨rfl, hb⟩
    go_wp2_with fail
    go_ret
    exact ⟨rfl, hb⟩

set_option maxHeartbeats 1000000 in
theorem ncheckList_any (A : Option Addr) (n c : Nat) (l : List Nat) (w : World) (h : Reads w w.heap.size 1 A n (l.map f32v)) (hn : n ≤ maxLen) :
    Calls Tryz.prog 104 #[.slice A n c, .int .i64 0, .int .i64 4096, .func (.func 105) #[] #[]] w fun e w' => e = .returned (.int .i64 (smpE l)) ∧ Below w.heap.size w w' := by
  unfold maxLen at hn
  have hl := h.lenM
  have hd1 : decide ((n : Int) < 0) = false := by simp
  by_cases hb : 4096 < n
  · have hv : Hid (smpE l = 5) := by unfold Hid smpE; rw [if_pos (by omega)]
    have hd : decide (4096 < n) = true := by simpa using hb
    clear hl
    go_enter Tryz.func104, Tryz.ntmps104
    go_wp2
    go_ret
    exact ⟨by rw [hv.out]; rfl, Below.refl _ _⟩
  · have hd2 : decide (4096 < n) = false := by simpa using hb
    have HL := Lib.hid hl
    have eg := ncheck1_enter
    clear hl
    go_enter Tryz.func104, Tryz.ntmps104
    go_wp2
    go_loopg [22] n (fun m s W => ∃ k : Nat, k ≤ n ∧ s = .int .i64 k ∧ n - k ≤ m ∧ Hid ((l.take k).all (fin Ieee.single) = true) ∧ Below w.heap.size w W)
    case atStart => exact ⟨0, Nat.zero_le _, rfl, by omega, by simp [Hid], Below.refl _ _⟩
    case round =>
      obtain ⟨k, hk, rfl, hm, ha, hbel⟩ := hrel
      by_cases h0 : k < n
      · obtain ⟨ad, hkl, rfl, hbb, hcell⟩ := (h.below hbel).cellM h0
        have hs : (l.take (k + 1)).all (fin Ieee.single) = ((l.take k).all (fin Ieee.single) && fin Ieee.single l[k]) := by
          rw [List.take_succ_eq_append_getElem hkl, List.all_append]; simp
        have hx2 : l.all (fin Ieee.single) = true → fin Ieee.single l[k] = true := fun hal => List.all_eq_true.1 hal _ (List.getElem_mem hkl)
        unfold f32v at hcell
        generalize l[k] = x at *
        have HC := ncheck1_any x k wr
        by_cases hf : fin Ieee.single x = true
        · rw [if_pos hf] at HC
          have HC := Lib.hid HC
          rw [hf, Bool.and_true, ha.out] at hs
          have HS := Lib.hid hs
          clear hf hs hx2
          go_wp2_with (go_at_fn 105; refine HC.out.mono ?_; rintro e w1 ⟨rfl, hb1⟩)
          go_roundg (n - (k + 1))
          case measure => omega
          case rel => exact ⟨k + 1, by omega, by go_num, Nat.le_refl _, HS.out, hbel.trans (hb1.mono hbel.size)⟩
        · rw [if_neg hf] at HC
          have HC := Lib.hid HC
          have hv : Hid (smpE l = 1) := by
            unfold Hid smpE
            rw [if_neg (by have := HL.out; omega), if_neg (fun h => hf (hx2 h))]
          clear hf hs hx2
          go_wp2_with (go_at_fn 105; refine HC.out.mono ?_; rintro e w1 ⟨rfl, hb1⟩)
          go_ret
          exact ⟨by rw [hv.out]; rfl, hbel.trans (hb1.mono hbel.size)⟩
      · have hv : Hid (smpE l = 0) := by
          have ha2 := ha.out
          rw [List.take_of_length_le (by have := HL.out; omega)] at ha2
          unfold Hid smpE
          rw [if_neg (by have := HL.out; omega), if_pos ha2]
        go_wp2
        go_ret
        exact ⟨by rw [hv.out]; rfl, hbel⟩

theorem ncheckSamples_any (A : Option Addr) (n c : Nat) (l : List Nat) (w : World) (h : Reads w w.heap.size 1 A n (l.map f32v)) (hn : n ≤ maxLen) :
    Calls Tryz.prog 58 #[.slice A n c] w fun e w' => e = .returned (.int .i64 (smpE l)) ∧ Below w.heap.size w w' := by
  have HC := Lib.hid (ncheckList_any A n c l w h hn)
  clear h
  generalize smpE l = E at *
  go_enter Tryz.func58, Tryz.ntmps58
  go_wp2_with fail
  refine HC.out.mono ?_
  rintro e w1 ⟨rfl, hb⟩
  go_wp2_with fail
  go_ret
  exact ⟨rfl, hb⟩

theorem smpE_two (lo hi : Nat) : smpE [lo, hi] = if fin Ieee.single lo = true ∧ fin Ieee.single hi = true then 0 else 1 := by
  unfold smpE
  rw [if_neg (by simp)]
  simp only [List.all_cons, List.all_nil, Bool.and_true, Bool.and_eq_true]

set_option maxHeartbeats 1000000 in
theorem pcheckLevels_any (lo hi : Nat) (w : World) :
    Calls Tryz.prog 21 #[.agg #[.float .f32 lo, .float .f32 hi]] w fun e w' => e = .returned (.int .i64 (levE lo hi)) ∧ Below w.heap.size w w' := by
  have hb : Below w.heap.size w ((w.alloc (.cells #[.float .f32 lo, .float .f32 hi] 33)).alloc (.cells #[.float .f32 lo, .float .f32 hi] 23)) := ((Below.refl _ _).alloc (Nat.le_refl _) _).alloc (by simp) _
  have q0 : CBlk ((w.alloc (.cells #[.float .f32 lo, .float .f32 hi] 33)).alloc (.cells #[.float .f32 lo, .float .f32 hi] 23)) w.heap.size #[.float .f32 lo, .float .f32 hi] 33 := (CBlk.new w _ _ _ rfl).below ((Below.refl _ _).alloc (Nat.le_refl _) _) (by simp)
  have hr := Reads.lit (w.alloc (.cells #[.float .f32 lo, .float .f32 hi] 33)) [.float .f32 lo, .float .f32 hi] 23
  have hc := ncheckSamples_any _ 2 2 [lo, hi] _ hr (by unfold maxLen; omega)
  have hsz : ((w.alloc (.cells #[.float .f32 lo, .float .f32 hi] 33)).alloc (.cells #[.float .f32 lo, .float .f32 hi] 23)).heap.size = w.heap.size + 1 + 1 := by simp
  have hlt := q0.lt
  have hbs := hb.size
  rw [hsz] at hlt hbs
  simp only [World.size_alloc] at hc
  rw [smpE_two] at hc
  by_cases h : fin Ieee.single lo = true ∧ fin Ieee.single hi = true
  · rw [if_pos h] at hc
    have HC := Lib.hid hc
    by_cases h3 : fge lo hi = true
    · have hv : Hid (levE lo hi = 11) := by unfold Hid levE; rw [if_pos h, if_pos h3]
      have t3 : (FloatKind.f32.format.order lo hi == some .gt || FloatKind.f32.format.order lo hi == some .eq) = true := h3
      clear hc hr h h3
      go_enter Tryz.func21, Tryz.ntmps21
      go_wp2_with fail
      refine HC.out.mono ?_
      rintro e w1 ⟨rfl, hb1⟩
      have q1 := q0.below hb1 hlt
      have x0 := q1.cell 0
      have x1 := q1.cell 1
      go_wp2_with fail
      go_ret
      exact ⟨by rw [hv.out]; rfl, hb.trans (hb1.mono hbs)⟩
    · have hv : Hid (levE lo hi = 0) := by unfold Hid levE; rw [if_pos h, if_neg h3]
      have h3' : fge lo hi = false := by simpa using h3
      have t3 : (FloatKind.f32.format.order lo hi == some .gt || FloatKind.f32.format.order lo hi == some .eq) = false := h3'
      clear hc hr h h3 h3'
      go_enter Tryz.func21, Tryz.ntmps21
      go_wp2_with fail
      refine HC.out.mono ?_
      rintro e w1 ⟨rfl, hb1⟩
      have q1 := q0.below hb1 hlt
      have x0 := q1.cell 0
      have x1 := q1.cell 1
      go_wp2_with fail
      go_ret
      exact ⟨by rw [hv.out]; rfl, hb.trans (hb1.mono hbs)⟩
  · rw [if_neg h] at hc
    have HC := Lib.hid hc
    have hv : Hid (levE lo hi = 1) := by unfold Hid levE; rw [if_neg h]
    clear hc hr h
    go_enter Tryz.func21, Tryz.ntmps21
    go_wp2_with fail
    refine HC.out.mono ?_
    rintro e w1 ⟨rfl, hb1⟩
    go_wp2_with fail
    go_ret
    exact ⟨by rw [hv.out]; rfl, hb.trans (hb1.mono hbs)⟩

/-- the error of a digital line -/
def digE (l : List Nat) (lo hi : Nat) : Int := if smpE l ≠ 0 then smpE l else levE lo hi

set_option maxHeartbeats 2000000 in
set_option maxRecDepth 100000 in
theorem digital_err (A : Option Addr) (n c lo hi : Nat) (v : Bool) (l : List Nat) (w : World) (h : Reads w w.heap.size 1 A n (l.map f32v)) (hn : n ≤ maxLen) (hE : digE l lo hi ≠ 0) :
    Calls Tryz.prog 13 #[.slice A n c, .agg #[.float .f32 lo, .float .f32 hi], .bool v] w fun e w' => e = .returned (.tuple #[.slice none 0 0, .int .i64 (digE l lo hi)]) ∧ Below w.heap.size w w' := by
  have hb0 : Below w.heap.size w (w.alloc (.cells #[.float .f32 lo, .float .f32 hi] 33)).drew := ((Below.refl _ _).alloc (Nat.le_refl _) _).drew
  have q0 : CBlk (w.alloc (.cells #[.float .f32 lo, .float .f32 hi] 33)).drew w.heap.size #[.float .f32 lo, .float .f32 hi] 33 := CBlk.new w _ _ _ rfl
  have x0 := q0.cell 0
  have x1 := q0.cell 1
  have HC := Lib.hid (ncheckSamples_any A n c l (w.alloc (.cells #[.float .f32 lo, .float .f32 hi] 33)).drew (h.later hb0) hn)
  have HL := Lib.hid (fun W => pcheckLevels_any lo hi W)
  have hd : digE l lo hi = if smpE l ≠ 0 then smpE l else levE lo hi := rfl
  generalize smpE l = x at *
  generalize levE lo hi = y at *
  have HF := Lib.hid (fun W => cfirst_two x y W 29 W.heap.size rfl)
  rw [← hd] at HF
  generalize digE l lo hi = E at *
  have e1 : (E != 0) = true := by simpa using hE
  have e2 : (E == 0) = false := by simpa using hE
  have e3 : decide (E = 0) = false := by simpa using hE
  clear hd hE h
  go_enter Tryz.func13, Tryz.ntmps13
  go_wp2_with fail
  go_region_held3 (fun w' => w'.cell? ⟨w.heap.size, 0, none⟩ = some (.float .f32 lo) ∧ w'.cell? ⟨w.heap.size, 1, none⟩ = some (.float .f32 hi))
    ((first | exact ⟨x0, x1⟩ | exact ⟨z0, z1⟩ | exact ⟨y0, y1⟩ | exact ⟨(World.cell?_alloc_lt _ _ _ k5).trans y0, (World.cell?_alloc_lt _ _ _ k5).trans y1⟩))
    (first
      | (go_at_call 58; refine (HC.out).mono ?_; rintro e w4 ⟨rfl, hb4⟩; have q4 := q0.below hb4 q0.lt; have z0 := q4.cell 0; have z1 := q4.cell 1)
      | (go_at_call 21; refine (HL.out w4).mono ?_; rintro e w5 ⟨rfl, hb5⟩; have q5 := q4.below hb5 q4.lt; have y0 := q5.cell 0; have y1 := q5.cell 1; have k5 := q5.lt)
      | (go_at_call 57; refine (HF.out w5).mono ?_; rintro e w6 ⟨rfl, rfl⟩))
  have hb6 : Below w5.heap.size w5 (w5.alloc (.cells #[.int .i64 x, .int .i64 y] 29)) := (Below.refl _ _).alloc (Nat.le_refl _) _
  have hB4 := hb0.trans (hb4.mono hb0.size)
  have hB5 := hB4.trans (hb5.mono hB4.size)
  have hB6 := hB5.trans (hb6.mono hB5.size)
  generalize w5.alloc (.cells #[.int .i64 x, .int .i64 y] 29) = w6 at *
  clear x0 x1 y0 y1 z0 z1
  go_wp2_with fail
  go_ret2
  exact ⟨rfl, hB6⟩

/-- the changes of a line, none where it is too long -/
def chgE (N : Nat) : Int := if 4096 < N then 5 else 0

theorem changes_err (A : Option Addr) (n c : Nat) (b : Bool) (w : World) (hn : 4096 < n) :
    Calls Tryz.prog 15 #[.slice A n c, .bool b] w fun e w' => e = .returned (.tuple #[.slice none 0 0, .int .i64 5]) ∧ Below w.heap.size w w' := by
  have e1 : (if (4096 : Int) < (n : Int) then (5 : Int) else 0) = 5 := if_pos (by omega)
  have H1 := catMost_bool A n c 4096 w
  rw [e1] at H1
  have K1 := Lib.hid H1
  clear H1 e1
  go_enter Tryz.func15, Tryz.ntmps15
  go_wp2_with fail
  refine K1.out.mono ?_
  rintro e w1 ⟨rfl, rfl⟩
  go_wp2
  go_ret2
  exact ⟨rfl, Below.refl _ _⟩

end Go.Proofs.YtboaojkblmddkaaGreatDoor

/- probe's checkRecords, checkSkews of any arguments; where Aligned answers an error of its arguments. -/
namespace Go.Proofs.YtboaojkblmddkaaGreatDoor
open Go.RowKit Bn
open Flt

/-- the error of records by themselves -/
def crE (rows : List (List Nat)) : Int := if rows.length = 0 then 12 else if 8 < rows.length then 5 else firstE (rows.map smpE)

set_option maxHeartbeats 1000000 in
theorem checkRecords_any (A : Option Addr) (n c : Nat) (rows : List (List Nat)) (w : World) (h : RowsR f32v w w.heap.size A n rows) (hn : n ≤ 4096) :
    Calls Tryz.prog 75 #[.slice A n c] w fun e w' => e = .returned (.int .i64 (crE rows)) ∧ Below w.heap.size w w' := by
  have hl := h.1
  by_cases h0 : n = 0
  · have hv : Hid (crE rows = 12) := if_pos (by omega)
    have hd0 : ((n : Int) == 0) = true := by rw [beq_iff_eq]; omega
    clear hl h0
    go_enter Tryz.func75, Tryz.ntmps75
    go_wp2
    go_ret
    exact ⟨by rw [hv.out]; rfl, Below.refl _ _⟩
  · have hd0 : ((n : Int) == 0) = false := by rw [beq_eq_false_iff_ne]; omega
    have H1 := catMost_floats A n c 8 w
    by_cases h8 : 8 < n
    · have hv : Hid (crE rows = 5) := (if_neg (by omega)).trans (if_pos (by omega))
      rw [if_pos (by omega)] at H1
      have K1 := Lib.hid H1
      clear hl h0 h8 H1
      go_enter Tryz.func75, Tryz.ntmps75
      go_wp2_with fail
      refine K1.out.mono ?_
      rintro e w1 ⟨rfl, rfl⟩
      go_wp2
      go_ret
      exact ⟨by rw [hv.out]; rfl, Below.refl _ _⟩
    · rw [if_neg (by omega)] at H1
      have K1 := Lib.hid H1
      have hv : Hid (crE rows = firstE (rows.map smpE)) := (if_neg (by omega)).trans (if_neg (by omega))
      obtain ⟨hl, vs, hr, hvv⟩ := h
      have HT := trn_se 58 #[] none (fun _ _ => True) A n c vs (rows.map smpE) w ncs_enter (by omega) hr (by rw [List.length_map]; exact hl) (fun b hb => by cases hb) trivial (fun _ _ _ _ _ => trivial) (by
        intro W i x y hi hg _ hx hy
        have hil : i < rows.length := by omega
        rw [List.getElem?_map, List.getElem?_eq_getElem hil] at hy
        injection hy with hy
        subst hy
        obtain ⟨A', c', h2, h3, h4, h5⟩ := hvv i hil
        rw [hx] at h2
        injection h2 with h2
        subst h2
        have hc := ncheckSamples_any A' rows[i].length c' rows[i] W (h5.later (gnone hg (Nat.le_refl _))) (by omega)
        refine hc.mono ?_
        rintro e w' ⟨rfl, hb⟩
        exact ⟨rfl, only_of_below hb _, trivial⟩)
      have K2 := Lib.hid HT
      have HL := Lib.hid hl
      clear H1 HT hr hvv hl h0 h8
      go_enter Tryz.func75, Tryz.ntmps75
      go_wp2_with fail
      refine K1.out.mono ?_
      rintro e w1 ⟨rfl, rfl⟩
      go_wp2_with fail
      refine K2.out.mono ?_
      rintro e w1 ⟨rfl, ho, hg, _⟩
      have hf := cfirst_any (some ⟨w.heap.size, 0, none⟩) n n (rows.map smpE) w1 (Reads.of_own ho) (by unfold maxLen; omega)
      rw [← hv.out] at hf
      have K3 := Lib.hid hf
      clear hf ho
      have hb := gnone hg (Nat.le_refl _)
      clear hg
      go_wp2_with fail
      refine K3.out.mono ?_
      rintro e w2 ⟨rfl, rfl⟩
      go_wp2_with fail
      go_ret
      exact ⟨rfl, hb⟩

theorem csk1_any (s : Int) (w : World) : Calls Tryz.prog 114 #[.int .i64 s] w fun e w' => e = .returned (.int .i64 (rangeE s (-1000) 1000)) ∧ w = w' := by
  have HR := Lib.hid (cinRange_any s (-1000) 1000 w)
  generalize rangeE s (-1000) 1000 = r at *
  go_enter Tryz.func114, Tryz.ntmps114
  go_wp2_with fail
  refine HR.out.mono ?_
  rintro e w1 ⟨rfl, rfl⟩
  go_wp2_with fail
  go_ret
  exact ⟨rfl, rfl⟩

/-- the error of skews of n records -/
def csE (n : Nat) (sk : List Int) : Int := if sk.length ≠ n then 2 else firstE (sk.map fun s => rangeE s (-1000) 1000)

set_option maxHeartbeats 1000000 in
theorem checkSkews_any (A : Option Addr) (n' n c : Nat) (sk : List Int) (w : World) (h : Reads w w.heap.size 1 A n' (sk.map i64v)) (hn : n' ≤ 4096) :
    Calls Tryz.prog 76 #[.slice A n' c, .int .i64 n] w fun e w' => e = .returned (.int .i64 (csE n sk)) ∧ Below w.heap.size w w' := by
  have hl := h.lenM
  by_cases hne : n' = n
  · subst hne
    have hv : Hid (csE n' sk = firstE (sk.map fun s => rangeE s (-1000) 1000)) := if_neg (by omega)
    have hd0 : ((n' : Int) != (n' : Int)) = false := by simp
    have HT := trn_ie 114 #[] none (fun _ _ => True) A n' c (sk.map i64v) (sk.map fun s => rangeE s (-1000) 1000) w csk_enter (by omega) h (by rw [List.length_map]; exact hl) (fun b hb => by cases hb) trivial (fun _ _ _ _ _ => trivial) (by
      intro W i x y hi hg _ hx hy
      have hil : i < sk.length := by omega
      rw [List.getElem?_map, List.getElem?_eq_getElem hil] at hx hy
      injection hx with hx
      injection hy with hy
      subst hx hy
      refine (csk1_any sk[i] W).mono ?_
      rintro e w' ⟨rfl, rfl⟩
      exact ⟨rfl, grown_self _ _, trivial⟩)
    have K2 := Lib.hid HT
    clear HT h hl
    go_enter Tryz.func76, Tryz.ntmps76
    go_wp2_with fail
    refine K2.out.mono ?_
    rintro e w1 ⟨rfl, ho, hg, _⟩
    have hf := cfirst_any (some ⟨w.heap.size, 0, none⟩) n' n' (sk.map fun s => rangeE s (-1000) 1000) w1 (Reads.of_own ho) (by unfold maxLen; omega)
    rw [← hv.out] at hf
    have K3 := Lib.hid hf
    clear hf ho
    have hb := gnone hg (Nat.le_refl _)
    clear hg
    go_wp2_with fail
    refine K3.out.mono ?_
    rintro e w2 ⟨rfl, rfl⟩
    go_wp2_with fail
    go_ret
    exact ⟨rfl, hb⟩
  · have hv : Hid (csE n sk = 2) := if_pos (by omega)
    have hd0 : ((n' : Int) != (n : Int)) = true := by rw [bne_iff_ne]; omega
    clear h hl hne
    go_enter Tryz.func76, Tryz.ntmps76
    go_wp2
    go_ret
    exact ⟨by rw [hv.out]; rfl, Below.refl _ _⟩

theorem firstE_small (sk : List Int) : firstE (sk.map fun s => rangeE s (-1000) 1000) = if sk.all smallS = true then 0 else 3 := by
  induction sk with
  | nil => rfl
  | cons s t ih =>
    rw [List.map_cons, List.all_cons]
    unfold firstE
    by_cases h : smallS s = true
    · have e : rangeE s (-1000) 1000 = 0 := by
        unfold smallS at h
        simp only [Bool.and_eq_true, decide_eq_true_eq] at h
        unfold rangeE; rw [if_neg (by omega)]
      rw [e, if_neg (by simp), ih, h, Bool.true_and]
    · have e : rangeE s (-1000) 1000 = 3 := by
        unfold smallS at h
        simp only [Bool.and_eq_true, decide_eq_true_eq] at h
        unfold rangeE; rw [if_pos (by omega)]
      have h' : smallS s = false := by simpa using h
      rw [e, if_pos (by decide), h', Bool.false_and, if_neg (by decide)]
theorem recE_parts (rows : List (List Nat)) (sk : List Int) : (if crE rows ≠ 0 then crE rows else csE rows.length sk) = recE rows sk := by
  unfold crE csE recE
  rw [firstE_small]
  split <;> (try split) <;> (try split) <;> (try split) <;> simp_all

set_option maxHeartbeats 1000000 in
set_option maxRecDepth 100000 in
theorem aligned_err (A A' : Option Addr) (n c n' c' : Nat) (rows : List (List Nat)) (sk : List Int) (w : World) (h : RowsR f32v w w.heap.size A n rows) (h' : Reads w w.heap.size 1 A' n' (sk.map i64v)) (hn : n ≤ 4096) (hn' : n' ≤ 4096) (hE : recE rows sk ≠ 0) :
    Calls Tryz.prog 41 #[.slice A n c, .slice A' n' c'] w fun e w' => e = .returned (.tuple #[.slice none 0 0, .int .i64 (recE rows sk)]) ∧ Below w.heap.size w w' := by
  have hl := h.1
  have K1 := Lib.hid (checkRecords_any A n c rows w h hn)
  have K2 := Lib.hid (fun (W : World) (hb : Below w.heap.size w W) => checkSkews_any A' n' n c' sk W (h'.later hb) hn')
  have hp := recE_parts rows sk
  rw [hl] at hp
  generalize crE rows = x at *
  generalize csE n sk = y at *
  have HF := Lib.hid (fun W => cfirst_two x y W 29 W.heap.size rfl)
  rw [hp] at HF
  generalize recE rows sk = E at *
  have e1 : (E != 0) = true := by simpa using hE
  have e2 : (E == 0) = false := by simpa using hE
  have e3 : decide (E = 0) = false := by simpa using hE
  clear hl hp hE h h'
  go_enter Tryz.func41, Tryz.ntmps41
  go_wp2_with fail
  refine K1.out.mono ?_
  rintro e w1 ⟨rfl, hb1⟩
  go_wp2_with fail
  refine (K2.out w1 hb1).mono ?_
  rintro e w2 ⟨rfl, hb2⟩
  have hB2 := hb1.trans (hb2.mono hb1.size)
  go_wp2_with fail
  refine (HF.out w2).mono ?_
  rintro e w3 ⟨rfl, rfl⟩
  have hB3 : Below w.heap.size w (w2.alloc (.cells #[.int .i64 x, .int .i64 y] 29)) := hB2.alloc hB2.size _
  generalize w2.alloc (.cells #[.int .i64 x, .int .i64 y] 29) = w3 at *
  go_wp2
  go_ret2
  exact ⟨rfl, hB3⟩

end Go.Proofs.YtboaojkblmddkaaGreatDoor

/- What the law of lines needs of numbers: where a record begins, agreement of lines, highs and lows. -/
namespace Go.Proofs.YtboaojkblmddkaaGreatDoor
open Go.RowKit
open Flt

theorem frT_snoc (sk : List Int) (s : Int) : frT (sk ++ [s]) = max (frT sk) (-s) := by
  unfold frT
  rw [List.foldl_append]
  rfl
theorem fold_max_mem : ∀ (l : List Int) (a : Int), l.foldl (fun a s => max a (-s)) a = a ∨ ∃ s ∈ l, l.foldl (fun a s => max a (-s)) a = -s
  | [], a => .inl rfl
  | x :: t, a => by
    rw [List.foldl_cons]
    rcases fold_max_mem t (max a (-x)) with h | ⟨s, hs, h⟩
    · rw [h]
      rcases Int.le_total a (-x) with h1 | h1
      · exact .inr ⟨x, by simp, by omega⟩
      · exact .inl (by omega)
    · exact .inr ⟨s, by simp [hs], h⟩
/-- the first common time is some record's beginning -/
theorem frT_mem (sk : List Int) (hs : ∀ s ∈ sk, -1000 ≤ s ∧ s ≤ 1000) (h0 : 0 < sk.length) : ∃ s ∈ sk, frT sk = -s := by
  rcases fold_max_mem sk (-1000) with h | h
  · have h1 := frT_ge sk sk[0] (List.getElem_mem h0)
    have h2 := hs sk[0] (List.getElem_mem h0)
    have h3 : frT sk = -1000 := h
    exact ⟨sk[0], List.getElem_mem h0, by omega⟩
  · exact h
theorem beg_eq (sk : List Int) (hs : ∀ s ∈ sk, -1000 ≤ s ∧ s ≤ 1000) (h0 : 0 < sk.length) (x b : Int) (h1 : b ≤ frT sk + x) (h2 : ∀ j (h : j < sk.length), x - sk[j] ≤ b) : b = frT sk + x := by
  obtain ⟨s, hm, he⟩ := frT_mem sk hs h0
  obtain ⟨j, hj, rfl⟩ := List.getElem_of_mem hm
  have := h2 j hj
  omega
theorem key_of_fge {lo hi : Nat} (h1 : fin Ieee.single lo = true) (h2 : fin Ieee.single hi = true) (h3 : fge lo hi = false) : key Ieee.single lo < key Ieee.single hi := by
  rw [fge_key h1 h2] at h3
  have := of_decide_eq_false h3
  omega
theorem alg1_fin (fr tt s : Int) (r : List Nat) (h : ∀ x ∈ r, fin Ieee.single x = true) : ∀ x ∈ alg1 fr tt r s, fin Ieee.single x = true := by
  intro x hx
  unfold alg1 at hx
  obtain ⟨y, hy, rfl⟩ := List.mem_map.1 hx
  exact posz_fin (h y (List.mem_of_mem_drop (List.mem_of_mem_take hy)))
/-- once a sample has decided, the line of the whole record is the line of the aligned one -/
theorem lines_agree (lo hi b : Nat) (fr tt s : Int) (R : List Nat) (hR : ∀ x ∈ R, fin Ieee.single x = true) (h1 : fin Ieee.single lo = true) (h2 : fin Ieee.single hi = true) (h3 : fge lo hi = false) (hb : (b : Int) = fr + s) (hft : fr ≤ tt) (hle : tt + s ≤ (R.length : Int))
    (k : Nat) (hk : k < (alg1 fr tt R s).length) :
    b + k < R.length ∧ (decd lo hi ((alg1 fr tt R s).take (k + 1)) = true → digS lo hi false (R.take (b + k + 1)) = digS lo hi false ((alg1 fr tt R s).take (k + 1))) := by
  have hlen : (alg1 fr tt R s).length = (tt - fr).toNat := by
    unfold alg1
    rw [List.length_map, List.length_take, List.length_drop]
    omega
  have hfin := alg1_fin fr tt s R hR
  have hkey := key_of_fge h1 h2 h3
  refine ⟨by omega, fun hd => ?_⟩
  refine dig_agree lo hi false false R (alg1 fr tt R s) b ?_ ?_ k hk hd
  · intro i hi2
    have hlt : b + i < R.length := by omega
    refine ⟨hlt, ?_⟩
    have e : (alg1 fr tt R s)[i] = posz R[b + i] := by
      simp only [alg1, List.getElem_map, List.getElem_take, List.getElem_drop]
      have eb : (fr + s).toNat = b := by omega
      simp only [eb]
    rw [e]
    exact alike_posz (hR _ (List.getElem_mem hlt)) h1 h2
  · intro i hi2 hf
    exact low_not_high (hfin _ (List.getElem_mem hi2)) h1 h2 hkey hf
/-- a true line's sample is not low; a false one's not high -/
theorem line_sound (lo hi : Nat) (l : List Nat) (hl : ∀ x ∈ l, fin Ieee.single x = true) (h1 : fin Ieee.single lo = true) (h2 : fin Ieee.single hi = true) (h3 : fge lo hi = false) (v : Bool) (k : Nat) (hk : k < l.length) :
    (digS lo hi v (l.take (k + 1)) = true → fle l[k] lo = false) ∧ (digS lo hi v (l.take (k + 1)) = false → fge l[k] hi = false) := by
  rw [digS_succ _ _ _ _ _ hk]
  unfold digV
  constructor
  · intro h
    cases hf : fle l[k] lo
    · rfl
    · rw [low_not_high (hl _ (List.getElem_mem hk)) h1 h2 (key_of_fge h1 h2 h3) hf, fle_not_fgt hf] at h
      simp at h
  · intro h
    cases hg : fge l[k] hi
    · rfl
    · rw [hg] at h; simp at h

end Go.Proofs.YtboaojkblmddkaaGreatDoor

/- Lines of a law: own copies of them, the reference's CheckLines. -/
namespace Go.Proofs.YtboaojkblmddkaaGreatDoor
open Go.RowKit Bn

theorem Reads.cellsOver {w : World} {B n : Nat} {a : Addr} {xs : List Value} (h : Reads w B 1 (some a) n xs) : ∀ j u, xs[j]? = some u → w.cell? (a.add j) = some u := by
  intro j u hu
  have hl := h.1
  have hj : j < xs.length := by
    rcases Nat.lt_or_ge j xs.length with h1 | h1
    · exact h1
    · rw [List.getElem?_eq_none h1] at hu; cases hu
  obtain ⟨ad, e, _, hc⟩ := h.2 (by omega)
  injection e with e
  subst e
  exact hc j u hu
theorem info_bls2 : (Tryz.prog.info? 26).map (fun i => (i.zero, i.size, i.bytes)) = some (some (.slice none 0 0), 1, 24) := by kernel_rfl

set_option maxHeartbeats 2000000 in
/-- a copy of a line -/
theorem bools_own (A : Option Addr) (n c : Nat) (l : List Bool) (w : World) (h : Reads w w.heap.size 1 A n (l.map boolv)) (hn : n ≤ 140737488355328 / 8) (hc : A = none → c = 0) :
    Calls Tryz.prog 16 #[.slice A n c] w fun e w' => ∃ v, e = .returned v ∧ w'.ownsRow w.heap.size 4 1 v n (l.map boolv) ∧ Below w.heap.size w w' := by
  have hL := h.lenM
  have hbA : Below w.heap.size w (w.alloc (.cells #[] 4)) := (Below.refl _ _).alloc (Nat.le_refl _) _
  cases A with
  | none =>
    obtain rfl := hc rfl
    have hl : l = [] := by
      cases l with
      | nil => rfl
      | cons x t =>
        obtain ⟨ad9, e9, _⟩ := h.2 (by simp at hL; omega)
        cases e9
    subst hl
    obtain rfl : 0 = n := hL
    have ho := own_empty w w.heap.size 4 (Nat.le_refl _)
    clear h hc
    go_enter Tryz.func16, Tryz.ntmps16
    go_wp2
    go_ret
    exact ⟨_, rfl, ho, hbA⟩
  | some a1 =>
    obtain ⟨i0, hi0, hz0, hz1, hz2⟩ := info_parts info_bool
    have hone : ∀ u ∈ l.map boolv, u.oneCell' = true := boolv_one l
    have HONE := Lib.hid hone
    have HRD := Lib.hid h
    clear h hone hc
    go_enter Tryz.func16, Tryz.ntmps16
    go_wp2_with (at_builtin; refine wpList_append_own _ rfl _ _ 26 rfl w.heap.size 4 i0 (.bool false) 1 1 Tryz.underlying26 hi0 hz0 hz1 hz2 rfl (by decide) _ _ _ rfl (own_empty w w.heap.size 4 (Nat.le_refl _)) a1 n c (l.map boolv) rfl ?c0 ?c1 ?c2 ?c3 ?c4 ?c5 ?_)
    case c0 => rw [List.length_map]; omega
    case c1 => exact (HRD.out.below ((Below.refl _ _).alloc (Nat.le_refl _) _)).cellsOver
    case c2 => exact HONE.out
    case c3 => unfold maxLen; omega
    case c4 => omega
    case c5 => simp
    intro v1 w3 hown1 hgrow1 _
    have hb3 : Below w.heap.size w w3 := hbA.grown hgrow1 (by simp) (fun g hg => by simp [Value.ownBlock] at hg; omega)
    clear hgrow1 hbA
    go_wp2
    go_ret
    exact ⟨v1, rfl, hown1, hb3⟩

set_option maxHeartbeats 4000000 in
set_option maxRecDepth 100000 in
/-- copies of lines -/
theorem copied_ok (A : Option Addr) (n c : Nat) (rows : List (List Bool)) (w : World) (h : RowsR boolv w w.heap.size A n rows) (hn : n ≤ 4098) (hr : ∀ r ∈ rows, r.length ≤ 4098)
    (hz : ∀ (ad : Addr) (k L c2 : Nat), A = some ad → k < n → w.cell? (ad.add k) = some (.slice none L c2) → c2 = 0) :
    Calls Tryz.prog 28 #[.slice A n c] w fun e w' => ∃ v, e = .returned v ∧ Grow boolv 26 4 w' w.heap.size v n rows ∧ Below w.heap.size w w' := by
  obtain ⟨i1, hi1, hy0, hy1, hy2⟩ := info_parts info_bls2
  have HZ := Lib.hid hz
  have HR := Lib.hid hr
  have HL := Lib.hid h.1
  clear hz hr
  go_enter Tryz.func28, Tryz.ntmps28
  go_wp2
  go_loopg [3, 8] n (fun q v s W => ∃ j : Nat, j ≤ n ∧ s = .int .i64 j ∧ n - j ≤ q ∧ Grow boolv 26 4 W w.heap.size v j (rows.take j) ∧ Below w.heap.size w W)
  case atStart => exact ⟨0, Nat.zero_le _, rfl, by omega, Grow.nil, Below.refl _ _⟩
  case round =>
    obtain ⟨j, hj, rfl, hq, hgrow, hbel⟩ := hrel
    by_cases h0 : j < n
    · obtain ⟨ad, hkl, A1, c1, rfl, hbb, hcell0, hlc, hcm, hrd0⟩ := h.row h0
      have hcell := (hbel.cell (by rw [block_of_add]; exact hbb)).trans hcell0
      have hrd := (hrd0.below hbel).more hbel.size
      have hL := HR.out rows[j] (List.getElem_mem hkl)
      obtain ⟨hgl, vs, hown, hin⟩ := hgrow
      have hts : rows.take (j + 1) = rows.take j ++ [rows[j]] := List.take_succ_eq_append_getElem hkl
      have HTS := Lib.hid hts
      have HIN := Lib.hid hin
      have HGL := Lib.hid hgl
      have hz1 : A1 = none → c1 = 0 := fun e => by subst e; exact HZ.out ad j rows[j].length c1 rfl h0 hcell0
      generalize rows[j] = R at *
      have hle := hbel.size
      have HB := Lib.hid (bools_own A1 R.length c1 R wr hrd (by omega) hz1)
      clear hts hin hgl hrd hrd0 hz1 hcell0
      generalize hRL : R.length = RL at *
      have HRLE := Lib.hid hRL
      clear hRL
      go_wp2_with fail
      refine HB.out.mono ?_
      rintro e w3 ⟨v3, rfl, ho3, hb3⟩
      have hown3 := own_belw hown hb3
      obtain ⟨A3, c3, rfl, _, _, _⟩ := own_slice ho3
      clear hown HB
      go_wp2_with (at_builtin; refine wpList_append_own _ rfl _ _ 50 rfl w.heap.size 26 i1 (.slice none 0 0) 1 24 Tryz.underlying50 hi1 hy0 hy1 hy2 rfl (by decide) _ _ _ rfl (hown3.alloc _) ⟨w3.heap.size, 0, none⟩ 1 1 [.slice A3 RL c3] rfl rfl ?d1 ?d2 ?d3 ?d4 ?d5 ?_)
      case d1 => exact cell_one_new _ _ _
      case d2 => intro u hu; simp at hu; subst hu; rfl
      case d3 => unfold maxLen; omega
      case d4 => omega
      case d5 => have := hb3.size; simp; omega
      intro v2 w4 hown2 hgrow2 _
      have hb34 : Below w3.heap.size w3 (w3.alloc (.cells #[.slice A3 RL c3] 26)) := (Below.refl _ _).alloc (Nat.le_refl _) _
      have hG : Grow boolv 26 4 w4 w.heap.size v2 (j + 1) (rows.take (j + 1)) := by
        rw [HTS.out]
        exact Grow.snoc HGL.out (hown3.alloc _) (fun i hi => (HIN.out i hi).imp fun u hu => ⟨hu.1, own_belw (own_belw hu.2 hb3) hb34⟩) (by rw [HRLE.out]; exact own_belw (own_mono ho3 hle) hb34) (by decide) hgrow2 hown2
      have hle3 := Nat.le_trans hle hb3.size
      have hb4 : Below w.heap.size w w4 := ((hbel.trans (hb3.mono hle)).trans (hb34.mono hle3)).grown hgrow2 (by simp; omega) (fun g hg => (World.ownsRow.lt hown3 g hg).1)
      clear hgrow2 hown2 hown3 HIN
      go_wp2
      go_roundg (n - (j + 1))
      case measure => omega
      case rel => exact ⟨j + 1, by omega, by go_num, Nat.le_refl _, hG, hb4⟩
    · obtain rfl : n = j := by omega
      rw [List.take_of_length_le (by have := HL.out; omega)] at hgrow
      go_wp2
      go_ret
      exact ⟨_, rfl, hgrow, hbel⟩

/-- the error of lines -/
def linE (rows : List (List Bool)) : Int :=
  match rows with
  | [] => 12
  | r :: _ => if 16 < rows.length ∨ 4096 < r.length then 5 else if rows.all (fun x => decide (x.length = r.length)) = true then 0 else 2
theorem linE_nil (rows : List (List Bool)) (h : rows.length = 0) : linE rows = 12 := by
  cases rows with
  | nil => rfl
  | cons r t => simp at h
theorem linE_many (rows : List (List Bool)) (h : 0 < rows.length) (hh : 16 < rows.length ∨ 4096 < rows[0].length) : linE rows = 5 := by
  cases rows with
  | nil => simp at h
  | cons r t => exact if_pos hh
theorem linE_shape (rows : List (List Bool)) (h : 0 < rows.length) (h1 : rows.length ≤ 16) (h2 : rows[0].length ≤ 4096) (k : Nat) (hk : k < rows.length) (hne : rows[k].length ≠ rows[0].length) : linE rows = 2 := by
  cases rows with
  | nil => simp at h
  | cons r t =>
    have hr : (r :: t)[0].length = r.length := rfl
    rw [hr] at h2 hne
    have e : (r :: t).all (fun x => decide (x.length = r.length)) ≠ true := fun ha => hne (of_decide_eq_true (List.all_eq_true.1 ha _ (List.getElem_mem hk)))
    exact (if_neg (by omega)).trans (if_neg e)
theorem linE_ok (rows : List (List Bool)) (h : 0 < rows.length) (h1 : rows.length ≤ 16) (h2 : rows[0].length ≤ 4096) (ha : ∀ (k : Nat) (hk : k < rows.length), rows[k].length = rows[0].length) : linE rows = 0 := by
  cases rows with
  | nil => simp at h
  | cons r t =>
    have hr : (r :: t)[0].length = r.length := rfl
    rw [hr] at h2
    have e : (r :: t).all (fun x => decide (x.length = r.length)) = true := by
      refine List.all_eq_true.2 fun x hx => decide_eq_true ?_
      obtain ⟨i, hi, rfl⟩ := List.mem_iff_getElem.1 hx
      exact ha i hi
    exact (if_neg (by omega)).trans (if_pos e)
theorem linE_valid (rows : List (List Bool)) (h : linE rows = 0) : 1 ≤ rows.length ∧ rows.length ≤ 16 ∧ ∃ (h0 : 0 < rows.length), rows[0].length ≤ 4096 ∧ ∀ r ∈ rows, r.length = rows[0].length := by
  cases rows with
  | nil => cases h
  | cons r t =>
    unfold linE at h
    simp only at h
    split at h
    · cases h
    · split at h
      · rename_i h1 h2
        have e : (r :: t)[0].length = r.length := rfl
        exact ⟨by simp, by omega, by simp, by rw [e]; omega, fun x hx => by rw [e]; exact of_decide_eq_true (List.all_eq_true.1 h2 x hx)⟩
      · cases h

set_option maxHeartbeats 2000000 in
set_option maxRecDepth 100000 in
theorem rCheckLines_any (A : Option Addr) (n c : Nat) (rows : List (List Bool)) (w : World) (h : RowsR boolv w w.heap.size A n rows) (hn : n ≤ maxLen) :
    Calls Tryz.prog 31 #[.slice A n c] w fun e w' => e = .returned (.int .i64 (linE rows)) ∧ Below w.heap.size w w' := by
  unfold maxLen at hn
  have hl := h.1
  by_cases hz : n = 0
  · have hv : Hid (linE rows = 12) := linE_nil rows (by omega)
    have hd : ((n : Int) == 0) = true := by rw [beq_iff_eq]; omega
    clear hl hz
    go_enter Tryz.func31, Tryz.ntmps31
    go_wp2
    go_ret
    exact ⟨by rw [hv.out]; rfl, Below.refl _ _⟩
  · have hd0 : ((n : Int) == 0) = false := by rw [beq_eq_false_iff_ne]; omega
    have hn0 : 0 < n := by omega
    have hp0 : (0 : Int) < (n : Int) := by omega
    obtain ⟨ad, hr0, A0, c0, rfl, hb0, hc0, _, _, _⟩ := h.row (k := 0) hn0
    have hzz : Addr.add ad 0 = ad := rfl
    rw [hzz] at hc0
    by_cases h8 : 16 < n
    · have hv : Hid (linE rows = 5) := linE_many rows hr0 (.inl (by omega))
      have hd : decide (16 < n) = true := by simpa using h8
      have hd2 : decide ((16 : Int) < (n : Int)) = true := by simpa using (show (16 : Int) < n from by omega)
      clear hl hz
      go_enter Tryz.func31, Tryz.ntmps31
      go_wp2
      go_ret
      exact ⟨by rw [hv.out]; rfl, Below.refl _ _⟩
    · have hd8 : decide (16 < n) = false := by simpa using h8
      have hd82 : decide ((16 : Int) < (n : Int)) = false := by simpa using (show ¬ ((16 : Int) < n) from by omega)
      by_cases hm : 4096 < rows[0].length
      · have hv : Hid (linE rows = 5) := linE_many rows hr0 (.inr hm)
        generalize rows[0].length = m at *
        have hd : decide (4096 < m) = true := by simpa using hm
        have hd2 : decide ((4096 : Int) < (m : Int)) = true := by simpa using (show (4096 : Int) < m from by omega)
        clear hl hz
        go_enter Tryz.func31, Tryz.ntmps31
        go_wp2
        go_ret
        exact ⟨by rw [hv.out]; rfl, Below.refl _ _⟩
      · have HSH := Lib.hid (fun k hk hne => linE_shape rows hr0 (by omega) (by omega) k hk hne)
        have HOK := Lib.hid (fun ha => linE_ok rows hr0 (by omega) (by omega) ha)
        generalize hmm : rows[0].length = m at *
        have hd : decide (4096 < m) = false := by simpa using hm
        have hd2 : decide ((4096 : Int) < (m : Int)) = false := by simpa using (show ¬ ((4096 : Int) < m) from by omega)
        have HL := Lib.hid hl
        clear hl hz hmm
        go_enter Tryz.func31, Tryz.ntmps31
        go_wp2
        go_loopg [3] n (fun q s W => ∃ k : Nat, k ≤ n ∧ s = .int .i64 k ∧ n - k ≤ q ∧ Hid (∀ (i : Nat) (hi : i < rows.length), i < k → rows[i].length = m) ∧ Below w.heap.size w W)
        case atStart => exact ⟨0, Nat.zero_le _, rfl, by omega, fun i hi h => absurd h (by omega), Below.refl _ _⟩
        case round =>
          obtain ⟨k, hk, rfl, hq, hf, hbel⟩ := hrel
          by_cases h0 : k < n
          · obtain ⟨ad2, hkl, A1, c1, e1, hbb, hcell, hlc, hcm, hrd⟩ := (h.below hbel).row h0
            injection e1 with e1
            subst e1
            have hc02 := (hbel.cell hb0).trans hc0
            have HSK := Lib.hid (fun hne => HSH.out k hkl hne)
            have HNX := Lib.hid (fun (e : rows[k].length = m) => show ∀ (i : Nat) (hi : i < rows.length), i < k + 1 → rows[i].length = m from fun i hi hik => by
              rcases Nat.lt_or_ge i k with h9 | h9
              · exact hf.out i hi h9
              · obtain rfl : i = k := by omega
                exact e)
            clear hrd hf
            generalize rows[k].length = L at *
            by_cases he : L = m
            · subst he
              have hne : ((L : Int) != (L : Int)) = false := by simp
              have HN2 := Lib.hid (HNX.out rfl)
              go_wp2
              go_region
              go_wp2
              go_roundg (n - (k + 1))
              case measure => omega
              case rel => exact ⟨k + 1, by omega, by go_num, Nat.le_refl _, HN2.out, hbel.drew⟩
            · have hne : ((L : Int) != (m : Int)) = true := by rw [bne_iff_ne]; omega
              have HV := Lib.hid (HSK.out he)
              clear he
              go_wp2
              go_region
              go_wp2
              go_ret
              exact ⟨by rw [HV.out]; rfl, hbel.drew⟩
          · have HV := Lib.hid (HOK.out (fun k hk => hf.out k hk (by have := HL.out; omega)))
            go_wp2
            go_ret
            exact ⟨by rw [HV.out]; rfl, hbel⟩

end Go.Proofs.YtboaojkblmddkaaGreatDoor

/- The reference's Aligned of valid records. -/
namespace Go.Proofs.YtboaojkblmddkaaGreatDoor
open Go.RowKit Bn
open Flt

/-- an aligned record as it was laid: its zeros as they are -/
def algw (fr tt : Int) (r : List Nat) (s : Int) : List Nat := (r.drop (fr + s).toNat).take (tt - fr).toNat
def algW (rows : List (List Nat)) (sk : List Int) : List (List Nat) := List.zipWith (algw (frT sk) (toT rows sk)) rows sk
theorem alg1_w (fr tt : Int) (r : List Nat) (s : Int) : alg1 fr tt r s = (algw fr tt r s).map posz := rfl
theorem algW_succ (rows : List (List Nat)) (sk : List Int) (k : Nat) (h : k < rows.length) (h2 : k < sk.length) : (algW rows sk).take (k + 1) = (algW rows sk).take k ++ [algw (frT sk) (toT rows sk) rows[k] sk[k]] := by
  have hl : k < (algW rows sk).length := by unfold algW; rw [List.length_zipWith]; omega
  unfold algW at hl ⊢
  rw [List.take_succ_eq_append_getElem hl, List.getElem_zipWith]
theorem toT_snoc (rows : List (List Nat)) (sk : List Int) (k : Nat) (hkl : k < rows.length) (hkl' : k < sk.length) : toT (rows.take (k + 1)) (sk.take (k + 1)) = min (toT (rows.take k) (sk.take k)) ((rows[k].length : Int) - sk[k]) := by
  unfold toT
  rw [List.take_succ_eq_append_getElem hkl', List.take_succ_eq_append_getElem hkl, List.zip_append (by rw [List.length_take, List.length_take]; omega), List.foldl_append]; rfl
theorem frT_take (sk : List Int) (k : Nat) (hkl' : k < sk.length) : frT (sk.take (k + 1)) = max (frT (sk.take k)) (-sk[k]) := by
  rw [List.take_succ_eq_append_getElem hkl', frT_snoc]

set_option maxHeartbeats 4000000 in
set_option maxRecDepth 100000 in
theorem rAligned_any (A A' : Option Addr) (n c c' N : Nat) (rows : List (List Nat)) (sk : List Int) (z : Int) (RR : List (List Nat)) (w : World) (h : RowsR f32v w w.heap.size A n rows) (h' : Reads w w.heap.size 1 A' n (sk.map i64v)) (hv : Valid rows sk)
    (hz : (toT rows sk ≤ frT sk ∧ z = 16 ∧ RR = [] ∧ N = 0) ∨ (¬ toT rows sk ≤ frT sk ∧ z = 0 ∧ RR = algW rows sk ∧ N = n)) :
    Calls Tryz.prog 43 #[.slice A n c, .slice A' n c'] w fun e w' => ∃ v, e = .returned (.tuple #[v, .int .i64 z]) ∧ Grow f32v 22 23 w' w.heap.size v N RR ∧ Below w.heap.size w w' := by
  have HZ := Lib.hid hz
  clear hz
  obtain ⟨i0, hi0, hz0, hz1, hz2⟩ := info_parts info_f32
  obtain ⟨i1, hi1, hw0, hw1, hw2⟩ := info_parts info_fls
  have hl := h.1
  have hl' := h'.lenM
  have h1 := hv.some_
  have h8 := hv.few
  have hnp : 0 < n := by omega
  have hnp2 : (0 : Int) < (n : Int) := by omega
  obtain ⟨ad, hr0, A0, c0, rfl, hb0, hc0, _, _, _⟩ := h.row (k := 0) hnp
  have hzz : Addr.add ad 0 = ad := rfl
  rw [hzz] at hc0
  obtain ⟨ad', hs0, rfl, hb0', hcs0⟩ := h'.cellM hnp
  rw [show Addr.add ad' 0 = ad' from rfl] at hcs0
  have hL0 := hv.len rows[0] (List.getElem_mem hr0)
  have hS0 := hv.small sk[0] (List.getElem_mem hs0)
  have HGE := Lib.hid (frT_ge sk)
  have HLE := Lib.hid (toT_le rows sk hv.same)
  have hbd := frT_bd sk hv.small
  have hbt := toT_bd rows sk
  have HF0 := Lib.hid (frT_ge sk sk[0] (List.getElem_mem hs0))
  have HT0 := Lib.hid (toT_le rows sk hv.same 0 hr0 hs0)
  have HLEN := Lib.hid hv.len
  have HS := Lib.hid hv.small
  have HL := Lib.hid hl
  have HL' := Lib.hid hl'
  have HFT := Lib.hid (frT_take sk)
  have HTT := Lib.hid (toT_snoc rows sk)
  have HWS := Lib.hid (algW_succ rows sk)
  unfold i64v at hcs0
  generalize rows[0].length = L0 at *
  generalize sk[0] = s0 at *
  clear hl hl' hv hzz
  go_enter Tryz.func43, Tryz.ntmps43
  go_wp2
  go_region
  go_wp2
  go_loopg [6, 7, 8] n (fun q p r s W => ∃ (k : Nat) (a b : Int), k ≤ n ∧ s = .int .i64 k ∧ n - k ≤ q ∧ p = .int .i64 a ∧ r = .int .i64 b ∧ Hid (a = max (-s0) (frT (sk.take k))) ∧ Hid (b = min ((L0 : Int) - s0) (toT (rows.take k) (sk.take k))) ∧ -1000 ≤ a ∧ a ≤ 1000 ∧ -1000 ≤ b ∧ b ≤ 5096 ∧ Below w.heap.size w W)
  case atStart => exact ⟨0, -s0, (L0 : Int) - s0, Nat.zero_le _, rfl, by omega, by go_num, by go_num, by simp [Hid, frT]; omega, by simp [Hid, toT]; omega, by omega, by omega, by omega, by omega, (Below.refl _ _).drew⟩
  case round =>
    obtain ⟨k, a, b, hk, rfl, hq, rfl, rfl, ha, hb, a1, a2, b1, b2, hbel⟩ := hrel
    by_cases h0 : k < n
    · obtain ⟨ad2, hkl, A1, c1, e1, hbb, hcell, hlc, hcm, hrd⟩ := (h.below hbel).row h0
      injection e1 with e1
      subst e1
      obtain ⟨ad3, hkl', e3, hbb', hcell'⟩ := (h'.below hbel).cellM h0
      injection e3 with e3
      subst e3
      have hL := HLEN.out rows[k] (List.getElem_mem hkl)
      have hS := HS.out sk[k] (List.getElem_mem hkl')
      have hfa := HFT.out k hkl'
      have hfb := HTT.out k hkl hkl'
      unfold i64v at hcell'
      clear hrd
      generalize rows[k].length = L at *
      generalize sk[k] = s at *
      have HFA : Hid (max a (-s) = max (-s0) (frT (sk.take (k + 1)))) := by unfold Hid; rw [hfa, ha.out]; omega
      have HFB : Hid (min b ((L : Int) - s) = min ((L0 : Int) - s0) (toT (rows.take (k + 1)) (sk.take (k + 1)))) := by unfold Hid; rw [hfb, hb.out]; omega
      clear hfa hfb ha hb
      go_wp2
      go_region
      go_wp2
      go_roundg (n - (k + 1))
      case measure => omega
      case rel => exact ⟨k + 1, _, _, by omega, by go_num, Nat.le_refl _, rfl, rfl, HFA.out, HFB.out, by omega, by omega, by omega, by omega, below_drewN hbel _⟩
    · obtain rfl : n = k := by omega
      have h5 := ha.out
      have h6 := hb.out
      have t1 : sk.take n = sk := List.take_of_length_le (by have := HL'.out; omega)
      have t2 : rows.take n = rows := List.take_of_length_le (by have := HL.out; omega)
      rw [t1] at h5 h6
      rw [t2] at h6
      have hfa : frT sk = a := by have := HF0.out; omega
      have hfb : toT rows sk = b := by have := HT0.out; omega
      have HRL : Hid ((algW rows sk).length = n) := by unfold Hid algW; rw [List.length_zipWith]; have := HL.out; have := HL'.out; omega
      clear h5 h6 ha hb HF0 HT0 HFT HTT t1 t2
      generalize algW rows sk = R at *
      rw [hfa, hfb] at HWS HZ
      have HGE2 : Hid (∀ s ∈ sk, -s ≤ a) := by intro s hs; have := HGE.out s hs; omega
      have HLE2 : Hid (∀ (i : Nat) (h : i < rows.length) (h2 : i < sk.length), b ≤ (rows[i].length : Int) - sk[i]) := by intro i h h2; have := HLE.out i h h2; omega
      clear HGE HLE hfa hfb hbd hbt
      rcases HZ.out with ⟨hba, rfl, rfl, rfl⟩ | ⟨hba, rfl, hRR, hNN⟩
      · have hd : decide (b ≤ a) = true := by simpa using hba
        clear hba HZ
        go_wp2
        go_ret2
        exact ⟨_, rfl, Grow.nil, hbel⟩
      · obtain rfl : R = RR := hRR.symm
        obtain rfl : n = N := hNN.symm
        have hd : decide (b ≤ a) = false := by simpa using hba
        clear hRR hNN
        obtain ⟨m, hm⟩ : ∃ m : Nat, (m : Int) = b - a := ⟨(b - a).toNat, by omega⟩
        have hm1 : 0 < m := by omega
        have hm4 : m ≤ 8192 := by omega
        have hn8 : n ≤ 8 := by have := HL.out; omega
        have hab : a < b := by omega
        have HM := Lib.hid hm
        have hbelw := hbel
        clear hm hba HZ
        go_wp2
        go_loopg [9, 10] n (fun q v s W => ∃ k : Nat, k ≤ n ∧ s = .int .i64 k ∧ n - k ≤ q ∧ Grow f32v 22 23 W w.heap.size v k (R.take k) ∧ Below w.heap.size w W)
        case atStart => exact ⟨0, Nat.zero_le _, rfl, by omega, Grow.nil, hbelw⟩
        case round =>
          obtain ⟨k, hk, rfl, hq, hgr, hbel⟩ := hrel
          by_cases h0 : k < n
          · obtain ⟨ad2, hkl, A1, c1, e1, hbb, hcell, hlc, hcm, hrd⟩ := (h.below hbel).row h0
            injection e1 with e1
            subst e1
            obtain ⟨ad3, hkl', e3, hbb', hcell'⟩ := (h'.below hbel).cellM h0
            injection e3 with e3
            subst e3
            have hL := HLEN.out rows[k] (List.getElem_mem hkl)
            have hS := HS.out sk[k] (List.getElem_mem hkl')
            have hge := HGE2.out sk[k] (List.getElem_mem hkl')
            have hle2 := HLE2.out k hkl hkl'
            have hsu := HWS.out k hkl hkl'
            unfold i64v at hcell'
            obtain ⟨lo, hlo⟩ : ∃ lo : Nat, (lo : Int) = a + sk[k] := ⟨(a + sk[k]).toNat, by omega⟩
            obtain ⟨hi, hhi⟩ : ∃ hi : Nat, (hi : Int) = b + sk[k] := ⟨(b + sk[k]).toNat, by omega⟩
            have hm2 := HM.out
            have hml : hi - lo = m := by omega
            have hb1' : lo < hi := by omega
            have hb2' : hi ≤ rows[k].length := by omega
            obtain ⟨a1, rfl, ha1, _⟩ := hrd.2 (by omega)
            have hcut := (hrd.dropN (k := lo) (by omega)).take (m := m) (by omega)
            rw [← List.map_drop, ← List.map_take] at hcut
            have he1 : (rows[k].drop lo).take m = algw a b rows[k] sk[k] := by
              unfold algw
              rw [← hlo, ← hm2]; rfl
            rw [he1] at hcut
            generalize algw a b rows[k] sk[k] = r at *
            generalize rows[k].length = L at *
            have hx1 : IntKind.i64.wrap (a + sk[k]) = (lo : Int) := by rw [← hlo]; exact IntWalk.i64_in _ (by omega)
            have hx2 : IntKind.i64.wrap (b + sk[k]) = (hi : Int) := by rw [← hhi]; exact IntWalk.i64_in _ (by omega)
            generalize sk[k] = s at *
            have HSU2 := Lib.hid hsu
            have hy1 : (0 : Int) ≤ (lo : Int) := by omega
            have hy2 : (lo : Int) ≤ (hi : Int) := by omega
            have hy3 : (hi : Int) ≤ (c1 : Int) := by omega
            have hy4 : c1 ≠ lo := by omega
            have hy5 : (0 : Int) ≤ (k : Int) := by omega
            have hy6 : (k : Int) < (n : Int) := by omega
            have hle := hbel.size
            have hbA : Below wr.heap.size wr (wr.alloc (.cells #[] 23)) := (Below.refl _ _).alloc (Nat.le_refl _) _
            have hrm : r.length = m := hcut.lenM
            have HNEWS := Lib.hid (Reads.cellsOver ((hcut.more hle).later hbA))
            have HONE := Lib.hid (f32v_one r)
            have HEM := Lib.hid (own_empty wr w.heap.size 23 hle)
            have HRM := Lib.hid hrm
            obtain ⟨hgl, vs, hown, hin⟩ := hgr
            have HGL := Lib.hid hgl
            have HIN := Lib.hid hin
            have hcellw := (hbel.cell (by rw [block_of_add]; exact hbb)).symm.trans hcell
            have hcellw' := (hbel.cell (by rw [block_of_add]; exact hbb')).symm.trans hcell'
            have hblt : (ad.add k).block < wr.heap.size := by rw [block_of_add]; exact Nat.lt_of_lt_of_le hbb hle
            have hblt' : (ad'.add k).block < wr.heap.size := by rw [block_of_add]; exact Nat.lt_of_lt_of_le hbb' hle
            have S1 : Hid ((wr.alloc (.cells #[] 23)).drew.ownsRow w.heap.size 23 1 (.slice (some ⟨wr.heap.size, 0, none⟩) 0 0) 0 []) := (own_empty wr w.heap.size 23 hle).drew
            have S2 : Hid ((r.map f32v).length = m * 1) := by unfold Hid; rw [List.length_map, hrm]; omega
            have S3 : Hid (∀ j u, (r.map f32v)[j]? = some u → (wr.alloc (.cells #[] 23)).drew.cell? ((a1.add lo).add j) = some u) := fun j u hu => HNEWS.out j u hu
            have S4 : Hid (0 + m ≤ maxLen) := by unfold Hid maxLen; omega
            have S5 : Hid ((0 + m) * 4 ≤ 140737488355328) := by unfold Hid; omega
            have S6 : Hid (w.heap.size ≤ (wr.alloc (.cells #[] 23)).drew.heap.size) := Nat.le_trans hle hbA.size
            have S7 : Hid ((wr.alloc (.cells #[] 23)).drew.heap.size = wr.heap.size + 1) := by unfold Hid; simp
            have S8 : Hid (k + 1 ≤ maxLen) := by unfold Hid maxLen; omega
            have S9 : Hid ((k + 1) * 24 ≤ 140737488355328) := by unfold Hid; omega
            clear hsu hlo hhi hm2 he1 hcut hrd hrm hgl hin
            go_wp2_with fail
            go_region_held3 (fun w' => w'.cell? (ad.add k) = some (.slice (some a1) L c1) ∧ w'.cell? (ad'.add k) = some (.int .i64 s))
              ((first
                | exact ⟨hcell, hcell'⟩
                | exact ⟨(World.cell?_alloc_lt _ _ _ hblt).trans hcell, (World.cell?_alloc_lt _ _ _ hblt').trans hcell'⟩
                | exact ⟨y1, y2⟩
                | exact ⟨(World.cell?_alloc_lt _ _ _ hblt3).trans y1, (World.cell?_alloc_lt _ _ _ hblt3').trans y2⟩
                | exact ⟨z1, z2⟩))
              ((first
                | (refine step_append_lies (s := .tmp 58) (x := .tmp 75) (t := 22) (base := w.heap.size) (e := 23) (i := i0) (z := .float .f32 0) (size := 1) (bytes := 4) (v := .slice (some ⟨wr.heap.size, 0, none⟩) 0 0) (n := 0) (xs := []) (ad := a1.add lo) (m := m) (c := c1 - lo) (news := r.map f32v) (H := wr.heap.size + 1) (hgd := ?q1) (ho := ?q2) (ht := ?q6) (hi := ?q7) (hz := ?q8) (hsize := ?q9) (hby := ?q10) (hzs := ?q11) (hsz := ?q3) (hs := ?q4) (hown := ?q12) (hx := ?q5) (hl := ?q13) (hnews := ?q14) (h1 := ?q15) (hm := ?q16) (h63 := ?q17) (hbytes := ?q18) (hbase := ?q19) (hH := ?q20) (h := ?q21)
                   case q2 => rfl
                   case q1 => rfl
                   case q6 => exact Tryz.underlying22
                   case q7 => exact hi0
                   case q8 => exact hz0
                   case q9 => exact hz1
                   case q10 => exact hz2
                   case q11 => rfl
                   case q3 => decide
                   case q4 => rfl
                   case q12 => exact S1.out
                   case q5 => rfl
                   case q13 => exact S2.out
                   case q14 => exact S3.out
                   case q15 => exact HONE.out
                   case q16 => exact hm1
                   case q17 => exact S4.out
                   case q18 => exact S5.out
                   case q19 => exact S6.out
                   case q20 => exact S7.out
                   intro g3 cap3 w3 hown3 hgrow3 hat3 hlt3
                   rw [Nat.zero_add] at hown3
                   have hb3 : Below wr.heap.size wr w3 := hbA.drew.grown hgrow3 (by simp) (fun g hg => by simp [Value.ownBlock] at hg; omega)
                   have y1 := (hb3.cell hblt).trans hcell
                   have y2 := (hb3.cell hblt').trans hcell'
                   have hblt3 := Nat.lt_of_lt_of_le hblt hb3.size
                   have hblt3' := Nat.lt_of_lt_of_le hblt' hb3.size
                   have hv3 := own_belw hown hb3)
                | (refine step_append_lies (s := .tmp 57) (x := .tmp 77) (t := 75) (base := w.heap.size) (e := 22) (i := i1) (z := .slice none 0 0) (size := 1) (bytes := 24) (n := k) (xs := vs) (ad := ⟨w3.heap.size, 0, none⟩) (m := 1) (c := 1) (news := [.slice (some ⟨g3, 0, none⟩) m cap3]) (H := w3.heap.size + 1) (hgd := ?p1) (ho := ?p2) (ht := ?p6) (hi := ?p7) (hz := ?p8) (hsize := ?p9) (hby := ?p10) (hzs := ?p11) (hsz := ?p3) (hs := ?p4) (hown := hv3.alloc _) (hx := ?p5) (hl := ?p13) (hnews := ?p14) (h1 := ?p15) (hm := ?p16) (h63 := ?p17) (hbytes := ?p18) (hbase := ?p19) (hH := ?p20) (h := ?p21)
                   case p2 => rfl
                   case p1 => rfl
                   case p6 => exact Tryz.underlying75
                   case p7 => exact hi1
                   case p8 => exact hw0
                   case p9 => exact hw1
                   case p10 => exact hw2
                   case p11 => rfl
                   case p3 => decide
                   case p4 => rfl
                   case p5 => rfl
                   case p13 => rfl
                   case p14 => exact World.news_of_block (heap_alloc_new w3 _)
                   case p15 => exact fun u hu => by cases List.mem_singleton.1 hu; rfl
                   case p16 => exact Nat.one_pos
                   case p17 => exact S8.out
                   case p18 => exact S9.out
                   case p19 => exact Nat.le_trans hle (Nat.le_trans hb3.size (by simp))
                   case p20 => simp
                   intro g4 cap4 w4 hown4 hgrow4 hat4 hlt4
                   have hb34 : Below w3.heap.size w3 (w3.alloc (.cells #[.slice (some ⟨g3, 0, none⟩) m cap3] 22)) := (Below.refl _ _).alloc (Nat.le_refl _) _
                   have hle3 := Nat.le_trans hle hb3.size
                   have hb4 : Below w.heap.size w w4 := ((hbel.trans (hb3.mono hle)).trans (hb34.mono hle3)).grown hgrow4 (Nat.le_trans hle3 hb34.size) (fun g hg => (World.ownsRow.lt hv3 g hg).1)
                   have z1 := (hb4.cell (by rw [block_of_add]; exact hbb)).trans hcellw
                   have z2 := (hb4.cell (by rw [block_of_add]; exact hbb')).trans hcellw')))
            have hG : Grow f32v 22 23 w4 w.heap.size (.slice (some ⟨g4, 0, none⟩) (k + 1) cap4) (k + 1) (R.take (k + 1)) := by
              rw [HSU2.out]
              exact Grow.snoc HGL.out (hv3.alloc _) (fun i hi => (HIN.out i hi).imp fun u hu => ⟨hu.1, own_belw (own_belw hu.2 hb3) hb34⟩) (by rw [HRM.out]; exact own_belw hown3 hb34) (by decide) hgrow4 hown4
            clear hgrow3 hgrow4 hown3 hown4 hv3 hown
            go_wp2
            go_roundg (n - (k + 1))
            case measure => omega
            case rel => exact ⟨k + 1, by omega, by go_num, Nat.le_refl _, hG, hb4⟩
          · obtain rfl : n = k := by omega
            rw [List.take_of_length_le (by have := HRL.out; omega)] at hgr
            go_wp2
            go_ret2
            exact ⟨_, rfl, hgr, hbel⟩

end Go.Proofs.YtboaojkblmddkaaGreatDoor
