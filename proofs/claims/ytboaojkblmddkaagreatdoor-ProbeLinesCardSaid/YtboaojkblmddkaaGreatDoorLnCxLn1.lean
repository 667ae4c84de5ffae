/- number.CheckSamples of any samples; probe's CheckLevels, Digital and Changes of any arguments. -/
import Derived.Test.YtboaojkblmddkaaGreatDoorCAwb
import Derived.Test.YtboaojkblmddkaaGreatDoorCAw8
import Derived.Test.YtboaojkblmddkaaGreatDoorCEx2
import Derived.Test.YtboaojkblmddkaaGreatDoorCRf3
import Derived.Deep.LoopGhost
import Derived.Test.YtboaojkblmddkaaGreatDoorCAwc
import Derived.Test.YtboaojkblmddkaaGreatDoorCAd2
import Derived.Test.YtboaojkblmddkaaGreatDoorCWds
import Derived.RangeFuncBox
import Derived.RangeFuncLeaves
import Derived.Shelf.Abstract
import Derived.OwnWalkIn
import Derived.TacticsInMore
import Derived.LoopNIn
import Derived.LoopIn
import Derived.Maps.AppendAt
namespace Go.Proofs.YtboaojkblmddkaaGreatDoor
open Go.RowKit Bn
open Flt

theorem ncheck1_any (b : Nat) (i : Int) (w : World) : Calls Tryz.prog 105 #[.int .i64 i, .float .f32 b] w fun e w' => e = .returned (.int .i64 (if fin Ieee.single b = true then 0 else 1)) ∧ Below w.heap.size w w' := by
  by_cases h : fin Ieee.single b = true
  · rw [if_pos h]
    refine (ncheck1_ok b i w h).mono ?_
    rintro e w' ⟨rfl, rfl⟩
    exact ⟨rfl, Below.refl _ _⟩
  · rw [if_neg h]
    have h' : fin Ieee.single b = false := by simpa using h
    have H := isFinite_any b w
    rw [h'] at H
    have H := Lib.hid H
    clear h h'
    go_enter Tryz.func105, Tryz.ntmps105
    go_wp2_with fail
    refine H.out.mono ?_
    rintro e w1 ⟨rfl, hb⟩
    go_wp2_with fail
    go_ret
    exact ⟨rfl, hb⟩

set_option maxHeartbeats 1000000 in
theorem ncheckList_any (A : Option Addr) (n c : Nat) (l : List Nat) (w : World) (h : Reads w w.heap.size 1 A n (l.map f32v)) (hn : n ≤ maxLen) :
    Calls Tryz.prog 104 #[.slice A n c, .int .i64 0, .int .i64 4096, .func (.func 105) #[] #[]] w fun e w' => e = .returned (.int .i64 (smpE l)) ∧ Below w.heap.size w w' := by
  unfold maxLen at hn
  have hl := h.lenM
  have hd1 : decide ((n : Int) < 0) = false := by simp
  by_cases hb : 4096 < n
  · have hv : Hid (smpE l = 5) := by unfold Hid smpE; rw [if_pos (by omega)]
    have hd : decide (4096 < n) = true := by simpa using hb
    clear hl
    go_enter Tryz.func104, Tryz.ntmps104
    go_wp2
    go_ret
    exact ⟨by rw [hv.out]; rfl, Below.refl _ _⟩
  · have hd2 : decide (4096 < n) = false := by simpa using hb
    have HL := Lib.hid hl
    have eg := ncheck1_enter
    clear hl
    go_enter Tryz.func104, Tryz.ntmps104
    go_wp2
    go_loopg [22] n (fun m s W => ∃ k : Nat, k ≤ n ∧ s = .int .i64 k ∧ n - k ≤ m ∧ Hid ((l.take k).all (fin Ieee.single) = true) ∧ Below w.heap.size w W)
    case atStart => exact ⟨0, Nat.zero_le _, rfl, by omega, by simp [Hid], Below.refl _ _⟩
    case round =>
      obtain ⟨k, hk, rfl, hm, ha, hbel⟩ := hrel
      by_cases h0 : k < n
      · obtain ⟨ad, hkl, rfl, hbb, hcell⟩ := (h.below hbel).cellM h0
        have hs : (l.take (k + 1)).all (fin Ieee.single) = ((l.take k).all (fin Ieee.single) && fin Ieee.single l[k]) := by
          rw [List.take_succ_eq_append_getElem hkl, List.all_append]; simp
        have hx2 : l.all (fin Ieee.single) = true → fin Ieee.single l[k] = true := fun hal => List.all_eq_true.1 hal _ (List.getElem_mem hkl)
        unfold f32v at hcell
        generalize l[k] = x at *
        have HC := ncheck1_any x k wr
        by_cases hf : fin Ieee.single x = true
        · rw [if_pos hf] at HC
          have HC := Lib.hid HC
          rw [hf, Bool.and_true, ha.out] at hs
          have HS := Lib.hid hs
          clear hf hs hx2
          go_wp2_with (go_at_fn 105; refine HC.out.mono ?_; rintro e w1 ⟨rfl, hb1⟩)
          go_roundg (n - (k + 1))
          case measure => omega
          case rel => exact ⟨k + 1, by omega, by go_num, Nat.le_refl _, HS.out, hbel.trans (hb1.mono hbel.size)⟩
        · rw [if_neg hf] at HC
          have HC := Lib.hid HC
          have hv : Hid (smpE l = 1) := by
            unfold Hid smpE
            rw [if_neg (by have := HL.out; omega), if_neg (fun h => hf (hx2 h))]
          clear hf hs hx2
          go_wp2_with (go_at_fn 105; refine HC.out.mono ?_; rintro e w1 ⟨rfl, hb1⟩)
          go_ret
          exact ⟨by rw [hv.out]; rfl, hbel.trans (hb1.mono hbel.size)⟩
      · have hv : Hid (smpE l = 0) := by
          have ha2 := ha.out
          rw [List.take_of_length_le (by have := HL.out; omega)] at ha2
          unfold Hid smpE
          rw [if_neg (by have := HL.out; omega), if_pos ha2]
        go_wp2
        go_ret
        exact ⟨by rw [hv.out]; rfl, hbel⟩

theorem ncheckSamples_any (A : Option Addr) (n c : Nat) (l : List Nat) (w : World) (h : Reads w w.heap.size 1 A n (l.map f32v)) (hn : n ≤ maxLen) :
    Calls Tryz.prog 58 #[.slice A n c] w fun e w' => e = .returned (.int .i64 (smpE l)) ∧ Below w.heap.size w w' := by
  have HC := Lib.hid (ncheckList_any A n c l w h hn)
  clear h
  generalize smpE l = E at *
  go_enter Tryz.func58, Tryz.ntmps58
  go_wp2_with fail
  refine HC.out.mono ?_
  rintro e w1 ⟨rfl, hb⟩
  go_wp2_with fail
  go_ret
  exact ⟨rfl, hb⟩

theorem smpE_two (lo hi : Nat) : smpE [lo, hi] = if fin Ieee.single lo = true ∧ fin Ieee.single hi = true then 0 else 1 := by
  unfold smpE
  rw [if_neg (by simp)]
  simp only [List.all_cons, List.all_nil, Bool.and_true, Bool.and_eq_true]

set_option maxHeartbeats 1000000 in
theorem pcheckLevels_any (lo hi : Nat) (w : World) :
    Calls Tryz.prog 21 #[.agg #[.float .f32 lo, .float .f32 hi]] w fun e w' => e = .returned (.int .i64 (levE lo hi)) ∧ Below w.heap.size w w' := by
  have hb : Below w.heap.size w ((w.alloc (.cells #[.float .f32 lo, .float .f32 hi] 33)).alloc (.cells #[.float .f32 lo, .float .f32 hi] 23)) := ((Below.refl _ _).alloc (Nat.le_refl _) _).alloc (by simp) _
  have q0 : CBlk ((w.alloc (.cells #[.float .f32 lo, .float .f32 hi] 33)).alloc (.cells #[.float .f32 lo, .float .f32 hi] 23)) w.heap.size #[.float .f32 lo, .float .f32 hi] 33 := (CBlk.new w _ _ _ rfl).below ((Below.refl _ _).alloc (Nat.le_refl _) _) (by simp)
  have hr := Reads.lit (w.alloc (.cells #[.float .f32 lo, .float .f32 hi] 33)) [.float .f32 lo, .float .f32 hi] 23
  have hc := ncheckSamples_any _ 2 2 [lo, hi] _ hr (by unfold maxLen; omega)
  have hsz : ((w.alloc (.cells #[.float .f32 lo, .float .f32 hi] 33)).alloc (.cells #[.float .f32 lo, .float .f32 hi] 23)).heap.size = w.heap.size + 1 + 1 := by simp
  have hlt := q0.lt
  have hbs := hb.size
  rw [hsz] at hlt hbs
  simp only [World.size_alloc] at hc
  rw [smpE_two] at hc
  by_cases h : fin Ieee.single lo = true ∧ fin Ieee.single hi = true
  · rw [if_pos h] at hc
    have HC := Lib.hid hc
    by_cases h3 : fge lo hi = true
    · have hv : Hid (levE lo hi = 11) := by unfold Hid levE; rw [if_pos h, if_pos h3]
      have t3 : (FloatKind.f32.format.order lo hi == some .gt || FloatKind.f32.format.order lo hi == some .eq) = true := h3
      clear hc hr h h3
      go_enter Tryz.func21, Tryz.ntmps21
      go_wp2_with fail
      refine HC.out.mono ?_
      rintro e w1 ⟨rfl, hb1⟩
      have q1 := q0.below hb1 hlt
      have x0 := q1.cell 0
      have x1 := q1.cell 1
      go_wp2_with fail
      go_ret
      exact ⟨by rw [hv.out]; rfl, hb.trans (hb1.mono hbs)⟩
    · have hv : Hid (levE lo hi = 0) := by unfold Hid levE; rw [if_pos h, if_neg h3]
      have h3' : fge lo hi = false := by simpa using h3
      have t3 : (FloatKind.f32.format.order lo hi == some .gt || FloatKind.f32.format.order lo hi == some .eq) = false := h3'
      clear hc hr h h3 h3'
      go_enter Tryz.func21, Tryz.ntmps21
      go_wp2_with fail
      refine HC.out.mono ?_
      rintro e w1 ⟨rfl, hb1⟩
      have q1 := q0.below hb1 hlt
      have x0 := q1.cell 0
      have x1 := q1.cell 1
      go_wp2_with fail
      go_ret
      exact ⟨by rw [hv.out]; rfl, hb.trans (hb1.mono hbs)⟩
  · rw [if_neg h] at hc
    have HC := Lib.hid hc
    have hv : Hid (levE lo hi = 1) := by unfold Hid levE; rw [if_neg h]
    clear hc hr h
    go_enter Tryz.func21, Tryz.ntmps21
    go_wp2_with fail
    refine HC.out.mono ?_
    rintro e w1 ⟨rfl, hb1⟩
    go_wp2_with fail
    go_ret
    exact ⟨by rw [hv.out]; rfl, hb.trans (hb1.mono hbs)⟩

/-- the error of a digital line -/
def digE (l : List Nat) (lo hi : Nat) : Int := if smpE l ≠ 0 then smpE l else levE lo hi

set_option maxHeartbeats 2000000 in
set_option maxRecDepth 100000 in
theorem digital_err (A : Option Addr) (n c lo hi : Nat) (v : Bool) (l : List Nat) (w : World) (h : Reads w w.heap.size 1 A n (l.map f32v)) (hn : n ≤ maxLen) (hE : digE l lo hi ≠ 0) :
    Calls Tryz.prog 13 #[.slice A n c, .agg #[.float .f32 lo, .float .f32 hi], .bool v] w fun e w' => e = .returned (.tuple #[.slice none 0 0, .int .i64 (digE l lo hi)]) ∧ Below w.heap.size w w' := by
  have hb0 : Below w.heap.size w (w.alloc (.cells #[.float .f32 lo, .float .f32 hi] 33)).drew := ((Below.refl _ _).alloc (Nat.le_refl _) _).drew
  have q0 : CBlk (w.alloc (.cells #[.float .f32 lo, .float .f32 hi] 33)).drew w.heap.size #[.float .f32 lo, .float .f32 hi] 33 := CBlk.new w _ _ _ rfl
  have x0 := q0.cell 0
  have x1 := q0.cell 1
  have HC := Lib.hid (ncheckSamples_any A n c l (w.alloc (.cells #[.float .f32 lo, .float .f32 hi] 33)).drew (h.later hb0) hn)
  have HL := Lib.hid (fun W => pcheckLevels_any lo hi W)
  have hd : digE l lo hi = if smpE l ≠ 0 then smpE l else levE lo hi := rfl
  generalize smpE l = x at *
  generalize levE lo hi = y at *
  have HF := Lib.hid (fun W => cfirst_two x y W 29 W.heap.size rfl)
  rw [← hd] at HF
  generalize digE l lo hi = E at *
  have e1 : (E != 0) = true := by simpa using hE
  have e2 : (E == 0) = false := by simpa using hE
  have e3 : decide (E = 0) = false := by simpa using hE
  clear hd hE h
  go_enter Tryz.func13, Tryz.ntmps13
  go_wp2_with fail
  go_region_held3 (fun w' => w'.cell? ⟨w.heap.size, 0, none⟩ = some (.float .f32 lo) ∧ w'.cell? ⟨w.heap.size, 1, none⟩ = some (.float .f32 hi))
    ((first | exact ⟨x0, x1⟩ | exact ⟨z0, z1⟩ | exact ⟨y0, y1⟩ | exact ⟨(World.cell?_alloc_lt _ _ _ k5).trans y0, (World.cell?_alloc_lt _ _ _ k5).trans y1⟩))
    (first
      | (go_at_call 58; refine (HC.out).mono ?_; rintro e w4 ⟨rfl, hb4⟩; have q4 := q0.below hb4 q0.lt; have z0 := q4.cell 0; have z1 := q4.cell 1)
      | (go_at_call 21; refine (HL.out w4).mono ?_; rintro e w5 ⟨rfl, hb5⟩; have q5 := q4.below hb5 q4.lt; have y0 := q5.cell 0; have y1 := q5.cell 1; have k5 := q5.lt)
      | (go_at_call 57; refine (HF.out w5).mono ?_; rintro e w6 ⟨rfl, rfl⟩))
  have hb6 : Below w5.heap.size w5 (w5.alloc (.cells #[.int .i64 x, .int .i64 y] 29)) := (Below.refl _ _).alloc (Nat.le_refl _) _
  have hB4 := hb0.trans (hb4.mono hb0.size)
  have hB5 := hB4.trans (hb5.mono hB4.size)
  have hB6 := hB5.trans (hb6.mono hB5.size)
  generalize w5.alloc (.cells #[.int .i64 x, .int .i64 y] 29) = w6 at *
  clear x0 x1 y0 y1 z0 z1
  go_wp2_with fail
  go_ret2
  exact ⟨rfl, hB6⟩

/-- the changes of a line, none where it is too long -/
def chgE (N : Nat) : Int := if 4096 < N then 5 else 0

theorem changes_err (A : Option Addr) (n c : Nat) (b : Bool) (w : World) (hn : 4096 < n) :
    Calls Tryz.prog 15 #[.slice A n c, .bool b] w fun e w' => e = .returned (.tuple #[.slice none 0 0, .int .i64 5]) ∧ Below w.heap.size w w' := by
  have e1 : (if (4096 : Int) < (n : Int) then (5 : Int) else 0) = 5 := if_pos (by omega)
  have H1 := catMost_bool A n c 4096 w
  rw [e1] at H1
  have K1 := Lib.hid H1
  clear H1 e1
  go_enter Tryz.func15, Tryz.ntmps15
  go_wp2_with fail
  refine K1.out.mono ?_
  rintro e w1 ⟨rfl, rfl⟩
  go_wp2
  go_ret2
  exact ⟨rfl, Below.refl _ _⟩

end Go.Proofs.YtboaojkblmddkaaGreatDoor

/- What the law of lines needs of numbers: where a record begins, agreement of lines, highs and lows. -/
namespace Go.Proofs.YtboaojkblmddkaaGreatDoor
open Go.RowKit
open Flt

theorem frT_snoc (sk : List Int) (s : Int) : frT (sk ++ [s]) = max (frT sk) (-s) := by
  unfold frT
  rw [List.foldl_append]
  rfl
theorem fold_max_mem : ∀ (l : List Int) (a : Int), l.foldl (fun a s => max a (-s)) a = a ∨ ∃ s ∈ l, l.foldl (fun a s => max a (-s)) a = -s
  | [], a => .inl rfl
  | x :: t, a => by
    rw [List.foldl_cons]
    rcases fold_max_mem t (max a (-x)) with h | ⟨s, hs, h⟩
    · rw [h]
      rcases Int.le_total a (-x) with h1 | h1
      · exact .inr ⟨x, by simp, by omega⟩
      · exact .inl (by omega)
    · exact .inr ⟨s, by simp [hs], h⟩
/-- the first common time is some record's beginning -/
theorem frT_mem (sk : List Int) (hs : ∀ s ∈ sk, -1000 ≤ s ∧ s ≤ 1000) (h0 : 0 < sk.length) : ∃ s ∈ sk, frT sk = -s := by
  rcases fold_max_mem sk (-1000) with h | h
  · have h1 := frT_ge sk sk[0] (List.getElem_mem h0)
    have h2 := hs sk[0] (List.getElem_mem h0)
    have h3 : frT sk = -1000 := h
    exact ⟨sk[0], List.getElem_mem h0, by omega⟩
  · exact h
theorem beg_eq (sk : List Int) (hs : ∀ s ∈ sk, -1000 ≤ s ∧ s ≤ 1000) (h0 : 0 < sk.length) (x b : Int) (h1 : b ≤ frT sk + x) (h2 : ∀ j (h : j < sk.length), x - sk[j] ≤ b) : b = frT sk + x := by
  obtain ⟨s, hm, he⟩ := frT_mem sk hs h0
  obtain ⟨j, hj, rfl⟩ := List.getElem_of_mem hm
  have := h2 j hj
  omega
theorem key_of_fge {lo hi : Nat} (h1 : fin Ieee.single lo = true) (h2 : fin Ieee.single hi = true) (h3 : fge lo hi = false) : key Ieee.single lo < key Ieee.single hi := by
  rw [fge_key h1 h2] at h3
  have := of_decide_eq_false h3
  omega
theorem alg1_fin (fr tt s : Int) (r : List Nat) (h : ∀ x ∈ r, fin Ieee.single x = true) : ∀ x ∈ alg1 fr tt r s, fin Ieee.single x = true := by
  intro x hx
  unfold alg1 at hx
  obtain ⟨y, hy, rfl⟩ := List.mem_map.1 hx
  exact posz_fin (h y (List.mem_of_mem_drop (List.mem_of_mem_take hy)))
/-- once a sample has decided, the line of the whole record is the line of the aligned one -/
theorem lines_agree (lo hi b : Nat) (fr tt s : Int) (R : List Nat) (hR : ∀ x ∈ R, fin Ieee.single x = true) (h1 : fin Ieee.single lo = true) (h2 : fin Ieee.single hi = true) (h3 : fge lo hi = false) (hb : (b : Int) = fr + s) (hft : fr ≤ tt) (hle : tt + s ≤ (R.length : Int))
    (k : Nat) (hk : k < (alg1 fr tt R s).length) :
    b + k < R.length ∧ (decd lo hi ((alg1 fr tt R s).take (k + 1)) = true → digS lo hi false (R.take (b + k + 1)) = digS lo hi false ((alg1 fr tt R s).take (k + 1))) := by
  have hlen : (alg1 fr tt R s).length = (tt - fr).toNat := by
    unfold alg1
    rw [List.length_map, List.length_take, List.length_drop]
    omega
  have hfin := alg1_fin fr tt s R hR
  have hkey := key_of_fge h1 h2 h3
  refine ⟨by omega, fun hd => ?_⟩
  refine dig_agree lo hi false false R (alg1 fr tt R s) b ?_ ?_ k hk hd
  · intro i hi2
    have hlt : b + i < R.length := by omega
    refine ⟨hlt, ?_⟩
    have e : (alg1 fr tt R s)[i] = posz R[b + i] := by
      simp only [alg1, List.getElem_map, List.getElem_take, List.getElem_drop]
      have eb : (fr + s).toNat = b := by omega
      simp only [eb]
    rw [e]
    exact alike_posz (hR _ (List.getElem_mem hlt)) h1 h2
  · intro i hi2 hf
    exact low_not_high (hfin _ (List.getElem_mem hi2)) h1 h2 hkey hf
/-- a true line's sample is not low; a false one's not high -/
theorem line_sound (lo hi : Nat) (l : List Nat) (hl : ∀ x ∈ l, fin Ieee.single x = true) (h1 : fin Ieee.single lo = true) (h2 : fin Ieee.single hi = true) (h3 : fge lo hi = false) (v : Bool) (k : Nat) (hk : k < l.length) :
    (digS lo hi v (l.take (k + 1)) = true → fle l[k] lo = false) ∧ (digS lo hi v (l.take (k + 1)) = false → fge l[k] hi = false) := by
  rw [digS_succ _ _ _ _ _ hk]
  unfold digV
  constructor
  · intro h
    cases hf : fle l[k] lo
    · rfl
    · rw [low_not_high (hl _ (List.getElem_mem hk)) h1 h2 (key_of_fge h1 h2 h3) hf, fle_not_fgt hf] at h
      simp at h
  · intro h
    cases hg : fge l[k] hi
    · rfl
    · rw [hg] at h; simp at h

end Go.Proofs.YtboaojkblmddkaaGreatDoor

/- Digital and Changes: one contract each; the reference's Digital of valid samples, its Changes. -/
namespace Go.Proofs.YtboaojkblmddkaaGreatDoor
open Go.RowKit Bn
open Flt

theorem smpE_zero (l : List Nat) (h : smpE l = 0) : (∀ x ∈ l, fin Ieee.single x = true) ∧ l.length ≤ 4096 := by
  unfold smpE at h
  split at h
  · cases h
  · split at h
    · rename_i h1 h2
      exact ⟨fun x hx => List.all_eq_true.1 h2 x hx, by omega⟩
    · cases h
theorem levE_zero (lo hi : Nat) (h : levE lo hi = 0) : fin Ieee.single lo = true ∧ fin Ieee.single hi = true ∧ fge lo hi = false := by
  unfold levE at h
  split at h
  · rename_i hf
    split at h
    · cases h
    · rename_i hg
      exact ⟨hf.1, hf.2, by simpa using hg⟩
  · cases h
theorem digE_zero (l : List Nat) (lo hi : Nat) (h : digE l lo hi = 0) : smpE l = 0 ∧ levE lo hi = 0 := by
  unfold digE at h
  split at h
  · rename_i h1; exact absurd h h1
  · rename_i h1; exact ⟨by simpa using h1, h⟩

/-- the digital line, none where an argument is not valid -/
def digR (l : List Nat) (lo hi : Nat) (v : Bool) : List Bool := if digE l lo hi = 0 then digL lo hi v l else []

theorem digital_any (A : Option Addr) (n c lo hi : Nat) (v : Bool) (l : List Nat) (w : World) (h : Reads w w.heap.size 1 A n (l.map f32v)) (hn : n ≤ maxLen) :
    Calls Tryz.prog 13 #[.slice A n c, .agg #[.float .f32 lo, .float .f32 hi], .bool v] w fun e w' => ∃ A' c', e = .returned (.tuple #[.slice A' (digR l lo hi v).length c', .int .i64 (digE l lo hi)]) ∧
      Reads w' w'.heap.size 1 A' (digR l lo hi v).length ((digR l lo hi v).map boolv) ∧ Below w.heap.size w w' := by
  by_cases hE : digE l lo hi = 0
  · obtain ⟨h1, h2⟩ := digE_zero l lo hi hE
    obtain ⟨h3, h4⟩ := smpE_zero l h1
    obtain ⟨h5, h6, h7⟩ := levE_zero lo hi h2
    have hl := h.lenM
    refine (digital_ok A n c lo hi v l w h h3 (by omega) h5 h6 h7).mono ?_
    rintro e w' ⟨g, rfl, ho, hb⟩
    have hr : digR l lo hi v = digL lo hi v l := if_pos hE
    have hlen : (digL lo hi v l).length = n := by rw [digL_len]; exact hl
    rw [hr, hlen, hE]
    exact ⟨_, _, rfl, Reads.of_own ho, hb⟩
  · refine (digital_err A n c lo hi v l w h hn hE).mono ?_
    rintro e w' ⟨rfl, hb⟩
    have hr : digR l lo hi v = [] := if_neg hE
    rw [hr]
    exact ⟨none, 0, rfl, Reads.none_, hb⟩

/-- the changes of a line, none where it is too long -/
def chgR (b : Bool) (ln : List Bool) (N : Nat) : List Nat := if 4096 < N then [] else chg b ln N

theorem changes_any (A : Option Addr) (n c : Nat) (b : Bool) (ln : List Bool) (w : World) (h : Reads w w.heap.size 1 A n (ln.map boolv)) :
    Calls Tryz.prog 15 #[.slice A n c, .bool b] w fun e w' => ∃ A' c', e = .returned (.tuple #[.slice A' (chgR b ln n).length c', .int .i64 (chgE n)]) ∧
      Reads w' w'.heap.size 1 A' (chgR b ln n).length ((chgR b ln n).map natv) ∧ Below w.heap.size w w' := by
  by_cases hn : 4096 < n
  · refine (changes_err A n c b w hn).mono ?_
    rintro e w' ⟨rfl, hb⟩
    have hr : chgR b ln n = [] := if_pos hn
    have he : chgE n = 5 := if_pos hn
    rw [hr, he]
    exact ⟨none, 0, rfl, Reads.none_, hb⟩
  · refine (changes_ok A n c b ln w h (by omega)).mono ?_
    rintro e w' ⟨A', c', rfl, hr, hb⟩
    have hr2 : chgR b ln n = chg b ln n := if_neg hn
    have he : chgE n = 0 := if_neg hn
    rw [hr2, he]
    exact ⟨A', c', rfl, hr, hb⟩

theorem ref_step {lo hi f : Nat} (hf : fin Ieee.single f = true) (hlo : fin Ieee.single lo = true) (hhi : fin Ieee.single hi = true) (h : fge lo hi = false) (a : Bool) :
    (fge f hi = true ∧ fle f lo = false ∧ digV lo hi a f = true) ∨ (fge f hi = false ∧ fle f lo = true ∧ digV lo hi a f = false) ∨ (fge f hi = false ∧ fle f lo = false ∧ digV lo hi a f = a) := by
  have hk := key_of_fge hlo hhi h
  unfold digV
  rw [fge_key hf hhi, fle_key hf hlo, fgt_key hf hlo]
  by_cases c1 : key Ieee.single hi ≤ key Ieee.single f
  · left
    rw [decide_eq_true c1, decide_eq_false (show ¬ key Ieee.single f ≤ key Ieee.single lo by omega)]
    simp
  · right
    rw [decide_eq_false c1]
    by_cases c2 : key Ieee.single f ≤ key Ieee.single lo
    · left
      rw [decide_eq_true c2, decide_eq_false (show ¬ key Ieee.single lo < key Ieee.single f by omega)]
      simp
    · right
      rw [decide_eq_false c2, decide_eq_true (show key Ieee.single lo < key Ieee.single f by omega)]
      simp

set_option maxHeartbeats 4000000 in
set_option maxRecDepth 100000 in
theorem rDigital_ok (A : Option Addr) (n c lo hi : Nat) (v : Bool) (l : List Nat) (w : World) (h : Reads w w.heap.size 1 A n (l.map f32v)) (hf : ∀ x ∈ l, fin Ieee.single x = true) (hn : n ≤ 4096)
    (h1 : fin Ieee.single lo = true) (h2 : fin Ieee.single hi = true) (h3 : fge lo hi = false) :
    Calls Tryz.prog 19 #[.slice A n c, .agg #[.float .f32 lo, .float .f32 hi], .bool v] w fun e w' => ∃ v', e = .returned v' ∧ w'.ownsRow w.heap.size 4 1 v' n ((digL lo hi v l).map boolv) ∧ Below w.heap.size w w' := by
  obtain ⟨i0, hi0, hz0, hz1, hz2⟩ := info_parts info_bool
  have hb0 : Below w.heap.size w (w.alloc (.cells #[.float .f32 lo, .float .f32 hi] 25)) := (Below.refl _ _).alloc (Nat.le_refl _) _
  have q0 : CBlk (w.alloc (.cells #[.float .f32 lo, .float .f32 hi] 25)) w.heap.size #[.float .f32 lo, .float .f32 hi] 25 := CBlk.new w _ _ _ rfl
  have hsz0 : w.heap.size ≤ (w.alloc (.cells #[.float .f32 lo, .float .f32 hi] 25)).heap.size := hb0.size
  have hr0 := h.later hb0
  have HLN := Lib.hid h.lenM
  have HST := Lib.hid (fun f hf a => ref_step (f := f) hf h1 h2 h3 a)
  have HF := Lib.hid hf
  clear h h1 h2 h3 hf
  go_enter Tryz.func19, Tryz.ntmps19
  go_wp2
  generalize (w.alloc (.cells #[.float .f32 lo, .float .f32 hi] 25)) = w0 at *
  go_loopg [2, 7, 8] n (fun q p u s W => ∃ (k : Nat) (pv : Bool), k ≤ n ∧ s = .int .i64 k ∧ n - k ≤ q ∧ p = .bool pv ∧ Hid (pv = digS lo hi v (l.take k)) ∧ W.ownsRow w0.heap.size 4 1 u k (((digL lo hi v l).take k).map boolv) ∧ Below w0.heap.size w0 W)
  case atStart => exact ⟨0, v, Nat.zero_le _, rfl, by omega, rfl, by simp [Hid, digS], World.ownsRow_nil _ _ _ _, Below.refl _ _⟩
  case round =>
    obtain ⟨k, pv, hk, rfl, hq, rfl, hp, hown, hbel⟩ := hrel
    by_cases h0 : k < n
    · obtain ⟨ad, hkl, rfl, hbb, hcell⟩ := (hr0.below hbel).cellM h0
      have hst := HST.out l[k] (HF.out _ (List.getElem_mem hkl)) pv
      have hsu := digS_succ lo hi v l k hkl
      rw [← hp.out] at hsu
      have hat := digL_at lo hi v l k hkl
      have hkd : k < (digL lo hi v l).length := by rw [digL_len]; exact hkl
      have hts : ((digL lo hi v l).take (k + 1)).map boolv = ((digL lo hi v l).take k).map boolv ++ [boolv (digS lo hi v (l.take (k + 1)))] := by
        rw [List.getElem?_eq_getElem hkd] at hat
        injection hat with hat
        rw [List.take_succ_eq_append_getElem hkd, List.map_append, hat]; rfl
      unfold f32v at hcell
      generalize l[k] = f at *
      have q := q0.below hbel q0.lt
      have x0 := q.cell 0
      have x1 := q.cell 1
      have HN := Lib.hid hsu
      have HTS := Lib.hid hts
      have hszx := hbel.size
      clear hat hts hsu
      generalize hZ : digS lo hi v (l.take (k + 1)) = Z at *
      have HZ := Lib.hid hZ
      clear hZ
      rcases hst with ⟨t1, t2, t3⟩ | ⟨t1, t2, t3⟩ | ⟨t1, t2, t3⟩
      · have s1 : (FloatKind.f32.format.order f hi == some .gt || FloatKind.f32.format.order f hi == some .eq) = true := t1
        have s2 : (FloatKind.f32.format.order f lo == some .lt || FloatKind.f32.format.order f lo == some .eq) = false := t2
        rw [t3] at HN
        obtain rfl : Z = true := HN.out
        clear t1 t2 t3
        go_wp2
        go_region
        go_wp2
        go_region
        go_wp2_with (at_builtin; refine wpList_append_own _ rfl _ _ 26 rfl w0.heap.size 4 i0 (.bool false) 1 1 Tryz.underlying26 hi0 hz0 hz1 hz2 rfl (by decide) _ _ _ rfl (hown.alloc _) ⟨wr.heap.size, 0, none⟩ 1 1 [.bool true] rfl rfl ?a1 ?a2 ?a3 ?a4 ?a5 ?_)
        case a1 => first | exact cell_one_new _ _ _ | (have := cell_one_new wr (.bool true) 4; exact this)
        case a2 => intro u hu; simp at hu; subst hu; rfl
        case a3 => unfold maxLen; omega
        case a4 => omega
        case a5 => simp; omega
        intro v' w2 hown' hgrow _
        have hb2 : Below w0.heap.size w0 w2 := by
          refine Below.grown ?_ hgrow (by simp; omega) (fun g hg => (World.ownsRow.lt hown g hg).1)
          first
            | exact (hbel.alloc hbel.size _)
            | exact (hbel.alloc hbel.size _).drew.drew
            | exact (hbel.drew.drew.alloc hbel.size _)
            | exact below_drewN (hbel.alloc hbel.size _) _
        clear hgrow hown
        go_wp2
        go_roundg (n - (k + 1))
        case measure => omega
        case rel => exact ⟨k + 1, true, by omega, by go_num, Nat.le_refl _, rfl, HZ.out.symm, by rw [HTS.out, List.map_take]; exact hown', hb2⟩
      · have s1 : (FloatKind.f32.format.order f hi == some .gt || FloatKind.f32.format.order f hi == some .eq) = false := t1
        have s2 : (FloatKind.f32.format.order f lo == some .lt || FloatKind.f32.format.order f lo == some .eq) = true := t2
        rw [t3] at HN
        obtain rfl : Z = false := HN.out
        clear t1 t2 t3
        go_wp2
        go_region
        go_wp2
        go_region
        go_wp2_with (at_builtin; refine wpList_append_own _ rfl _ _ 26 rfl w0.heap.size 4 i0 (.bool false) 1 1 Tryz.underlying26 hi0 hz0 hz1 hz2 rfl (by decide) _ _ _ rfl (hown.alloc _) ⟨wr.heap.size, 0, none⟩ 1 1 [.bool false] rfl rfl ?a1 ?a2 ?a3 ?a4 ?a5 ?_)
        case a1 => first | exact cell_one_new _ _ _ | (have := cell_one_new wr (.bool false) 4; exact this)
        case a2 => intro u hu; simp at hu; subst hu; rfl
        case a3 => unfold maxLen; omega
        case a4 => omega
        case a5 => simp; omega
        intro v' w2 hown' hgrow _
        have hb2 : Below w0.heap.size w0 w2 := by
          refine Below.grown ?_ hgrow (by simp; omega) (fun g hg => (World.ownsRow.lt hown g hg).1)
          first
            | exact (hbel.alloc hbel.size _)
            | exact (hbel.alloc hbel.size _).drew.drew
            | exact (hbel.drew.drew.alloc hbel.size _)
            | exact below_drewN (hbel.alloc hbel.size _) _
        clear hgrow hown
        go_wp2
        go_roundg (n - (k + 1))
        case measure => omega
        case rel => exact ⟨k + 1, false, by omega, by go_num, Nat.le_refl _, rfl, HZ.out.symm, by rw [HTS.out, List.map_take]; exact hown', hb2⟩
      · have s1 : (FloatKind.f32.format.order f hi == some .gt || FloatKind.f32.format.order f hi == some .eq) = false := t1
        have s2 : (FloatKind.f32.format.order f lo == some .lt || FloatKind.f32.format.order f lo == some .eq) = false := t2
        rw [t3] at HN
        obtain rfl : Z = pv := HN.out
        clear t1 t2 t3
        go_wp2
        go_region
        go_wp2
        go_region
        go_wp2_with (at_builtin; refine wpList_append_own _ rfl _ _ 26 rfl w0.heap.size 4 i0 (.bool false) 1 1 Tryz.underlying26 hi0 hz0 hz1 hz2 rfl (by decide) _ _ _ rfl (hown.alloc _) ⟨wr.heap.size, 0, none⟩ 1 1 [.bool Z] rfl rfl ?a1 ?a2 ?a3 ?a4 ?a5 ?_)
        case a1 => first | exact cell_one_new _ _ _ | (have := cell_one_new wr (.bool Z) 4; exact this)
        case a2 => intro u hu; simp at hu; subst hu; rfl
        case a3 => unfold maxLen; omega
        case a4 => omega
        case a5 => simp; omega
        intro v' w2 hown' hgrow _
        have hb2 : Below w0.heap.size w0 w2 := by
          refine Below.grown ?_ hgrow (by simp; omega) (fun g hg => (World.ownsRow.lt hown g hg).1)
          first
            | exact (hbel.alloc hbel.size _)
            | exact (hbel.alloc hbel.size _).drew.drew
            | exact (hbel.drew.drew.alloc hbel.size _)
            | exact below_drewN (hbel.alloc hbel.size _) _
        clear hgrow hown
        go_wp2
        go_roundg (n - (k + 1))
        case measure => omega
        case rel => exact ⟨k + 1, Z, by omega, by go_num, Nat.le_refl _, rfl, HZ.out.symm, by rw [HTS.out, List.map_take]; exact hown', hb2⟩
    · obtain rfl : n = k := by omega
      rw [List.take_of_length_le (by rw [digL_len]; have := HLN.out; omega)] at hown
      go_wp2
      go_ret
      exact ⟨_, rfl, own_mono hown hsz0, hb0.trans (hbel.mono hsz0)⟩

set_option maxHeartbeats 2000000 in
set_option maxRecDepth 100000 in
theorem rChanges_ok (A : Option Addr) (n c : Nat) (b : Bool) (l : List Bool) (w : World) (h : Reads w w.heap.size 1 A n (l.map boolv)) (hn : n ≤ 4096) :
    Calls Tryz.prog 20 #[.slice A n c, .bool b] w fun e w' => ∃ A' c', e = .returned (.slice A' (chg b l n).length c') ∧ Reads w' w'.heap.size 1 A' (chg b l n).length ((chg b l n).map natv) ∧ Below w.heap.size w w' := by
  obtain ⟨i0, hi0, hz0, hz1, hz2⟩ := info_parts info_int
  go_enter Tryz.func20, Tryz.ntmps20
  go_wp2
  go_loopg [1, 5, 6] n (fun q p v s W => ∃ k : Nat, k ≤ n ∧ s = .int .i64 k ∧ n - k ≤ q ∧ p = .bool (prv b l k) ∧ W.ownsRow w.heap.size 3 1 v (chg b l k).length ((chg b l k).map natv) ∧ Below w.heap.size w W)
  case atStart => exact ⟨0, Nat.zero_le _, rfl, by omega, rfl, World.ownsRow_nil _ _ _ _, Below.refl _ _⟩
  case round =>
    obtain ⟨k, hk, rfl, hq, rfl, hown, hbel⟩ := hrel
    by_cases h0 : k < n
    · obtain ⟨ad, hkl, rfl, hbb, hcell⟩ := (h.below hbel).cellM h0
      have hcell0 := (h.below (Below.refl _ w)).cellM h0
      have hcb := chgB_prv b l k hkl
      have hnx := prv_next b l k hkl
      have hsu := chg_succ b l k
      have hcl := chg_len b l k
      rw [hcb] at hsu
      have HCELL := Lib.hid (fun (W : World) (hb : Below w.heap.size w W) => (h.below hb).cellM h0)
      unfold boolv at hcell
      generalize hx : l[k] = x at *
      have HX := Lib.hid hx
      clear hx hcell0
      generalize prv b l k = p at *
      have HN := Lib.hid hnx
      by_cases hxp : (x != p) = true
      · rw [hxp, if_pos rfl] at hsu
        have HS := Lib.hid hsu
        clear hsu hnx hcb
        generalize hL : chg b l k = L at *
        have HL := Lib.hid hL
        clear hL
        cases x <;> cases p <;> first | exact absurd hxp (by decide) | clear hxp
        all_goals
          go_wp2_with (at_builtin; refine wpList_append_own _ rfl _ _ 34 rfl w.heap.size 3 i0 (.int .i64 0) 1 8 Tryz.underlying34 hi0 hz0 hz1 hz2 rfl (by decide) _ _ _ rfl (hown.alloc _) ⟨wr.heap.size, 0, none⟩ 1 1 [.int .i64 k] rfl rfl ?c1 ?c2 ?c3 ?c4 ?c5 ?_)
          case c1 => exact cell_one_new _ _ _
          case c2 => intro u hu; simp at hu; subst hu; rfl
          case c3 => unfold maxLen; omega
          case c4 => omega
          case c5 => have := hbel.size; simp; omega
          intro v' w2 hown' hgrow _
          have hb2 : Below w.heap.size w w2 := (hbel.alloc hbel.size _).grown hgrow (by have := hbel.size; simp; omega) (fun g hg => (World.ownsRow.lt hown g hg).1)
          obtain ⟨ad9, hkl9, e9, _, hcell9⟩ := HCELL.out w2 hb2
          injection e9 with e9
          subst e9
          rw [HX.out] at hcell9
          unfold boolv at hcell9
          clear hgrow hown hcell
          go_wp2
          go_roundg (n - (k + 1))
          case measure => omega
          case rel => exact ⟨k + 1, by omega, by go_num, Nat.le_refl _, by rw [HN.out], by rw [HS.out, List.length_append, List.map_append]; exact hown', hb2⟩
      · have hxp' : (x != p) = false := by simpa using hxp
        rw [hxp', if_neg (by decide), List.append_nil] at hsu
        have HS := Lib.hid hsu
        clear hsu hnx hcb hxp
        cases x <;> cases p <;> first | exact absurd hxp' (by decide) | clear hxp'
        all_goals
          go_wp2
          go_roundg (n - (k + 1))
          case measure => omega
          case rel => exact ⟨k + 1, by omega, by go_num, Nat.le_refl _, by rw [HN.out], by rw [HS.out]; exact hown, hbel⟩
    · obtain rfl : k = n := by omega
      obtain ⟨A', c', rfl, _, _, hr⟩ := own_slice hown
      go_wp2
      go_ret
      exact ⟨A', c', rfl, hr, hbel⟩

end Go.Proofs.YtboaojkblmddkaaGreatDoor

/- Lines of a law: own copies of them, the reference's CheckLines. -/
namespace Go.Proofs.YtboaojkblmddkaaGreatDoor
open Go.RowKit Bn

theorem Reads.cellsOver {w : World} {B n : Nat} {a : Addr} {xs : List Value} (h : Reads w B 1 (some a) n xs) : ∀ j u, xs[j]? = some u → w.cell? (a.add j) = some u := by
  intro j u hu
  have hl := h.1
  have hj : j < xs.length := by
    rcases Nat.lt_or_ge j xs.length with h1 | h1
    · exact h1
    · rw [List.getElem?_eq_none h1] at hu; cases hu
  obtain ⟨ad, e, _, hc⟩ := h.2 (by omega)
  injection e with e
  subst e
  exact hc j u hu
theorem info_bls2 : (Tryz.prog.info? 26).map (fun i => (i.zero, i.size, i.bytes)) = some (some (.slice none 0 0), 1, 24) := by kernel_rfl

set_option maxHeartbeats 2000000 in
/-- a copy of a line -/
theorem bools_own (A : Option Addr) (n c : Nat) (l : List Bool) (w : World) (h : Reads w w.heap.size 1 A n (l.map boolv)) (hn : n ≤ 140737488355328 / 8) (hc : A = none → c = 0) :
    Calls Tryz.prog 16 #[.slice A n c] w fun e w' => ∃ v, e = .returned v ∧ w'.ownsRow w.heap.size 4 1 v n (l.map boolv) ∧ Below w.heap.size w w' := by
  have hL := h.lenM
  have hbA : Below w.heap.size w (w.alloc (.cells #[] 4)) := (Below.refl _ _).alloc (Nat.le_refl _) _
  cases A with
  | none =>
    obtain rfl := hc rfl
    have hl : l = [] := by
      cases l with
      | nil => rfl
      | cons x t =>
        obtain ⟨ad9, e9, _⟩ := h.2 (by simp at hL; omega)
        cases e9
    subst hl
    obtain rfl : 0 = n := hL
    have ho := own_empty w w.heap.size 4 (Nat.le_refl _)
    clear h hc
    go_enter Tryz.func16, Tryz.ntmps16
    go_wp2
    go_ret
    exact ⟨_, rfl, ho, hbA⟩
  | some a1 =>
    obtain ⟨i0, hi0, hz0, hz1, hz2⟩ := info_parts info_bool
    have hone : ∀ u ∈ l.map boolv, u.oneCell' = true := boolv_one l
    have HONE := Lib.hid hone
    have HRD := Lib.hid h
    clear h hone hc
    go_enter Tryz.func16, Tryz.ntmps16
    go_wp2_with (at_builtin; refine wpList_append_own _ rfl _ _ 26 rfl w.heap.size 4 i0 (.bool false) 1 1 Tryz.underlying26 hi0 hz0 hz1 hz2 rfl (by decide) _ _ _ rfl (own_empty w w.heap.size 4 (Nat.le_refl _)) a1 n c (l.map boolv) rfl ?c0 ?c1 ?c2 ?c3 ?c4 ?c5 ?_)
    case c0 => rw [List.length_map]; omega
    case c1 => exact (HRD.out.below ((Below.refl _ _).alloc (Nat.le_refl _) _)).cellsOver
    case c2 => exact HONE.out
    case c3 => unfold maxLen; omega
    case c4 => omega
    case c5 => simp
    intro v1 w3 hown1 hgrow1 _
    have hb3 : Below w.heap.size w w3 := hbA.grown hgrow1 (by simp) (fun g hg => by simp [Value.ownBlock] at hg; omega)
    clear hgrow1 hbA
    go_wp2
    go_ret
    exact ⟨v1, rfl, hown1, hb3⟩

set_option maxHeartbeats 4000000 in
set_option maxRecDepth 100000 in
/-- copies of lines -/
theorem copied_ok (A : Option Addr) (n c : Nat) (rows : List (List Bool)) (w : World) (h : RowsR boolv w w.heap.size A n rows) (hn : n ≤ 4098) (hr : ∀ r ∈ rows, r.length ≤ 4098)
    (hz : ∀ (ad : Addr) (k L c2 : Nat), A = some ad → k < n → w.cell? (ad.add k) = some (.slice none L c2) → c2 = 0) :
    Calls Tryz.prog 28 #[.slice A n c] w fun e w' => ∃ v, e = .returned v ∧ Grow boolv 26 4 w' w.heap.size v n rows ∧ Below w.heap.size w w' := by
  obtain ⟨i1, hi1, hy0, hy1, hy2⟩ := info_parts info_bls2
  have HZ := Lib.hid hz
  have HR := Lib.hid hr
  have HL := Lib.hid h.1
  clear hz hr
  go_enter Tryz.func28, Tryz.ntmps28
  go_wp2
  go_loopg [3, 8] n (fun q v s W => ∃ j : Nat, j ≤ n ∧ s = .int .i64 j ∧ n - j ≤ q ∧ Grow boolv 26 4 W w.heap.size v j (rows.take j) ∧ Below w.heap.size w W)
  case atStart => exact ⟨0, Nat.zero_le _, rfl, by omega, Grow.nil, Below.refl _ _⟩
  case round =>
    obtain ⟨j, hj, rfl, hq, hgrow, hbel⟩ := hrel
    by_cases h0 : j < n
    · obtain ⟨ad, hkl, A1, c1, rfl, hbb, hcell0, hlc, hcm, hrd0⟩ := h.row h0
      have hcell := (hbel.cell (by rw [block_of_add]; exact hbb)).trans hcell0
      have hrd := (hrd0.below hbel).more hbel.size
      have hL := HR.out rows[j] (List.getElem_mem hkl)
      obtain ⟨hgl, vs, hown, hin⟩ := hgrow
      have hts : rows.take (j + 1) = rows.take j ++ [rows[j]] := List.take_succ_eq_append_getElem hkl
      have HTS := Lib.hid hts
      have HIN := Lib.hid hin
      have HGL := Lib.hid hgl
      have hz1 : A1 = none → c1 = 0 := fun e => by subst e; exact HZ.out ad j rows[j].length c1 rfl h0 hcell0
      generalize rows[j] = R at *
      have hle := hbel.size
      have HB := Lib.hid (bools_own A1 R.length c1 R wr hrd (by omega) hz1)
      clear hts hin hgl hrd hrd0 hz1 hcell0
      generalize hRL : R.length = RL at *
      have HRLE := Lib.hid hRL
      clear hRL
      go_wp2_with fail
      refine HB.out.mono ?_
      rintro e w3 ⟨v3, rfl, ho3, hb3⟩
      have hown3 := own_belw hown hb3
      obtain ⟨A3, c3, rfl, _, _, _⟩ := own_slice ho3
      clear hown HB
      go_wp2_with (at_builtin; refine wpList_append_own _ rfl _ _ 50 rfl w.heap.size 26 i1 (.slice none 0 0) 1 24 Tryz.underlying50 hi1 hy0 hy1 hy2 rfl (by decide) _ _ _ rfl (hown3.alloc _) ⟨w3.heap.size, 0, none⟩ 1 1 [.slice A3 RL c3] rfl rfl ?d1 ?d2 ?d3 ?d4 ?d5 ?_)
      case d1 => exact cell_one_new _ _ _
      case d2 => intro u hu; simp at hu; subst hu; rfl
      case d3 => unfold maxLen; omega
      case d4 => omega
      case d5 => have := hb3.size; simp; omega
      intro v2 w4 hown2 hgrow2 _
      have hb34 : Below w3.heap.size w3 (w3.alloc (.cells #[.slice A3 RL c3] 26)) := (Below.refl _ _).alloc (Nat.le_refl _) _
      have hG : Grow boolv 26 4 w4 w.heap.size v2 (j + 1) (rows.take (j + 1)) := by
        rw [HTS.out]
        exact Grow.snoc HGL.out (hown3.alloc _) (fun i hi => (HIN.out i hi).imp fun u hu => ⟨hu.1, own_belw (own_belw hu.2 hb3) hb34⟩) (by rw [HRLE.out]; exact own_belw (own_mono ho3 hle) hb34) (by decide) hgrow2 hown2
      have hle3 := Nat.le_trans hle hb3.size
      have hb4 : Below w.heap.size w w4 := ((hbel.trans (hb3.mono hle)).trans (hb34.mono hle3)).grown hgrow2 (by simp; omega) (fun g hg => (World.ownsRow.lt hown3 g hg).1)
      clear hgrow2 hown2 hown3 HIN
      go_wp2
      go_roundg (n - (j + 1))
      case measure => omega
      case rel => exact ⟨j + 1, by omega, by go_num, Nat.le_refl _, hG, hb4⟩
    · obtain rfl : n = j := by omega
      rw [List.take_of_length_le (by have := HL.out; omega)] at hgrow
      go_wp2
      go_ret
      exact ⟨_, rfl, hgrow, hbel⟩

/-- the error of lines -/
def linE (rows : List (List Bool)) : Int :=
  match rows with
  | [] => 12
  | r :: _ => if 16 < rows.length ∨ 4096 < r.length then 5 else if rows.all (fun x => decide (x.length = r.length)) = true then 0 else 2
theorem linE_nil (rows : List (List Bool)) (h : rows.length = 0) : linE rows = 12 := by
  cases rows with
  | nil => rfl
  | cons r t => simp at h
theorem linE_many (rows : List (List Bool)) (h : 0 < rows.length) (hh : 16 < rows.length ∨ 4096 < rows[0].length) : linE rows = 5 := by
  cases rows with
  | nil => simp at h
  | cons r t => exact if_pos hh
theorem linE_shape (rows : List (List Bool)) (h : 0 < rows.length) (h1 : rows.length ≤ 16) (h2 : rows[0].length ≤ 4096) (k : Nat) (hk : k < rows.length) (hne : rows[k].length ≠ rows[0].length) : linE rows = 2 := by
  cases rows with
  | nil => simp at h
  | cons r t =>
    have hr : (r :: t)[0].length = r.length := rfl
    rw [hr] at h2 hne
    have e : (r :: t).all (fun x => decide (x.length = r.length)) ≠ true := fun ha => hne (of_decide_eq_true (List.all_eq_true.1 ha _ (List.getElem_mem hk)))
    exact (if_neg (by omega)).trans (if_neg e)
theorem linE_ok (rows : List (List Bool)) (h : 0 < rows.length) (h1 : rows.length ≤ 16) (h2 : rows[0].length ≤ 4096) (ha : ∀ (k : Nat) (hk : k < rows.length), rows[k].length = rows[0].length) : linE rows = 0 := by
  cases rows with
  | nil => simp at h
  | cons r t =>
    have hr : (r :: t)[0].length = r.length := rfl
    rw [hr] at h2
    have e : (r :: t).all (fun x => decide (x.length = r.length)) = true := by
      refine List.all_eq_true.2 fun x hx => decide_eq_true ?_
      obtain ⟨i, hi, rfl⟩ := List.mem_iff_getElem.1 hx
      exact ha i hi
    exact (if_neg (by omega)).trans (if_pos e)
theorem linE_valid (rows : List (List Bool)) (h : linE rows = 0) : 1 ≤ rows.length ∧ rows.length ≤ 16 ∧ ∃ (h0 : 0 < rows.length), rows[0].length ≤ 4096 ∧ ∀ r ∈ rows, r.length = rows[0].length := by
  cases rows with
  | nil => cases h
  | cons r t =>
    unfold linE at h
    simp only at h
    split at h
    · cases h
    · split at h
      · rename_i h1 h2
        have e : (r :: t)[0].length = r.length := rfl
        exact ⟨by simp, by omega, by simp, by rw [e]; omega, fun x hx => by rw [e]; exact of_decide_eq_true (List.all_eq_true.1 h2 x hx)⟩
      · cases h

set_option maxHeartbeats 2000000 in
set_option maxRecDepth 100000 in
theorem rCheckLines_any (A : Option Addr) (n c : Nat) (rows : List (List Bool)) (w : World) (h : RowsR boolv w w.heap.size A n rows) (hn : n ≤ maxLen) :
    Calls Tryz.prog 31 #[.slice A n c] w fun e w' => e = .returned (.int .i64 (linE rows)) ∧ Below w.heap.size w w' := by
  unfold maxLen at hn
  have hl := h.1
  by_cases hz : n = 0
  · have hv : Hid (linE rows = 12) := linE_nil rows (by omega)
    have hd : ((n : Int) == 0) = true := by rw [beq_iff_eq]; omega
    clear hl hz
    go_enter Tryz.func31, Tryz.ntmps31
    go_wp2
    go_ret
    exact ⟨by rw [hv.out]; rfl, Below.refl _ _⟩
  · have hd0 : ((n : Int) == 0) = false := by rw [beq_eq_false_iff_ne]; omega
    have hn0 : 0 < n := by omega
    have hp0 : (0 : Int) < (n : Int) := by omega
    obtain ⟨ad, hr0, A0, c0, rfl, hb0, hc0, _, _, _⟩ := h.row (k := 0) hn0
    have hzz : Addr.add ad 0 = ad := rfl
    rw [hzz] at hc0
    by_cases h8 : 16 < n
    · have hv : Hid (linE rows = 5) := linE_many rows hr0 (.inl (by omega))
      have hd : decide (16 < n) = true := by simpa using h8
      have hd2 : decide ((16 : Int) < (n : Int)) = true := by simpa using (show (16 : Int) < n from by omega)
      clear hl hz
      go_enter Tryz.func31, Tryz.ntmps31
      go_wp2
      go_ret
      exact ⟨by rw [hv.out]; rfl, Below.refl _ _⟩
    · have hd8 : decide (16 < n) = false := by simpa using h8
      have hd82 : decide ((16 : Int) < (n : Int)) = false := by simpa using (show ¬ ((16 : Int) < n) from by omega)
      by_cases hm : 4096 < rows[0].length
      · have hv : Hid (linE rows = 5) := linE_many rows hr0 (.inr hm)
        generalize rows[0].length = m at *
        have hd : decide (4096 < m) = true := by simpa using hm
        have hd2 : decide ((4096 : Int) < (m : Int)) = true := by simpa using (show (4096 : Int) < m from by omega)
        clear hl hz
        go_enter Tryz.func31, Tryz.ntmps31
        go_wp2
        go_ret
        exact ⟨by rw [hv.out]; rfl, Below.refl _ _⟩
      · have HSH := Lib.hid (fun k hk hne => linE_shape rows hr0 (by omega) (by omega) k hk hne)
        have HOK := Lib.hid (fun ha => linE_ok rows hr0 (by omega) (by omega) ha)
        generalize hmm : rows[0].length = m at *
        have hd : decide (4096 < m) = false := by simpa using hm
        have hd2 : decide ((4096 : Int) < (m : Int)) = false := by simpa using (show ¬ ((4096 : Int) < m) from by omega)
        have HL := Lib.hid hl
        clear hl hz hmm
        go_enter Tryz.func31, Tryz.ntmps31
        go_wp2
        go_loopg [3] n (fun q s W => ∃ k : Nat, k ≤ n ∧ s = .int .i64 k ∧ n - k ≤ q ∧ Hid (∀ (i : Nat) (hi : i < rows.length), i < k → rows[i].length = m) ∧ Below w.heap.size w W)
        case atStart => exact ⟨0, Nat.zero_le _, rfl, by omega, fun i hi h => absurd h (by omega), Below.refl _ _⟩
        case round =>
          obtain ⟨k, hk, rfl, hq, hf, hbel⟩ := hrel
          by_cases h0 : k < n
          · obtain ⟨ad2, hkl, A1, c1, e1, hbb, hcell, hlc, hcm, hrd⟩ := (h.below hbel).row h0
            injection e1 with e1
            subst e1
            have hc02 := (hbel.cell hb0).trans hc0
            have HSK := Lib.hid (fun hne => HSH.out k hkl hne)
            have HNX := Lib.hid (fun (e : rows[k].length = m) => show ∀ (i : Nat) (hi : i < rows.length), i < k + 1 → rows[i].length = m from fun i hi hik => by
              rcases Nat.lt_or_ge i k with h9 | h9
              · exact hf.out i hi h9
              · obtain rfl : i = k := by omega
                exact e)
            clear hrd hf
            generalize rows[k].length = L at *
            by_cases he : L = m
            · subst he
              have hne : ((L : Int) != (L : Int)) = false := by simp
              have HN2 := Lib.hid (HNX.out rfl)
              go_wp2
              go_region
              go_wp2
              go_roundg (n - (k + 1))
              case measure => omega
              case rel => exact ⟨k + 1, by omega, by go_num, Nat.le_refl _, HN2.out, hbel.drew⟩
            · have hne : ((L : Int) != (m : Int)) = true := by rw [bne_iff_ne]; omega
              have HV := Lib.hid (HSK.out he)
              clear he
              go_wp2
              go_region
              go_wp2
              go_ret
              exact ⟨by rw [HV.out]; rfl, hbel.drew⟩
          · have HV := Lib.hid (HOK.out (fun k hk => hf.out k hk (by have := HL.out; omega)))
            go_wp2
            go_ret
            exact ⟨by rw [HV.out]; rfl, hbel⟩

end Go.Proofs.YtboaojkblmddkaaGreatDoor

/- Contracts of probe's valuesOf and Line: a range over a function. -/
namespace Go.Proofs.YtboaojkblmddkaaGreatDoor
open Go.RowKit Go.Shelf

attribute [local go_sem] Oper.semAt_some

/-- the line b of words -/
def bitL (ws : List Nat) (b : Nat) : List Bool := ws.map fun x => x / 2 ^ b % 2 == 1

theorem bit_val (x b : Nat) (hx : x < 65536) : (bits BinOp.and IntKind.u16 ((x : Int) / 2 ^ b) 1 == 1) = (x / 2 ^ b % 2 == 1) := by
  have h1 : (x : Int) / 2 ^ b = ((x / 2 ^ b : Nat) : Int) := by rw [Int.natCast_ediv, Int.natCast_pow]; rfl
  have h2 : x / 2 ^ b ≤ x := Nat.div_le_self _ _
  have h3 := u16_and_nat (x / 2 ^ b) 1 (by omega) (by omega)
  rw [h1]
  have e1 : ((1 : Nat) : Int) = 1 := rfl
  rw [e1] at h3
  rw [h3, Nat.and_one_is_mod]
  rw [Bool.eq_iff_iff, beq_iff_eq, beq_iff_eq]
  omega

/-- below B nothing has turned, nor has block g -/
def KpL (B g : Nat) (W W' : World) : Prop := Below B W W' ∧ (g < W.heap.size → W'.heap[g]? = W.heap[g]?)
theorem KpL.trans_ {B g : Nat} {X Y Z : World} (h : KpL B g X Y) (k : KpL B g Y Z) : KpL B g X Z :=
  ⟨h.1.trans k.1, fun hg => (k.2 (Nat.lt_of_lt_of_le hg h.1.size)).trans (h.2 hg)⟩
theorem KpL.put {B g : Nat} {w : World} (hB : B ≤ w.heap.size) (hg : g < w.heap.size) (W : World) (l : Nat) (o o' : Obj) (hl : w.heap.size ≤ l) (h : W.heap[l]? = some o) (h1 : o.isCells = false) (h2 : o.isWalk = false) : KpL B g W (W.putObj l o') :=
  ⟨belowK_b hB W l o o' hl h h1 h2, fun _ => World.putObj_heap_other (by omega)⟩

set_option maxRecDepth 100000 in
set_option maxHeartbeats 2000000 in
theorem vals1_in (F : Fence) (n : Nat) (hf : F.fn 109) (hro : F.round = none) (hn : 1 ≤ n) (l Bw Bl B0 : Nat) (A : Option Addr) (N c b : Nat) (ws : List Nat) (hb : b < 16) (hN : N ≤ 4096) (hws : ∀ x ∈ ws, x < 65536) (J Jx : List Bool → World → Prop)
    (hY : ∀ pre x W, J pre W → pre.length < N → YieldAt F (n - 1) Tryz.prog l #[.bool x] W fun e W' =>
      (e = .returned (.bool true) ∧ J (pre ++ [x]) W' ∧ KpL B0 Bl W W') ∨ (e = .returned (.bool false) ∧ Jx (pre ++ [x]) W'))
    (W : World) (hBw : W.cell? ⟨Bw, 0, none⟩ = some (.slice A N c)) (hBl : CBlk W Bl #[.int .i64 b] 3) (hr : Reads W B0 1 A N (ws.map u16v)) (h0 : J [] W) :
    CallsIn F n Tryz.prog 109 #[.func (.yield l) #[] #[], .pointer (some ⟨Bw, 0, none⟩), .pointer (some ⟨Bl, 0, none⟩)] W fun e W' => (∃ v, e = .returned v) ∧
      ((∃ ys, ys = bitL ws b ∧ J ys W') ∨ (∃ pre, pre <+: bitL ws b ∧ Jx pre W')) := by
  refine callsIn_of_wp Tryz.func109 rfl hf ?_ hro
  simp only [Tryz.ntmps109, List.size_toArray, List.length_cons, List.length_nil, Nat.reduceAdd, Nat.reduceSub, Array.replicate_succ, Array.replicate_zero, List.push_toArray, List.append_toArray, List.nil_append, List.cons_append]
  have hwl := hr.lenM
  have HWL := Lib.hid hwl
  clear hwl
  gi_wp2
  gi_loopw [8] (fun i wr => ∃ k : Nat, k ≤ N ∧ i = .int .i64 k ∧ J ((bitL ws b).take k) wr ∧ Below B0 W wr ∧ CBlk wr Bl #[.int .i64 b] 3) (fun i _ => N - (intOf i).toNat)
  case atStart => exact ⟨0, Nat.zero_le _, rfl, by simpa using h0, Below.refl _ _, hBl⟩
  case round =>
    obtain ⟨k, hk, rfl, hJs, hnx, hbl⟩ := hrel
    by_cases hlt : k < N
    · obtain ⟨ad, hkl, rfl, hbb, hcell⟩ := (hr.below hnx).cellM hlt
      have hcl := hbl.cell 0
      have hkb : k < (bitL ws b).length := by unfold bitL; rw [List.length_map]; exact hkl
      obtain ⟨fn, tmps, assign, body, hy, hR⟩ := hY _ (bitL ws b)[k] wr hJs (by rw [List.length_take]; omega)
      have hts : (bitL ws b).take (k + 1) = (bitL ws b).take k ++ [(bitL ws b)[k]] := List.take_succ_eq_append_getElem hkb
      have hval : (bits BinOp.and IntKind.u16 ((ws[k] : Int) / 2 ^ b) 1 == 1) = (bitL ws b)[k] := by
        rw [bit_val _ _ (hws _ (List.getElem_mem hkl))]
        simp [bitL]
      unfold u16v at hcell
      generalize (bitL ws b)[k] = y at *
      generalize ws[k] = x at *
      have HTS := Lib.hid hts
      clear hts hws
      gi_wp2
      refine hR.mono ?_
      rintro e W3 (⟨rfl, hJ3, hk3⟩ | ⟨rfl, hJx3⟩)
      · have hbl3 : CBlk W3 Bl #[.int .i64 b] 3 := (hk3.2 hbl.lt).trans hbl
        gi_wp2
        go_roundw
        case rel => exact ⟨k + 1, by omega, by simp, by rw [HTS.out]; exact hJ3, hnx.trans hk3.1, hbl3⟩
        case measure => simp [intOf]; omega
      · gi_wp2
        refine bodyPost_ret (results_none rfl _ _ _) rfl ?_
        exact ⟨⟨_, rfl⟩, .inr ⟨(bitL ws b).take (k + 1), List.take_prefix _ _, by rw [HTS.out]; exact hJx3⟩⟩
    · obtain rfl : k = N := by omega
      rw [List.take_of_length_le (by unfold bitL; rw [List.length_map, HWL.out]; exact Nat.le_refl _)] at hJs
      gi_wp2
      go_end0
      exact ⟨⟨_, rfl⟩, .inl ⟨_, rfl, hJs⟩⟩

theorem valuesOf_any (A : Option Addr) (N c b : Nat) (w : World) : Calls Tryz.prog 68 #[.slice A N c, .int .i64 b] w fun e w' =>
    e = .returned (.func (.func 109) #[] #[.pointer (some ⟨w.heap.size, 0, none⟩), .pointer (some ⟨w.heap.size + 1, 0, none⟩)]) ∧ (w.alloc (.cells #[.slice A N c] 51)).alloc (.cells #[.int .i64 b] 3) = w' := by
  have hmf : ∀ (fn : Fn) (first cap : Array Value) (w : World), (Instr.makeFunc fn first cap).run Tryz.prog w = .ok (.func fn first cap) w := fun _ _ _ _ => rfl
  go_enter Tryz.func68, Tryz.ntmps68
  go_wp2
  go_ret
  exact ⟨rfl, rfl⟩

theorem vals_stops (n : Nat) (hn : 1 ≤ n) (Bw Bl B0 : Nat) (A : Option Addr) (N c b : Nat) (ws : List Nat) (hb : b < 16) (hN : N ≤ 4096) (hws : ∀ x ∈ ws, x < 65536) (w : World) (hBw0 : Bw < w.heap.size) (hB0 : B0 ≤ w.heap.size)
    (hBw : w.cell? ⟨Bw, 0, none⟩ = some (.slice A N c)) (hBl : CBlk w Bl #[.int .i64 b] 3) (hr : Reads w B0 1 A N (ws.map u16v)) :
    SeqStopsK Fence.wide n Tryz.prog 109 #[.pointer (some ⟨Bw, 0, none⟩), .pointer (some ⟨Bl, 0, none⟩)] (fun x : Bool => #[Value.bool x]) (KpL B0 Bl) (fun ys => ys = bitL ws b) (fun pre => pre <+: bitL ws b) N w := fun l J Jx W hW _ _ hY h0 =>
  vals1_in Fence.wide n trivial rfl hn l Bw Bl B0 A N c b ws hb hN hws J Jx hY W ((hW.cell (p := ⟨Bw, 0, none⟩) hBw0).trans hBw) (hBl.below hW hBl.lt) (hr.below (hW.mono hB0)) h0

end Go.Proofs.YtboaojkblmddkaaGreatDoor

/- Contract of probe's Line. -/
namespace Go.Proofs.YtboaojkblmddkaaGreatDoor
open Go.RowKit Go.Shelf

attribute [local go_sem] Oper.semAt_some

set_option maxRecDepth 100000 in
set_option maxHeartbeats 2000000 in
theorem line_in (A : Option Addr) (N c b : Nat) (ws : List Nat) (w : World) (h : Reads w w.heap.size 1 A N (ws.map u16v)) (hws : ∀ x ∈ ws, x < 65536) (hN : N ≤ 4096) (hb : b < 16) :
    CallsIn Fence.wide 5 Tryz.prog 29 #[.slice A N c, .int .i64 b] w fun e W' => ∃ v, e = .returned (.tuple #[v, .int .i64 0]) ∧ W'.ownsRow w.heap.size 4 1 v N ((bitL ws b).map boolv) ∧ Below w.heap.size w W' := by
  have h1 : 1 ≤ 5 := by omega
  obtain ⟨i0, hi, hz0, hz1, hz2⟩ := info_parts info_bool
  have e1 : (if (4096 : Int) < (N : Int) then (5 : Int) else 0) = 0 := if_neg (by omega)
  have H1 := catMost_u16 A N c 4096 w
  rw [e1] at H1
  have hr : rangeE (b : Int) 0 15 = 0 := by unfold rangeE; rw [if_neg (by omega)]
  have H2 := cinRange_any (b : Int) 0 15 w
  rw [hr] at H2
  have K1 := Lib.hid H1
  have K2 := Lib.hid H2
  clear H1 H2 e1 hr
  refine callsIn_of_wp_marks Tryz.func29 rfl trivial ?_ rfl
  simp only [Tryz.ntmps29, List.size_toArray, List.length_cons, List.length_nil, Nat.reduceAdd, Nat.reduceSub, Array.replicate_succ, Array.replicate_zero, List.push_toArray, List.append_toArray, List.nil_append, List.cons_append]
  gi_wp2_with fail
  refine ⟨trivial, (callsIn_wide.2 K1.out).mono ?_⟩
  rintro e w1 ⟨rfl, rfl⟩
  gi_wp2_with fail
  refine ⟨trivial, (callsIn_wide.2 K2.out).mono ?_⟩
  rintro e w1 ⟨rfl, rfl⟩
  gi_wp2_with fail
  refine ⟨trivial, (callsIn_wide.2 (cfirst_two 0 0 w 29 w.heap.size rfl)).mono ?_⟩
  rintro e w1 ⟨rfl, rfl⟩
  have hb1 : Below w.heap.size w (w.alloc (.cells #[.int .i64 0, .int .i64 0] 29)) := (Below.refl _ _).alloc (Nat.le_refl _) _
  generalize w.alloc (.cells #[.int .i64 0, .int .i64 0] 29) = w1 at *
  have hle := hb1.size
  gi_wp2_with (gi_at_make; refine wpListIn_make_own _ rfl _ _ 26 rfl w.heap.size 4 i0 (.bool false) 1 Tryz.underlying26 hi hz0 hz1 _ _ _ N rfl rfl rfl ?b2 ?b3 hle ?_)
  case b2 => rw [hz2]; omega
  case b3 => unfold maxLen; omega
  intro w2 hown0 hgrow0
  have hB2 : Below w.heap.size w w2 := hb1.trans ((gnone hgrow0 (Nat.le_refl _)).mono hb1.size)
  generalize w1.heap.size = G at *
  gi_wp2_with fail
  refine ⟨trivial, (callsIn_wide.2 (valuesOf_any A N c b _)).mono ?_⟩
  rintro e w3 ⟨rfl, rfl⟩
  gi_wp2_with fail
  have hG2 := hgrow0.size
  have bV := Boxed.new w2 26 (.slice (some ⟨G, 0, none⟩) 0 N)
  have bW := Boxed.new (w2.alloc (.cells #[.slice (some ⟨G, 0, none⟩) 0 N] 26)) 51 (.slice A N c)
  have bL := Boxed.new ((w2.alloc (.cells #[.slice (some ⟨G, 0, none⟩) 0 N] 26)).alloc (.cells #[.slice A N c] 51)) 3 (.int .i64 b)
  have hW0 : Below w2.heap.size w2 (((w2.alloc (.cells #[.slice (some ⟨G, 0, none⟩) 0 N] 26)).alloc (.cells #[.slice A N c] 51)).alloc (.cells #[.int .i64 b] 3)) := (((Below.refl _ _).alloc (Nat.le_refl _) _).alloc (by simp) _).alloc (by simp; omega) _
  have bV0 := (bV.alloc (.cells #[.slice A N c] 51)).alloc (.cells #[.int .i64 b] 3)
  have bW0 := bW.alloc (.cells #[.int .i64 b] 3)
  have hown1 := ((hown0.alloc (.cells #[.slice (some ⟨G, 0, none⟩) 0 N] 26)).alloc (.cells #[.slice A N c] 51)).alloc (.cells #[.int .i64 b] 3)
  simp only [World.size_alloc] at bW0 bL
  have hszW : (((w2.alloc (.cells #[.slice (some ⟨G, 0, none⟩) 0 N] 26)).alloc (.cells #[.slice A N c] 51)).alloc (.cells #[.int .i64 b] 3)).heap.size = w2.heap.size + 3 := by simp
  have hBW : Below w.heap.size w (((w2.alloc (.cells #[.slice (some ⟨G, 0, none⟩) 0 N] 26)).alloc (.cells #[.slice A N c] 51)).alloc (.cells #[.int .i64 b] 3)) := hB2.trans (hW0.mono hB2.size)
  have hsz2 := hB2.size
  clear bV bW hW0 hown0 hgrow0
  generalize (((w2.alloc (.cells #[.slice (some ⟨G, 0, none⟩) 0 N] 26)).alloc (.cells #[.slice A N c] 51)).alloc (.cells #[.int .i64 b] 3)) = W0 at *
  generalize w2.heap.size = V at *
  refine wpIn_rangeFunc_ownG rfl h1 (gf := 109) (lb := #[.pointer (some ⟨V + 1, 0, none⟩), .pointer (some ⟨V + 1 + 1, 0, none⟩)]) rfl trivial (enters_of Tryz.func109 (by kernel_rfl) rfl)
    (vals_stops (5 - 1) (by omega) (V + 1) (V + 1 + 1) w.heap.size A N c b ws hb hN hws W0 (by omega) hBW.size bW0.cell bL (h.below hBW)) KpL.trans_ (KpL.put hBW.size (by omega)) (Below.refl _ _) (fun _ => rfl)
    (fun (pre : List Bool) W => (∃ v, Boxed W V 26 v ∧ W.ownsRow w.heap.size 4 1 v pre.length (pre.map boolv) ∧ True) ∧ (Below w.heap.size w W ∧ Boxed W (V + 1 + 1) 3 (.int .i64 b)))
    (fun _ _ _ => False)
    (OwnFrom.and (Own.from (holdsRow_own w.heap.size V 26 4 1 (fun pre : List Bool => pre.length) (fun pre : List Bool => pre.map boolv) (fun _ _ => True)) _) (OwnFrom.and (ownFrom_below (Nat.le_refl _) hBW.size) (fun s X Y row hs hg hr => hs.kept hg (fun e' => by
      obtain ⟨_, o, ho, hc⟩ := hr _ e'.symm
      rw [show X.heap[V + 1 + 1]? = _ from hs] at ho; cases ho; cases hc))))
    (fun _ _ _ _ _ hs _ _ => hs)
    ⟨⟨_, bV0, hown1, trivial⟩, hBW, bL⟩
    (fun x => { tmps := #[.slice A N c, .int .i64 b, undef, undef, .slice none 0 0, .int .i64 0, .int .i64 0, .pointer (some ⟨V, 0, none⟩), .bool x, .slice A N c, .int .i64 0, .int .i64 b, .int .i64 0, .slice (some ⟨w.heap.size, 0, none⟩) 2 2, .int .i64 0, .int .i64 0, .bool false, undef, .slice A N c, .int .i64 N, .slice (some ⟨G, 0, none⟩) 0 N, .slice A N c, .int .i64 b, .func (.func 109) #[] #[.pointer (some ⟨V + 1, 0, none⟩), .pointer (some ⟨V + 1 + 1, 0, none⟩)], .bool x, undef, undef, undef, undef, undef], defers := [] }) ?assign ?body ?done ?stop
  case assign =>
    intro l x W K hK
    gi_wp2
    exact hK
  case body =>
    rintro l pre x W ⟨⟨v, hv, hrow, _⟩, hB, hbl⟩ hlt
    have hc := hv.cell
    gi_wp2_with (gi_at_builtin; refine wpListIn_append_own _ rfl _ _ 26 rfl w.heap.size 4 i0 (.bool false) 1 1 Tryz.underlying26 hi hz0 hz1 hz2 rfl (by decide) _ _ _ rfl (hrow.alloc _) ⟨W.heap.size, 0, none⟩ 1 1 [.bool x] rfl rfl (cell_one_new _ _ _) (by simp [Value.oneCell']) (by unfold maxLen; omega) (by omega) (by have := hB.size; simp; omega) ?_; intro v' w1 hown' hgrow _; obtain ⟨g', cap', rfl⟩ := ownsRow_succ hown'; obtain ⟨hv1, hv2, hr2, hk2, hb2⟩ := hv.appended (by decide) hrow hB.size hsz2 hown' hgrow; have hbl1 := (hbl.alloc (.cells #[.bool x] 4)).kept hgrow (hbl.not_row (by decide) hrow); have hc1 := hv1.cell; have hf1 := hv1.frozen)
    have hbl2 := hbl1.kept (grownBy_setCell' w1 V (.slice (some ⟨g', 0, none⟩) (pre.length + 1) cap')) (by intro e; injection e with e; omega)
    exact ⟨hk2.from _, ⟨hb2, fun _ => hbl2.trans hbl.symm⟩, ⟨_, hv2, by simpa [boolv] using hr2, trivial⟩, hB.trans hb2, hbl2⟩
  case done =>
    rintro D ys W hD rfl ⟨⟨v, hv, hrow, _⟩, hB, hbl⟩ hK
    have hc := hv.cell
    have hlN : (bitL ws b).length = N := by unfold bitL; rw [List.length_map]; exact h.lenM
    rw [hlN] at hrow
    clear hlN
    gi_wp2
    refine ⟨by simp, .inl ⟨_, _, rfl, run_takeDeferred hK, ?_⟩⟩
    exact ⟨_, results_tmp2 rfl _ _ _, v, rfl, ownsRow_putObj hrow _ hK rfl, hB.trans (belowK_b (w := W0) hBW.size W D _ _ hD hK rfl rfl)⟩
  case stop =>
    rintro D c pre W _ _ h _
    exact h.elim

theorem line_ok (A : Option Addr) (N c b : Nat) (ws : List Nat) (w : World) (h : Reads w w.heap.size 1 A N (ws.map u16v)) (hws : ∀ x ∈ ws, x < 65536) (hN : N ≤ 4096) (hb : b < 16) :
    Calls Tryz.prog 29 #[.slice A N c, .int .i64 b] w fun e W' => ∃ v, e = .returned (.tuple #[v, .int .i64 0]) ∧ W'.ownsRow w.heap.size 4 1 v N ((bitL ws b).map boolv) ∧ Below w.heap.size w W' :=
  callsIn_wide.1 (line_in A N c b ws w h hws hN hb)

end Go.Proofs.YtboaojkblmddkaaGreatDoor
