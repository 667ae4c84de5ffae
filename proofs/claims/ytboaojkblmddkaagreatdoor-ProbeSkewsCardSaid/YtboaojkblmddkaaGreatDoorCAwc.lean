/- The contract of probe's Codes of valid samples. -/
import Derived.Test.YtboaojkblmddkaaGreatDoorCAw8
import Derived.Test.YtboaojkblmddkaaGreatDoorCTrn
import Derived.Test.YtboaojkblmddkaaGreatDoorCAd2
import Derived.Test.YtboaojkblmddkaaGreatDoorCCode
import Derived.IntWalk
import Derived.Test.YtboaojkblmddkaaGreatDoorCAw0
import Derived.Maps.AppendAt
import Derived.Deep.LoopGhost
namespace Go.Proofs.YtboaojkblmddkaaGreatDoor
open Go.RowKit Bn
open Flt

set_option maxHeartbeats 4000000 in
set_option maxRecDepth 100000 in
theorem Codes_ok (a : Nat) (st z : Int) (g o : ByteArray) (A : Option Addr) (n c : Nat) (l cs : List Nat) (w : World) (hT : Tabs w) (h : Conv a st z g o) (T : Nat) (hTa : 2 ^ a = T + 1)
    (hd : ∀ n c : Nat, n ≤ T → c < n → Op.floatEq .f32 (nomF st z n) (nomF st z c) = false)
    (hA : Reads w w.heap.size 1 A n (l.map f32v)) (hn : n ≤ 4096) (hf : ∀ x ∈ l, fin Ieee.single x = true) (hcl : cs.length = n)
    (hc : ∀ (i y k : Nat), l[i]? = some y → cs[i]? = some k → k ≤ T ∧ Op.floatEq .f32 y (nomF st z k) = true ∧ ∀ d, d < k → Op.floatEq .f32 y (nomF st z d) = false) :
    Calls Tryz.prog 51 #[.agg #[.int .i64 a, .int .i64 st, .int .i64 z, .string g, .string o], .slice A n c] w fun e w' =>
      ∃ b, e = .returned (.tuple #[.slice (some ⟨b, 0, none⟩) n n, .int .i64 0]) ∧ w.heap.size ≤ b ∧ w'.ownsRow b 3 1 (.slice (some ⟨b, 0, none⟩) n n) n (cs.map natv) ∧ Below w.heap.size w w' := by
  obtain ⟨i0, hi0, hz0, hz1, hz2⟩ := info_parts info_int
  have hb0 : Below w.heap.size w (w.alloc (.cells #[.int .i64 a, .int .i64 st, .int .i64 z, .string g, .string o] 91)) := (Below.refl _ _).alloc (Nat.le_refl _) _
  have q0 : CBlk (w.alloc (.cells #[.int .i64 a, .int .i64 st, .int .i64 z, .string g, .string o] 91)) w.heap.size #[.int .i64 a, .int .i64 st, .int .i64 z, .string g, .string o] 91 := CBlk.new w _ _ _ rfl
  have x0 := q0.cell 0
  have x1 := q0.cell 1
  have x2 := q0.cell 2
  have x3 := q0.cell 3
  have x4 := q0.cell 4
  have HC := Lib.hid (checkAdc_ok a st z g o _ (hT.later hb0) h)
  have HK := Lib.hid (fun W hA => ncheckSamples_ok A n c l W hA hf hn)
  have HM := Lib.hid (fun W => codesOfSamples_ok a st z g o W h T hTa hd)
  have HA := Lib.hid hA
  have HCS := Lib.hid hc
  have HCL := Lib.hid hcl
  have HN := Lib.hid hn
  have HL := Lib.hid hA.lenM
  clear h hA hf hc hcl hd hTa
  go_enter Tryz.func51, Tryz.ntmps51
  go_wp2_with fail
  generalize w.alloc (.cells #[.int .i64 a, .int .i64 st, .int .i64 z, .string g, .string o] 91) = w1 at *
  have hT1 := hT.later hb0
  refine HC.out.mono ?_
  rintro e w2 ⟨rfl, hb2⟩
  have q2 := q0.below hb2 q0.lt
  clear x0 x1 x2 x3 x4
  have hB2 := hb0.trans (hb2.mono hb0.size)
  go_wp2_with fail
  refine (HK.out w2 (HA.out.later hB2)).mono ?_
  rintro e w3 ⟨rfl, rfl⟩
  go_wp2_with fail
  refine (cfirst_two 0 0 w2 _ _ rfl).mono ?_
  rintro e w4 ⟨rfl, rfl⟩
  have hb4 : Below w2.heap.size w2 (w2.alloc (.cells #[.int .i64 0, .int .i64 0] 29)) := (Below.refl _ _).alloc (Nat.le_refl _) _
  generalize w2.alloc (.cells #[.int .i64 0, .int .i64 0] 29) = w4 at *
  have q4 := q2.below hb4 q2.lt
  have hB4 := hB2.trans (hb4.mono hB2.size)
  have x0 := q4.cell 0
  have x1 := q4.cell 1
  have x2 := q4.cell 2
  have x3 := q4.cell 3
  have x4 := q4.cell 4
  clear HC HK hb0 hb2 hb4 q0 q2 hT1 hB2
  go_wp2_with fail
  refine (HM.out w4).mono ?_
  rintro e w5 ⟨b, rfl, hb5l, hb5s, hm5, hb5⟩
  have hB5 := hB4.trans (hb5.mono hB4.size)
  have hbw : w.heap.size ≤ b := Nat.le_trans hB4.size hb5l
  clear x0 x1 x2 x3 x4 HM hb5 hb5l q4 hB4
  go_wp2_with (at_make; refine wpList_make_full _ rfl _ _ 34 rfl w5.heap.size 3 i0 (.int .i64 0) 1 Tryz.underlying34 hi0 hz0 hz1 _ _ _ _ n rfl rfl (by omega) (by omega) ?b2 ?b3 (Nat.le_refl _) ?_)
  case b2 => rw [hz2]; omega
  case b3 => unfold maxLen; omega
  intro w6 hown6 hgrow6
  rw [toList_madeCells_one] at hown6
  have hb6 : Below w5.heap.size w5 w6 := gnone hgrow6 (Nat.le_refl _)
  have hm6 := (hb6.block b hb5s).trans hm5
  have hB6 := hB5.trans (hb6.mono hB5.size)
  have hl6 : w.heap.size ≤ w5.heap.size := hB5.size
  generalize w5.heap.size = G at *
  clear hm5 hB5 hgrow6 hb6
  go_wp2_with fail
  go_loopg [29] n (fun m s W => ∃ k : Nat, k ≤ n ∧ s = .int .i64 k ∧ n - k ≤ m ∧ W.ownsRow G 3 1 (.slice (some ⟨G, 0, none⟩) n n) n ((cs.take k).map natv ++ List.replicate (n - k) (.int .i64 0)) ∧ W.heap[b]? = some (.map (fents (nomF st z) (T + 1)) (T + 1)) ∧ Below w.heap.size w W)
  case atStart => exact ⟨0, Nat.zero_le _, rfl, by omega, by rw [set_start]; simpa using hown6, hm6, hB6⟩
  case round =>
    obtain ⟨k, hk, rfl, hm, hown, hmr, hbel⟩ := hrel
    by_cases h0 : k < n
    · obtain ⟨ad, hkl, rfl, hbb, hcell⟩ := (HA.out.below hbel).cellM h0
      have hkc : k < cs.length := by have := HCL.out; omega
      obtain ⟨e1, e2, e3⟩ := HCS.out k l[k] cs[k] (List.getElem?_eq_getElem hkl) (List.getElem?_eq_getElem hkc)
      have HS := Lib.hid (set_step natv cs (.int .i64 0) n k hkc HCL.out)
      obtain ⟨v1, hc1⟩ := own_cell hown k h0
      have hf1 := own_free hown k
      unfold f32v at hcell
      generalize l[k] = x at *
      have hst := fun (W : World) (a : Addr) (m : _) => run_store Tryz.prog W a (.int .i64 (cs[k] : Int)) m rfl
      have HE1 := Lib.hid (show cs[k] < T + 1 from by omega)
      have HE2 := Lib.hid e2
      have HE3 := Lib.hid e3
      clear e1 e2 e3
      go_wp2_with (at_lookup; refine wpList_lookup_f32 _ rfl _ _ _ rfl _ _ und_map und_f32 b (T + 1) (nomF st z) rfl hmr x rfl cs[k] HE1.out HE2.out HE3.out ?_)
      go_roundg (n - (k + 1))
      case measure => omega
      case rel => exact ⟨k + 1, by omega, by go_num, Nat.le_refl _, by have h9 := own_set hown k (natv cs[k]); rw [HS.out] at h9; exact h9, (Below.heap_setCell wr ⟨G, k, none⟩ _ b (Nat.ne_of_lt hb5s)).trans hmr, hbel.setCell (p := ⟨G, k, none⟩) hl6 _⟩
    · obtain rfl : k = n := by omega
      have HS := Lib.hid (set_stop natv cs (.int .i64 0) k HCL.out)
      go_wp2_with fail
      go_ret2
      exact ⟨G, rfl, hl6, by rw [HS.out] at hown; exact hown, hbel⟩

end Go.Proofs.YtboaojkblmddkaaGreatDoor

/- Contracts of probe's checkRecords, checkSkews, commonTimes, of valid records and skews. -/
namespace Go.Proofs.YtboaojkblmddkaaGreatDoor
open Go.RowKit
open Flt

/-- valid records and skews -/
structure Valid (rows : List (List Nat)) (sk : List Int) : Prop where
  some_ : 1 ≤ rows.length
  few : rows.length ≤ 8
  len : ∀ r ∈ rows, r.length ≤ 4096
  fin : ∀ r ∈ rows, ∀ x ∈ r, fin Ieee.single x = true
  same : sk.length = rows.length
  small : ∀ s ∈ sk, -1000 ≤ s ∧ s ≤ 1000

theorem firstE_zeros (n : Nat) : firstE (List.replicate n 0) = 0 := by
  induction n with
  | zero => rfl
  | succ n ih => rw [List.replicate_succ]; unfold firstE; rw [if_neg (fun h => h rfl)]; exact ih
theorem ncs_enter (args : Array Value) (w : World) : (callFunc 58 args).run Tryz.prog w = .ok (.enter 58 args) w := by kernel_rfl
theorem csk_enter (args : Array Value) (w : World) : (callFunc 114 args).run Tryz.prog w = .ok (.enter 114 args) w := by kernel_rfl
theorem csk1_ok (s : Int) (w : World) (h1 : -1000 ≤ s) (h2 : s ≤ 1000) : Calls Tryz.prog 114 #[.int .i64 s] w fun e w' => e = .returned (.int .i64 0) ∧ w = w' := by
  have hR := cinRange_any s (-1000) 1000 w
  have e : rangeE s (-1000) 1000 = 0 := by unfold rangeE; rw [if_neg (by omega)]
  rw [e] at hR
  have HR := Lib.hid hR
  clear hR e
  go_enter Tryz.func114, Tryz.ntmps114
  go_wp2_with fail
  refine HR.out.mono ?_
  rintro e w1 ⟨rfl, rfl⟩
  go_wp2_with fail
  go_ret
  exact ⟨rfl, rfl⟩

theorem grown_self (w : World) (row : Option Nat) : w.grownBy w row := ⟨rfl, rfl, rfl, Nat.le_refl _, fun _ _ _ => rfl⟩

set_option maxHeartbeats 1000000 in
theorem checkRecords_ok (A : Option Addr) (n c : Nat) (rows : List (List Nat)) (w : World) (h : RowsR f32v w w.heap.size A n rows) (h1 : 1 ≤ n) (h8 : n ≤ 8) (hlen : ∀ r ∈ rows, r.length ≤ 4096) (hfin : ∀ r ∈ rows, ∀ x ∈ r, fin Ieee.single x = true) :
    Calls Tryz.prog 75 #[.slice A n c] w fun e w' => e = .returned (.int .i64 0) ∧ Below w.heap.size w w' := by
  have hd0 : ((n : Int) == 0) = false := by rw [beq_eq_false_iff_ne]; omega
  have e1 : (if (8 : Int) < (n : Int) then (5 : Int) else 0) = 0 := if_neg (by omega)
  have H1 := catMost_floats A n c 8 w
  rw [e1] at H1
  have K1 := Lib.hid H1
  obtain ⟨hl, vs, hr, hv⟩ := h
  have HT := trn_se 58 #[] none (fun _ _ => True) A n c vs (List.replicate n 0) w ncs_enter (by omega) hr (by simp) (fun b hb => by cases hb) trivial (fun _ _ _ _ _ => trivial) (by
    intro W i x y hi hg _ hx hy
    rw [List.getElem?_replicate, if_pos hi] at hy
    injection hy with hy
    subst hy
    obtain ⟨A', c', h2, h3, h4, h5⟩ := hv i (by omega)
    rw [hx] at h2
    injection h2 with h2
    subst h2
    have hm := List.getElem_mem (l := rows) (n := i) (by omega)
    have hc := ncheckSamples_ok A' rows[i].length c' rows[i] W (h5.later (gnone hg (Nat.le_refl _))) (hfin _ hm) (hlen _ hm)
    refine hc.mono ?_
    rintro e w' ⟨rfl, rfl⟩
    exact ⟨rfl, grown_self _ _, trivial⟩)
  have K2 := Lib.hid HT
  clear H1 HT e1 hr hv hl hlen hfin
  go_enter Tryz.func75, Tryz.ntmps75
  go_wp2_with fail
  refine K1.out.mono ?_
  rintro e w1 ⟨rfl, rfl⟩
  go_wp2_with fail
  refine K2.out.mono ?_
  rintro e w1 ⟨rfl, ho, hg, _⟩
  have hf := cfirst_any (some ⟨w.heap.size, 0, none⟩) n n (List.replicate n 0) w1 (Reads.of_own ho) (by unfold maxLen; omega)
  rw [firstE_zeros] at hf
  have K3 := Lib.hid hf
  clear hf ho
  have hb := gnone hg (Nat.le_refl _)
  clear hg
  go_wp2_with fail
  refine K3.out.mono ?_
  rintro e w2 ⟨rfl, rfl⟩
  go_wp2_with fail
  go_ret
  exact ⟨rfl, hb⟩

set_option maxHeartbeats 1000000 in
theorem checkSkews_ok (A : Option Addr) (n c : Nat) (sk : List Int) (w : World) (h : Reads w w.heap.size 1 A n (sk.map i64v)) (hn : n ≤ 8) (hs : ∀ s ∈ sk, -1000 ≤ s ∧ s ≤ 1000) :
    Calls Tryz.prog 76 #[.slice A n c, .int .i64 n] w fun e w' => e = .returned (.int .i64 0) ∧ Below w.heap.size w w' := by
  have hd0 : ((n : Int) != (n : Int)) = false := by simp
  have HT := trn_ie 114 #[] none (fun _ _ => True) A n c (sk.map i64v) (List.replicate n 0) w csk_enter (by omega) h (by simp) (fun b hb => by cases hb) trivial (fun _ _ _ _ _ => trivial) (by
    intro W i x y hi hg _ hx hy
    rw [List.getElem?_replicate, if_pos hi] at hy
    injection hy with hy
    subst hy
    have hil : i < sk.length := by have := h.lenM; omega
    rw [List.getElem?_map, List.getElem?_eq_getElem hil] at hx
    injection hx with hx
    subst hx
    have hm := hs _ (List.getElem_mem hil)
    refine (csk1_ok sk[i] W hm.1 hm.2).mono ?_
    rintro e w' ⟨rfl, rfl⟩
    exact ⟨rfl, grown_self _ _, trivial⟩)
  have K2 := Lib.hid HT
  clear HT h hs
  go_enter Tryz.func76, Tryz.ntmps76
  go_wp2_with fail
  refine K2.out.mono ?_
  rintro e w1 ⟨rfl, ho, hg, _⟩
  have hf := cfirst_any (some ⟨w.heap.size, 0, none⟩) n n (List.replicate n 0) w1 (Reads.of_own ho) (by unfold maxLen; omega)
  rw [firstE_zeros] at hf
  have K3 := Lib.hid hf
  clear hf ho
  have hb := gnone hg (Nat.le_refl _)
  clear hg
  go_wp2_with fail
  refine K3.out.mono ?_
  rintro e w2 ⟨rfl, rfl⟩
  go_wp2_with fail
  go_ret
  exact ⟨rfl, hb⟩

/-- the first time at which all records have a sample; the time behind the last one -/
def frT (sk : List Int) : Int := sk.foldl (fun a s => max a (-s)) (-1000)
def toT (rows : List (List Nat)) (sk : List Int) : Int := (rows.zip sk).foldl (fun a p => min a ((p.1.length : Int) - p.2)) 5096

set_option maxHeartbeats 1000000 in
theorem commonTimes_ok (A A' : Option Addr) (n c c' : Nat) (rows : List (List Nat)) (sk : List Int) (w : World) (h : RowsR f32v w w.heap.size A n rows) (h' : Reads w w.heap.size 1 A' n (sk.map i64v)) (hn : n ≤ 8) (hlen : ∀ r ∈ rows, r.length ≤ 4096) (hs : ∀ s ∈ sk, -1000 ≤ s ∧ s ≤ 1000) :
    Calls Tryz.prog 77 #[.slice A n c, .slice A' n c'] w fun e w' => e = .returned (.tuple #[.int .i64 (frT sk), .int .i64 (toT rows sk)]) ∧ w = w' := by
  have hl := h.1
  have hl' := h'.lenM
  have HL := Lib.hid hl
  have HL' := Lib.hid hl'
  have HLEN := Lib.hid hlen
  have HS := Lib.hid hs
  clear hl hl' hlen hs
  go_enter Tryz.func77, Tryz.ntmps77
  go_wp2
  go_loop [6, 7, 12] (fun p q s => ∃ k : Nat, k ≤ n ∧ s = .int .i64 k ∧ ∃ a b : Int, p = .int .i64 a ∧ q = .int .i64 b ∧ Hid (a = frT (sk.take k)) ∧ Hid (b = toT (rows.take k) (sk.take k)) ∧ -1000 ≤ a ∧ a ≤ 1000 ∧ -1000 ≤ b ∧ b ≤ 5096) (fun _ _ s => n - (intOf s).toNat)
  case atStart => exact ⟨0, Nat.zero_le _, rfl, -1000, 5096, rfl, rfl, by simp [Hid, frT], by simp [Hid, toT], by omega, by omega, by omega, by omega⟩
  case round =>
    obtain ⟨k, hk, rfl, a, b, rfl, rfl, ha, hb, a1, a2, b1, b2⟩ := hrel
    by_cases h0 : k < n
    · obtain ⟨ad, hkl, A1, c1, rfl, hbb, hcell, hlc, hcm, hrd⟩ := h.row h0
      obtain ⟨ad', hkl', rfl, hbb', hcell'⟩ := h'.cellM h0
      have hL := HLEN.out rows[k] (List.getElem_mem hkl)
      have hS := HS.out sk[k] (List.getElem_mem hkl')
      have hfa : frT (sk.take (k + 1)) = max a (-sk[k]) := by
        unfold frT at ha ⊢
        rw [List.take_succ_eq_append_getElem hkl', List.foldl_append, ← ha.out]; rfl
      have hfb : toT (rows.take (k + 1)) (sk.take (k + 1)) = min b ((rows[k].length : Int) - sk[k]) := by
        unfold toT at hb ⊢
        rw [List.take_succ_eq_append_getElem hkl', List.take_succ_eq_append_getElem hkl, List.zip_append (by rw [List.length_take, List.length_take]; omega), List.foldl_append, ← hb.out]; rfl
      unfold i64v at hcell'
      generalize rows[k].length = L at *
      generalize sk[k] = s at *
      have HFA := Lib.hid hfa
      have HFB := Lib.hid hfb
      clear hfa hfb
      go_wp2
      go_round
      case rel =>
        exact ⟨k + 1, by omega, by go_num, _, _, rfl, rfl, HFA.out.symm, HFB.out.symm, by omega, by omega, by omega, by omega⟩
      case measure => simp [intOf]; omega
    · obtain rfl : k = n := by omega
      have h5 := ha.out
      have h6 := hb.out
      have t1 : sk.take k = sk := List.take_of_length_le (by rw [HL'.out]; exact Nat.le_refl _)
      have t2 : rows.take k = rows := List.take_of_length_le (by rw [HL.out]; exact Nat.le_refl _)
      rw [t1] at h5 h6
      rw [t2] at h6
      clear t1 t2
      have H5 := Lib.hid h5
      have H6 := Lib.hid h6
      clear h5 h6
      go_wp2
      go_ret2
      exact ⟨by rw [← H5.out, ← H6.out]; rfl, rfl⟩

/-! ### bounds of the common times -/
theorem frT_ge (sk : List Int) : ∀ s ∈ sk, -s ≤ frT sk := by
  have h : ∀ (l : List Int) (a : Int), a ≤ l.foldl (fun a s => max a (-s)) a ∧ ∀ s ∈ l, -s ≤ l.foldl (fun a s => max a (-s)) a := by
    intro l
    induction l with
    | nil => intro a; exact ⟨Int.le_refl _, fun s hs => by cases hs⟩
    | cons x t ih =>
      intro a
      rw [List.foldl_cons]
      obtain ⟨h1, h2⟩ := ih (max a (-x))
      refine ⟨by omega, fun s hs => ?_⟩
      rcases List.mem_cons.1 hs with rfl | hs
      · omega
      · exact h2 s hs
  exact (h sk (-1000)).2
theorem frT_bd (sk : List Int) (hs : ∀ s ∈ sk, -1000 ≤ s ∧ s ≤ 1000) : -1000 ≤ frT sk ∧ frT sk ≤ 1000 := by
  have h : ∀ (l : List Int) (a : Int), (∀ s ∈ l, -1000 ≤ s ∧ s ≤ 1000) → -1000 ≤ a → a ≤ 1000 → -1000 ≤ l.foldl (fun a s => max a (-s)) a ∧ l.foldl (fun a s => max a (-s)) a ≤ 1000 := by
    intro l
    induction l with
    | nil => intro a _ h1 h2; exact ⟨h1, h2⟩
    | cons x t ih =>
      intro a hl h1 h2
      rw [List.foldl_cons]
      have := hl x (by simp)
      exact ih _ (fun s hs => hl s (by simp [hs])) (by omega) (by omega)
  exact h sk (-1000) hs (by omega) (by omega)
theorem toT_le (rows : List (List Nat)) (sk : List Int) (hl : sk.length = rows.length) (i : Nat) (h : i < rows.length) (h2 : i < sk.length) : toT rows sk ≤ (rows[i].length : Int) - sk[i] := by
  have hg : ∀ (l : List (List Nat × Int)) (a : Int), l.foldl (fun a p => min a ((p.1.length : Int) - p.2)) a ≤ a ∧ ∀ p ∈ l, l.foldl (fun a p => min a ((p.1.length : Int) - p.2)) a ≤ (p.1.length : Int) - p.2 := by
    intro l
    induction l with
    | nil => intro a; exact ⟨Int.le_refl _, fun s hs => by cases hs⟩
    | cons x t ih =>
      intro a
      rw [List.foldl_cons]
      obtain ⟨h1, h2⟩ := ih (min a ((x.1.length : Int) - x.2))
      refine ⟨by omega, fun s hs => ?_⟩
      rcases List.mem_cons.1 hs with rfl | hs
      · omega
      · exact h2 s hs
  have hm : (rows[i], sk[i]) ∈ rows.zip sk := by
    rw [List.mem_iff_getElem]
    exact ⟨i, by rw [List.length_zip]; omega, by rw [List.getElem_zip]⟩
  exact (hg (rows.zip sk) 5096).2 _ hm
theorem toT_bd (rows : List (List Nat)) (sk : List Int) : toT rows sk ≤ 5096 := by
  have hg : ∀ (l : List (List Nat × Int)) (a : Int), l.foldl (fun a p => min a ((p.1.length : Int) - p.2)) a ≤ a := by
    intro l
    induction l with
    | nil => intro a; exact Int.le_refl _
    | cons x t ih =>
      intro a
      rw [List.foldl_cons]
      have := ih (min a ((x.1.length : Int) - x.2))
      omega
  exact hg _ _

/-- one aligned record -/
def alg1 (fr tt : Int) (r : List Nat) (s : Int) : List Nat := ((r.drop (fr + s).toNat).take (tt - fr).toNat).map posz
/-- the aligned records -/
def algR (rows : List (List Nat)) (sk : List Int) : List (List Nat) := List.zipWith (alg1 (frT sk) (toT rows sk)) rows sk

end Go.Proofs.YtboaojkblmddkaaGreatDoor

/- A growing slice of rows that are one's own. -/
namespace Go.Proofs.YtboaojkblmddkaaGreatDoor
open Go.RowKit

def Grow {α : Type} (f : α → Value) (tS tE : TypeId) (W : World) (B : Nat) (v : Value) (n : Nat) (rows : List (List α)) : Prop :=
  rows.length = n ∧ ∃ vs : List Value, W.ownsRow B tS 1 v n vs ∧ ∀ i (h : i < rows.length), ∃ u, vs[i]? = some u ∧ W.ownsRow B tE 1 u rows[i].length (rows[i].map f)

section
variable {α : Type} {f : α → Value} {tS tE : TypeId} {W W' : World} {B n : Nat} {v : Value} {rows : List (List α)}

theorem Grow.nil : Grow f tS tE W B (.slice none 0 0) 0 ([] : List (List α)) :=
  ⟨rfl, [], ⟨rfl, .inl ⟨rfl, rfl⟩⟩, fun i hi => absurd hi (by simp)⟩
theorem own_belw {w w' : World} {base size n : Nat} {e : TypeId} {v : Value} {xs : List Value} (h : w.ownsRow base e size v n xs) (hb : Below w.heap.size w w') : w'.ownsRow base e size v n xs :=
  h.kept (only_of_below hb none) (by cases v.ownBlock <;> simp)
theorem Grow.below (h : Grow f tS tE W B v n rows) (hb : Below W.heap.size W W') : Grow f tS tE W' B v n rows := by
  obtain ⟨hl, vs, ho, hv⟩ := h
  exact ⟨hl, vs, own_belw ho hb, fun i hi => by
    obtain ⟨u, h1, h2⟩ := hv i hi
    exact ⟨u, h1, own_belw h2 hb⟩⟩
theorem own_apart {w : World} {b1 b2 s1 s2 n1 n2 : Nat} {e1 e2 : TypeId} {v1 v2 : Value} {x1 x2 : List Value} (h1 : w.ownsRow b1 e1 s1 v1 n1 x1) (h2 : w.ownsRow b2 e2 s2 v2 n2 x2) (hne : e1 ≠ e2) : v1.ownBlock = none ∨ v1.ownBlock ≠ v2.ownBlock := by
  rcases h1.2 with ⟨rfl, _⟩ | ⟨g, cap, cur, rfl, hb, hg, _⟩
  · exact .inl rfl
  · right
    rcases h2.2 with ⟨rfl, _⟩ | ⟨g', cap', cur', rfl, hb', hg', _⟩
    · simp [Value.ownBlock]
    · intro e
      have e' : g = g' := by simpa [Value.ownBlock] using e
      subst e'
      rw [hg] at hg'
      injection hg' with hg'
      injection hg' with _ h3
      exact hne h3
/-- one row more -/
theorem Grow.snoc {v' u : Value} {r : List α} {vs : List Value} (h : rows.length = n) (hown : W.ownsRow B tS 1 v n vs) (hin : ∀ i (h : i < rows.length), ∃ u, vs[i]? = some u ∧ W.ownsRow B tE 1 u rows[i].length (rows[i].map f))
    (hu : W.ownsRow B tE 1 u r.length (r.map f)) (ht : tE ≠ tS) (hg : W.grownBy W' v.ownBlock) (ho' : W'.ownsRow B tS 1 v' (n + 1) (vs ++ [u])) : Grow f tS tE W' B v' (n + 1) (rows ++ [r]) := by
  refine ⟨by rw [List.length_append, h]; rfl, _, ho', fun i hi => ?_⟩
  have hvl : vs.length = n := by have := hown.1; omega
  by_cases hlt : i < rows.length
  · obtain ⟨u', h1, h2⟩ := hin i hlt
    rw [List.getElem_append_left hlt, List.getElem?_append_left (by omega)]
    exact ⟨u', h1, h2.kept hg (own_apart h2 hown ht)⟩
  · have e : i = rows.length := by rw [List.length_append] at hi; simp at hi; omega
    subst e
    rw [List.getElem_append_right (Nat.le_refl _), List.getElem?_append_right (by omega)]
    simp only [h, hvl, Nat.sub_self, List.getElem_singleton]
    exact ⟨u, rfl, hu.kept hg (own_apart hu hown ht)⟩
theorem Grow.rowsR (h : Grow f tS tE W B v n rows) : ∃ A c, v = .slice A n c ∧ n ≤ c ∧ c ≤ maxLen ∧ RowsR f W W.heap.size A n rows := by
  obtain ⟨hl, vs, ho, hv⟩ := h
  obtain ⟨A, c, rfl, h1, h2, h3⟩ := own_slice ho
  refine ⟨A, c, rfl, h1, h2, hl, vs, h3, fun i hi => ?_⟩
  obtain ⟨u, h4, h5⟩ := hv i hi
  obtain ⟨A', c', rfl, h6, h7, h8⟩ := own_slice h5
  exact ⟨A', c', h4, h6, h7, h8⟩
end

theorem own_empty (w : World) (B : Nat) (e : TypeId) (hB : B ≤ w.heap.size) : (w.alloc (.cells #[] e)).ownsRow B e 1 (.slice (some ⟨w.heap.size, 0, none⟩) 0 0) 0 [] :=
  own_of_block (heap_alloc_new w _) hB (Nat.zero_le _) rfl

end Go.Proofs.YtboaojkblmddkaaGreatDoor

/- The contract of probe's ranges at the example's codes. -/
namespace Go.Proofs.YtboaojkblmddkaaGreatDoor
open Go.RowKit Bn
open Flt

theorem info_pair : (Tryz.prog.info? 87).map (fun i => (i.zero, i.size, i.bytes)) = some (some (.agg #[.int .i64 0, .int .i64 0]), 2, 16) := by kernel_rfl

theorem cell_two_new (w : World) (x y : Value) (t : TypeId) : ∀ j u, [x, y][j]? = some u → (w.alloc (.cells #[x, y] t)).cell? ((⟨w.heap.size, 0, none⟩ : Addr).add j) = some u := by
  intro j u hu
  have h := (Reads.lit w [x, y] t).2 (by simp)
  obtain ⟨ad, e, _, hc⟩ := h
  cases e
  exact hc j u hu

theorem aw_isEnd (c : Int) (b : Bool) (hb : decide (c = 0 ∨ c = ((2 ^ 8 - 1 : Nat) : Int)) = b) (W : World) :
    Calls Tryz.prog 92 #[.agg #[.int .i64 8, .int .i64 (-3), .int .i64 128, .string { data := #[49] }, .string { data := #[48] }], .int .i64 c] W fun e w' => e = .returned (.bool b) ∧ Below W.heap.size W w' := by
  rw [← hb]
  exact isEnd_any 8 (-3) 128 c (.string { data := #[49] }) (.string { data := #[48] }) W (by decide)

set_option maxHeartbeats 4000000 in
set_option maxRecDepth 100000 in
theorem aw_ranges (b c : Nat) (w : World) (h : Reads w w.heap.size 1 (some ⟨b, 0, none⟩) 5 ([0, 128, 129, 255, 255].map natv)) :
    Calls Tryz.prog 91 #[.slice (some ⟨b, 0, none⟩) 5 c, .func (.func 92) #[.agg #[.int .i64 8, .int .i64 (-3), .int .i64 128, .string { data := #[49] }, .string { data := #[48] }]] #[]] w fun e w' =>
      ∃ v, e = .returned v ∧ w'.ownsRow w.heap.size 87 2 v 2 [.int .i64 0, .int .i64 1, .int .i64 3, .int .i64 5] ∧ Below w.heap.size w w' := by
  obtain ⟨i0, hi0, hz0, hz1, hz2⟩ := info_parts info_pair
  obtain ⟨ad, had, hbd, hce⟩ := h.2 (by omega)
  cases had
  have c0 : w.cell? ⟨b, 0, none⟩ = some (.int .i64 0) := hce 0 (.int .i64 0) rfl
  have c1 : w.cell? ⟨b, 1, none⟩ = some (.int .i64 128) := hce 1 (.int .i64 128) rfl
  have c2 : w.cell? ⟨b, 2, none⟩ = some (.int .i64 129) := hce 2 (.int .i64 129) rfl
  have c3 : w.cell? ⟨b, 3, none⟩ = some (.int .i64 255) := hce 3 (.int .i64 255) rfl
  have c4 : w.cell? ⟨b, 4, none⟩ = some (.int .i64 255) := hce 4 (.int .i64 255) rfl
  have eg : ∀ args w, (callFunc 92 args).run Tryz.prog w = .ok (.enter 92 args) w := fun _ _ => by kernel_rfl
  have E0 := Lib.hid (aw_isEnd 0 true (by decide))
  have E1 := Lib.hid (aw_isEnd 128 false (by decide))
  have E2 := Lib.hid (aw_isEnd 129 false (by decide))
  have E3 := Lib.hid (aw_isEnd 255 true (by decide))
  clear h
  go_enter Tryz.func91, Tryz.ntmps91
  go_wp2
  go_step3
  go_wp2
  go_step3
  go_wp2
  go_loopg [6, 5] 3 (fun m f v W => Below w.heap.size w W ∧ ((f = .int .i64 0 ∧ v = .slice none 0 0 ∧ 3 ≤ m) ∨ (f = .int .i64 2 ∧ W.ownsRow w.heap.size 87 2 v 1 [.int .i64 0, .int .i64 1] ∧ 2 ≤ m) ∨ (f = .int .i64 3 ∧ W.ownsRow w.heap.size 87 2 v 1 [.int .i64 0, .int .i64 1] ∧ 1 ≤ m)))
  case atStart => exact ⟨Below.refl _ _, Or.inl ⟨rfl, rfl, Nat.le_refl _⟩⟩
  case round =>
    obtain ⟨hbel, (⟨rfl, rfl, hm⟩ | ⟨rfl, hown, hm⟩ | ⟨rfl, hown, hm⟩)⟩ := hrel
    · have d0 := (hbel.cell (p := ⟨b, 0, none⟩) hbd).trans c0
      go_wp2_with (go_at_fn 92; refine (E0.out _).mono ?_; rintro e w1 ⟨rfl, hb1⟩)
      have hB1 := hbel.trans (hb1.mono hbel.size)
      clear d0 hb1
      go_loopg [6, 7, 5] 1 (fun m' f s v W => f = .int .i64 0 ∧ s = .int .i64 1 ∧ v = .slice none 0 0 ∧ Below w.heap.size w W)
      case atStart => exact ⟨rfl, rfl, rfl, hB1⟩
      case round =>
        obtain ⟨rfl, rfl, rfl, hbel2⟩ := hrel
        have d1 := (hbel2.cell (p := ⟨b, 1, none⟩) hbd).trans c1
        go_wp2_with (first
          | (go_at_fn 92; refine (E1.out _).mono ?_; rintro e w2 ⟨rfl, hb2⟩)
          | (at_builtin; refine wpList_append_own _ rfl _ _ 86 rfl w.heap.size 87 i0 (.agg #[.int .i64 0, .int .i64 0]) 2 16 Tryz.underlying86 hi0 hz0 hz1 hz2 rfl (by decide) _ _ _ rfl (World.ownsRow_nil _ _ _ _) ⟨w2.heap.size, 0, none⟩ 1 1 [.int .i64 0, .int .i64 1] rfl rfl ?a1 ?a2 ?a3 ?a4 ?a5 ?_))
        case a1 => exact cell_two_new _ _ _ _
        case a2 => intro u hu; simp at hu; rcases hu with rfl | rfl <;> rfl
        case a3 => unfold maxLen; omega
        case a4 => omega
        case a5 => have := (hbel2.trans (hb2.mono hbel2.size)).size; simp; omega
        intro v3 w3 hown3 hgrow3 _
        have hB2 := hbel2.trans (hb2.mono hbel2.size)
        have hB3 : Below w.heap.size w w3 := (hB2.alloc hB2.size _).grown hgrow3 (by have := hB2.size; simp; omega) (fun g hg => by simp [Value.ownBlock] at hg)
        go_wp2
        go_roundg 2
        case measure => omega
        case rel => exact ⟨hB3, Or.inr (Or.inl ⟨rfl, hown3, Nat.le_refl _⟩)⟩
    · have d2 := (hbel.cell (p := ⟨b, 2, none⟩) hbd).trans c2
      go_wp2_with (go_at_fn 92; refine (E2.out _).mono ?_; rintro e w2 ⟨rfl, hb2⟩)
      have hB2 := hbel.trans (hb2.mono hbel.size)
      have hown2 := own_belw hown hb2
      go_roundg 1
      case measure => omega
      case rel => exact ⟨hB2, Or.inr (Or.inr ⟨rfl, hown2, Nat.le_refl _⟩)⟩
    · have d3 := (hbel.cell (p := ⟨b, 3, none⟩) hbd).trans c3
      go_wp2_with (go_at_fn 92; refine (E3.out _).mono ?_; rintro e w2 ⟨rfl, hb2⟩)
      have hB2 := hbel.trans (hb2.mono hbel.size)
      have hown2 := own_belw hown hb2
      clear d3 hb2 hown
      go_loopg [6, 7, 5] 2 (fun m' f s v W => f = .int .i64 3 ∧ ((s = .int .i64 4 ∧ 1 ≤ m') ∨ s = .int .i64 5) ∧ W.ownsRow w.heap.size 87 2 v 1 [.int .i64 0, .int .i64 1] ∧ Below w.heap.size w W)
      case atStart => exact ⟨rfl, Or.inl ⟨rfl, by omega⟩, hown2, hB2⟩
      case round =>
        obtain ⟨rfl, (⟨rfl, hm'⟩ | rfl), hown3, hbel3⟩ := hrel
        · have d4 := (hbel3.cell (p := ⟨b, 4, none⟩) hbd).trans c4
          go_wp2_with (go_at_fn 92; refine (E3.out _).mono ?_; rintro e w4 ⟨rfl, hb4⟩)
          have hB4 := hbel3.trans (hb4.mono hbel3.size)
          have hown4 := own_belw hown3 hb4
          go_roundg 0
          case measure => omega
          case rel => exact ⟨rfl, Or.inr rfl, hown4, hB4⟩
        · go_wp2_with (at_builtin; refine wpList_append_own _ rfl _ _ 86 rfl w.heap.size 87 i0 (.agg #[.int .i64 0, .int .i64 0]) 2 16 Tryz.underlying86 hi0 hz0 hz1 hz2 rfl (by decide) _ _ _ rfl (hown3.alloc _) ⟨wr.heap.size, 0, none⟩ 1 1 [.int .i64 3, .int .i64 5] rfl rfl ?b1 ?b2 ?b3 ?b4 ?b5 ?_)
          case b1 => exact cell_two_new _ _ _ _
          case b2 => intro u hu; simp at hu; rcases hu with rfl | rfl <;> rfl
          case b3 => unfold maxLen; omega
          case b4 => omega
          case b5 => have := hbel3.size; simp; omega
          intro v5 w5 hown5 hgrow5 _
          have hB5 : Below w.heap.size w w5 := (hbel3.alloc hbel3.size _).grown hgrow5 (by have := hbel3.size; simp; omega) (fun g hg => (World.ownsRow.lt hown3 g hg).1)
          go_wp2
          try rw [Exit.noGoto_ret]
          go_ret
          exact ⟨_, rfl, hown5, hB5⟩

end Go.Proofs.YtboaojkblmddkaaGreatDoor
