/- ProbeWords: where a guard strikes. -/
import Derived.Test.YtboaojkblmddkaaGreatDoorAgCxLin
import Derived.Test.YtboaojkblmddkaaGreatDoorAgCxLn1
import Derived.Test.YtboaojkblmddkaaGreatDoorCAwb
import Derived.Test.YtboaojkblmddkaaGreatDoorCAwj
import Derived.Test.YtboaojkblmddkaaGreatDoorCards
import Derived.Test.YtboaojkblmddkaaGreatDoorTie
import Derived.Test.YtboaojkblmddkaaGreatDoorCTog3
import Derived.WalkKit
import Derived.ProofKit
import Derived.OpenShut
import Derived.Deep.DeepHandedRow
import Derived.Lib.LaidTab
import Derived.Lib.SmallJoins
import Derived.Stop.LaidErr
import Derived.WideKeyArgs
namespace Go.Proofs.YtboaojkblmddkaaGreatDoor
open Go.RowKit Bn

/-- is a length one that the law takes -/
def LenOk (k : Nat) (n : Int) : Prop := (k : Int) ≤ n ∨ 4096 < (k : Int) ∧ (k : Int) ≤ 4098
instance (k : Nat) (n : Int) : Decidable (LenOk k n) := by unfold LenOk; exact inferInstance

set_option maxHeartbeats 2000000 in
set_option maxRecDepth 100000 in
/-- a guard of the law turns the input away -/
theorem words_turned (A A' : Option Addr) (n c N c' : Nat) (b : Int) (rows : List (List Bool)) (w : World) (KV : AwakeOk) (hT : Tabs w) (h : RowsR boolv w w.heap.size A n rows) (hn : n ≤ maxLen)
    (hg : 18 < n ∨ ¬ LenOk N 64 ∨ ∃ r ∈ rows, ¬ LenOk r.length 40) :
    Calls Tryz.prog 5 #[.slice A n c, .slice A' N c', .int .i64 b] w fun e w' => e = .returned (.bool true) ∧ Below w.heap.size w w' := by
  have HLE := Lib.hid (fun W => rLength_any N 64 W)
  have HL4 := Lib.hid (fun (k : Nat) W => rLength_any k 40 W)
  have KV := Lib.hid KV
  unfold maxLen at hn
  by_cases h1 : 18 < n
  · have d1 : decide ((18 : Int) < (n : Int)) = true := by simpa using (show (18 : Int) < n from by omega)
    clear hg h HLE HL4
    go_enter Tryz.func5, Tryz.ntmps5
    go_wp2_with fail
    refine (KV.out _ hT).mono ?_
    rintro e w2 ⟨rfl, hb2⟩
    go_wp2_with fail
    go_ret
    exact ⟨rfl, hb2⟩
  · have d1 : decide ((18 : Int) < (n : Int)) = false := by simpa using (show ¬ ((18 : Int) < n) from by omega)
    by_cases h2 : LenOk N 64
    · obtain ⟨r, hr, hrl⟩ := (hg.resolve_left h1).resolve_left (fun h => h h2)
      unfold LenOk at h2
      rw [decide_eq_true h2] at HLE
      have HBAD : Hid (∃ i, ∃ h : i < rows.length, ¬ LenOk rows[i].length 40) := by
        obtain ⟨i, hi, rfl⟩ := List.mem_iff_getElem.1 hr
        exact ⟨i, hi, hrl⟩
      have HLN := Lib.hid h.1
      clear hg hr hrl h2
      go_enter Tryz.func5, Tryz.ntmps5
      go_wp2_with fail
      refine (HLE.out w).mono ?_
      rintro e w1 ⟨rfl, rfl⟩
      go_wp2
      go_loopg [29] n (fun q s W => ∃ k : Nat, k ≤ n ∧ s = .int .i64 k ∧ n - k ≤ q ∧ Hid (∀ (i : Nat) (hi : i < rows.length), i < k → LenOk rows[i].length 40) ∧ W = w)
      case atStart => exact ⟨0, Nat.zero_le _, rfl, by omega, fun i hi h => absurd h (by omega), rfl⟩
      case round =>
        obtain ⟨k, hk, rfl, hq, hf, hW⟩ := hrel
        subst hW
        by_cases h0 : k < n
        · obtain ⟨ad, hkl, A1, c1, rfl, hbb, hcell, hlc, hcm, hrd⟩ := h.row h0
          have HNX := Lib.hid (fun (e : LenOk rows[k].length 40) => show ∀ (i : Nat) (hi : i < rows.length), i < k + 1 → LenOk rows[i].length 40 from fun i hi hik => by
            rcases Nat.lt_or_ge i k with h9 | h9
            · exact hf.out i hi h9
            · obtain rfl : i = k := by omega
              exact e)
          clear hrd hf
          generalize rows[k].length = L at *
          by_cases he : LenOk L 40
          · have HN2 := Lib.hid (HNX.out he)
            have HC := HL4.out L wr
            unfold LenOk at he
            rw [decide_eq_true he] at HC
            have HC := Lib.hid HC
            clear he
            go_wp2_with fail
            refine HC.out.mono ?_
            rintro e w1 ⟨rfl, rfl⟩
            go_wp2
            go_roundg (n - (k + 1))
            case measure => omega
            case rel => exact ⟨k + 1, by omega, by go_num, Nat.le_refl _, HN2.out, rfl⟩
          · have HC := HL4.out L wr
            unfold LenOk at he
            rw [decide_eq_false he] at HC
            have HC := Lib.hid HC
            clear he
            go_wp2_with fail
            refine HC.out.mono ?_
            rintro e w1 ⟨rfl, rfl⟩
            go_wp2_with fail
            refine (KV.out _ hT).mono ?_
            rintro e w2 ⟨rfl, hb2⟩
            go_wp2_with fail
            go_ret
            exact ⟨rfl, hb2⟩
        · exact absurd HBAD.out (fun ⟨i, hi, hb⟩ => hb (hf.out i hi (by have := HLN.out; omega)))
    · have h2' := h2
      unfold LenOk at h2
      rw [decide_eq_false h2] at HLE
      clear hg h h2 h2' HL4
      go_enter Tryz.func5, Tryz.ntmps5
      go_wp2_with fail
      refine (HLE.out w).mono ?_
      rintro e w1 ⟨rfl, rfl⟩
      go_wp2_with fail
      refine (KV.out _ hT).mono ?_
      rintro e w2 ⟨rfl, hb2⟩
      go_wp2_with fail
      go_ret
      exact ⟨rfl, hb2⟩

end Go.Proofs.YtboaojkblmddkaaGreatDoor

/- ProbeAligns: copies of records, records equal up to the sign of zero, Aligned of any arguments; where a guard strikes. -/
namespace Go.Proofs.YtboaojkblmddkaaGreatDoor
open Go.RowKit Bn
open Flt

set_option maxHeartbeats 2000000 in
/-- a copy of samples -/
theorem floats_own (A : Option Addr) (n c : Nat) (l : List Nat) (w : World) (h : Reads w w.heap.size 1 A n (l.map f32v)) (hn : n ≤ 140737488355328 / 8) (hc : A = none → c = 0) :
    Calls Tryz.prog 14 #[.slice A n c] w fun e w' => ∃ v, e = .returned v ∧ w'.ownsRow w.heap.size 23 1 v n (l.map f32v) ∧ Below w.heap.size w w' := by
  have hL := h.lenM
  have hbA : Below w.heap.size w (w.alloc (.cells #[] 23)) := (Below.refl _ _).alloc (Nat.le_refl _) _
  cases A with
  | none =>
    obtain rfl := hc rfl
    have hl : l = [] := by
      cases l with
      | nil => rfl
      | cons x t =>
        obtain ⟨ad9, e9, _⟩ := h.2 (by simp at hL; omega)
        cases e9
    subst hl
    obtain rfl : 0 = n := hL
    have ho := own_empty w w.heap.size 23 (Nat.le_refl _)
    clear h hc
    go_enter Tryz.func14, Tryz.ntmps14
    go_wp2
    go_ret
    exact ⟨_, rfl, ho, hbA⟩
  | some a1 =>
    obtain ⟨i0, hi0, hz0, hz1, hz2⟩ := info_parts info_f32
    have hone : ∀ u ∈ l.map f32v, u.oneCell' = true := f32v_one l
    have HONE := Lib.hid hone
    have HRD := Lib.hid h
    clear h hone hc
    go_enter Tryz.func14, Tryz.ntmps14
    go_wp2_with (at_builtin; refine wpList_append_own _ rfl _ _ 22 rfl w.heap.size 23 i0 (.float .f32 0) 1 4 Tryz.underlying22 hi0 hz0 hz1 hz2 rfl (by decide) _ _ _ rfl (own_empty w w.heap.size 23 (Nat.le_refl _)) a1 n c (l.map f32v) rfl ?c0 ?c1 ?c2 ?c3 ?c4 ?c5 ?_)
    case c0 => rw [List.length_map]; omega
    case c1 => exact (HRD.out.below ((Below.refl _ _).alloc (Nat.le_refl _) _)).cellsOver
    case c2 => exact HONE.out
    case c3 => unfold maxLen; omega
    case c4 => omega
    case c5 => simp
    intro v1 w3 hown1 hgrow1 _
    have hb3 : Below w.heap.size w w3 := hbA.grown hgrow1 (by simp) (fun g hg => by simp [Value.ownBlock] at hg; omega)
    clear hgrow1 hbA
    go_wp2
    go_ret
    exact ⟨v1, rfl, hown1, hb3⟩

set_option maxHeartbeats 1000000 in
/-- lists that are equal but for the signs of their zeros -/
theorem sameFloats_posz (A A' : Option Addr) (n c c' : Nat) (l : List Nat) (w : World) (h : Reads w w.heap.size 1 A n ((l.map posz).map f32v)) (h' : Reads w w.heap.size 1 A' n (l.map f32v)) (hn : n ≤ maxLen) (hf : ∀ x ∈ l, fin Ieee.single x = true) :
    Calls Tryz.prog 44 #[.slice A n c, .slice A' n c'] w fun e w' => e = .returned (.bool true) ∧ Below w.heap.size w w' := by
  unfold maxLen at hn
  have HFI := Lib.hid hf
  clear hf
  go_enter Tryz.func44, Tryz.ntmps44
  go_wp2
  go_loopg [5] n (fun m s W => ∃ k : Nat, k ≤ n ∧ s = .int .i64 k ∧ n - k ≤ m ∧ Below w.heap.size w W)
  case atStart => exact ⟨0, Nat.zero_le _, rfl, by omega, Below.refl _ _⟩
  case round =>
    obtain ⟨k, hk, rfl, hm, hbel⟩ := hrel
    by_cases h0 : k < n
    · obtain ⟨ad, hkl, rfl, hbb, hcell⟩ := (h.below hbel).cellM h0
      obtain ⟨ad', hkl', rfl, hbb', hcell'⟩ := (h'.below hbel).cellM h0
      have hfx := HFI.out _ (List.getElem_mem hkl')
      rw [List.getElem_map] at hcell
      unfold f32v at hcell hcell'
      generalize l[k] = x at *
      have hxx : (FloatKind.f32.format.order (posz x) x != some .eq) = false := by
        have h := feq_key (posz_fin hfx) hfx
        have h2 : feq (posz x) x = true := by rw [h, posz_key hfx]; simp
        show (Ieee.single.order (posz x) x != some .eq) = false
        simpa [feq] using h2
      clear hfx
      go_wp2
      go_region
      go_wp2
      go_roundg (n - (k + 1))
      case measure => omega
      case rel => exact ⟨k + 1, by omega, by go_num, Nat.le_refl _, hbel.drew⟩
    · go_wp2
      go_ret
      exact ⟨rfl, hbel⟩

theorem algR_W (rows : List (List Nat)) (sk : List Int) : algR rows sk = (algW rows sk).map (List.map posz) := by
  unfold algR algW
  rw [List.map_zipWith]
  rfl
theorem algW_len (rows : List (List Nat)) (sk : List Int) (n : Nat) (h1 : rows.length = n) (h2 : sk.length = n) : (algW rows sk).length = n := by
  unfold algW; rw [List.length_zipWith]; omega
theorem algW_fin (rows : List (List Nat)) (sk : List Int) (h : ∀ r ∈ rows, ∀ x ∈ r, fin Ieee.single x = true) : ∀ r ∈ algW rows sk, ∀ x ∈ r, fin Ieee.single x = true := by
  intro r hr x hx
  obtain ⟨i, hi, rfl⟩ := List.mem_iff_getElem.1 hr
  have hi' : i < (List.zipWith (algw (frT sk) (toT rows sk)) rows sk).length := hi
  rw [List.length_zipWith] at hi'
  have e : (algW rows sk)[i] = algw (frT sk) (toT rows sk) (rows[i]'(by omega)) (sk[i]'(by omega)) := by
    simp only [algW, List.getElem_zipWith]
  rw [e] at hx
  unfold algw at hx
  exact h _ (List.getElem_mem _) x (List.mem_of_mem_drop (List.mem_of_mem_take hx))
theorem firstE_every : ∀ l : List Int, firstE l = 0 → ∀ x ∈ l, x = 0
  | [], _, x, hx => by cases hx
  | a :: t, h, x, hx => by
    by_cases ha : a = 0
    · subst ha
      have ht : firstE t = 0 := by
        have e : firstE (0 :: t) = if (0 : Int) ≠ 0 then 0 else firstE t := rfl
        rw [e, if_neg (by simp)] at h
        exact h
      rcases List.mem_cons.1 hx with rfl | hx
      · rfl
      · exact firstE_every t ht x hx
    · exfalso
      have e : firstE (a :: t) = if a ≠ 0 then a else firstE t := rfl
      rw [e, if_pos ha] at h
      exact ha h
theorem recE_val (rows : List (List Nat)) (sk : List Int) (h : recE rows sk = 0) : Valid rows sk := by
  unfold recE at h
  split at h
  · cases h
  split at h
  · cases h
  rename_i h0 h8
  split at h
  · rename_i hx; exact absurd h hx
  rename_i hf
  split at h
  · cases h
  rename_i hs
  split at h
  · rename_i hsm
    have hf0 : firstE (rows.map smpE) = 0 := Classical.byContradiction hf
    have hall : ∀ r ∈ rows, smpE r = 0 := fun r hr => firstE_every _ hf0 _ (List.mem_map_of_mem hr)
    refine ⟨by omega, by omega, ?_, ?_, by omega, ?_⟩
    · intro r hr
      have := hall r hr
      unfold smpE at this
      split at this
      · cases this
      · omega
    · intro r hr x hx
      have := hall r hr
      unfold smpE at this
      split at this
      · cases this
      · split at this
        · rename_i ha; exact List.all_eq_true.1 ha x hx
        · cases this
    · intro s hsk
      have := List.all_eq_true.1 hsm s hsk
      unfold smallS at this
      simpa using this
  · cases h

theorem algW_short (rows : List (List Nat)) (sk : List Int) (h : ∀ r ∈ rows, r.length ≤ 4096) : ∀ r ∈ algW rows sk, r.length ≤ maxLen := by
  intro r hr
  obtain ⟨i, hi, rfl⟩ := List.mem_iff_getElem.1 hr
  have hi' : i < (List.zipWith (algw (frT sk) (toT rows sk)) rows sk).length := hi
  rw [List.length_zipWith] at hi'
  have e : (algW rows sk)[i] = algw (frT sk) (toT rows sk) (rows[i]'(by omega)) (sk[i]'(by omega)) := by
    simp only [algW, List.getElem_zipWith]
  rw [e]
  have h4 := h _ (List.getElem_mem (l := rows) (n := i) (by omega))
  unfold algw maxLen
  rw [List.length_take, List.length_drop]
  omega

/-- what Aligned answers: its error, and the records as they are laid, their zeros as they are -/
theorem aligned_all (A A' : Option Addr) (n c n' c' N : Nat) (E : Int) (RW : List (List Nat)) (rows : List (List Nat)) (sk : List Int) (w : World) (h : RowsR f32v w w.heap.size A n rows) (h' : Reads w w.heap.size 1 A' n' (sk.map i64v)) (hn : n ≤ 4096) (hn' : n' ≤ 4096)
    (hc : (recE rows sk ≠ 0 ∧ E = recE rows sk ∧ RW = [] ∧ N = 0) ∨ (recE rows sk = 0 ∧ ((toT rows sk ≤ frT sk ∧ E = 16 ∧ RW = [] ∧ N = 0) ∨ (¬ toT rows sk ≤ frT sk ∧ E = 0 ∧ RW = algW rows sk ∧ N = n)))) :
    Calls Tryz.prog 41 #[.slice A n c, .slice A' n' c'] w fun e w' => ∃ A2 c2, e = .returned (.tuple #[.slice A2 N c2, .int .i64 E]) ∧ RowsR f32v w' w'.heap.size A2 N (RW.map (List.map posz)) ∧ Below w.heap.size w w' := by
  have hnil : ∀ W : World, RowsR f32v W W.heap.size none 0 ((([] : List (List Nat)).map (List.map posz))) := fun W => ⟨rfl, [], Reads.none_, fun i hi => absurd hi (by simp)⟩
  rcases hc with ⟨h1, rfl, rfl, rfl⟩ | ⟨h1, ⟨h2, rfl, rfl, rfl⟩ | ⟨h2, rfl, rfl, rfl⟩⟩
  · refine (aligned_err A A' n c n' c' rows sk w h h' hn hn' h1).mono ?_
    rintro e w' ⟨rfl, hb⟩
    exact ⟨none, 0, rfl, hnil w', hb⟩
  · have hv := recE_val rows sk h1
    obtain rfl : n' = n := by have := hv.same; have := h.1; have := h'.lenM; omega
    refine (aligned_short A A' n' c c' rows sk w h h' hv h2).mono ?_
    rintro e w' ⟨rfl, hb⟩
    exact ⟨none, 0, rfl, hnil w', hb⟩
  · have hv := recE_val rows sk h1
    obtain rfl : n' = N := by have := hv.same; have := h.1; have := h'.lenM; omega
    obtain ⟨m, hm⟩ : ∃ m : Nat, (m : Int) = toT rows sk - frT sk := ⟨(toT rows sk - frT sk).toNat, by omega⟩
    refine (aligned_ok A A' n' c c' m rows sk w h h' hv (by omega) hm).mono ?_
    rintro e w' ⟨G, gs, rfl, hlaid, hown, hb⟩
    have hal : (algR rows sk).length = n' := by rw [algR_W, List.length_map]; exact algW_len rows sk n' h.1 h'.lenM
    have h0 := hv.some_
    have hs0 : 0 < sk.length := by have := hv.same; omega
    have hm4 : m ≤ 4096 := by
      have e1 := toT_le rows sk hv.same 0 (by omega) hs0
      have e2 := frT_ge sk sk[0] (List.getElem_mem hs0)
      have e3 := hv.len rows[0] (List.getElem_mem (by omega))
      omega
    have hr := hlaid.rowsR hal hown hm4
    rw [algR_W] at hr
    exact ⟨_, _, rfl, hr, hb⟩

end Go.Proofs.YtboaojkblmddkaaGreatDoor

/- ProbeAligns: where a guard strikes; the law. -/
namespace Go.Proofs.YtboaojkblmddkaaGreatDoor
open Go.RowKit Bn
open Flt

theorem RowsR.nilF (f : Nat → Value) (W : World) : RowsR f W W.heap.size none 0 ([] : List (List Nat)) := ⟨rfl, [], Reads.none_, fun i hi => absurd hi (by simp)⟩

set_option maxHeartbeats 8000000 in
set_option maxRecDepth 100000 in
theorem aligns_main (A A' : Option Addr) (n c n' c' : Nat) (rows : List (List Nat)) (sk : List Int) (w : World) (KV : AwakeOk) (hT : Tabs w) (h : RowsR f32v w w.heap.size A n rows) (h' : Reads w w.heap.size 1 A' n' (sk.map i64v)) (hac' : A' = none → c' = 0)
    (hz : ∀ (ad : Addr) (k L c2 : Nat), A = some ad → k < n → w.cell? (ad.add k) = some (.slice none L c2) → c2 = 0) (hn : n ≤ 10) (hn' : n' ≤ 12) (hall : (∀ r ∈ rows, LenOk r.length 64) ∨ ¬ (∀ r ∈ rows, LenOk r.length 64)) :
    Calls Tryz.prog 7 #[.slice A n c, .slice A' n' c'] w fun e w' => e = .returned (.bool true) ∧ Below w.heap.size w w' := by
  obtain ⟨i1, hi1, hw0, hw1, hw2⟩ := info_parts info_fls
  obtain ⟨i2, hi2, hv0, hv1, hv2⟩ := info_parts info_int
  have HL4 := Lib.hid (fun (k : Nat) W => rLength_any k 64 W)
  have KV := Lib.hid KV
  have d1 : decide ((10 : Int) < (n : Int)) = false := by simpa using (show ¬ ((10 : Int) < n) from by omega)
  have d2 : decide ((12 : Int) < (n' : Int)) = false := by simpa using (show ¬ ((12 : Int) < n') from by omega)
  have HLN := Lib.hid h.1
  have HR := Lib.hid h
  have HR' := Lib.hid h'
  have HZ := Lib.hid hz
  have HAC := Lib.hid hac'
  have HALL := Lib.hid hall
  have HT := Lib.hid hT
  clear hz h h' hac' hall hT
  go_enter Tryz.func7, Tryz.ntmps7
  go_wp2
  go_loopg [5, 24] n (fun q v s W => ∃ j : Nat, j ≤ n ∧ s = .int .i64 j ∧ n - j ≤ q ∧ Grow f32v 22 23 W w.heap.size v j (rows.take j) ∧ Hid (∀ (i : Nat) (hi : i < rows.length), i < j → LenOk rows[i].length 64) ∧ Below w.heap.size w W)
  case atStart => exact ⟨0, Nat.zero_le _, rfl, by omega, Grow.nil, fun i hi h => absurd h (by omega), Below.refl _ _⟩
  case round =>
    obtain ⟨j, hj, rfl, hq, hgrow, hf, hbel⟩ := hrel
    by_cases h0 : j < n
    · obtain ⟨ad, hkl, A1, c1, rfl, hbb, hcell0, hlc, hcm, hrd0⟩ := HR.out.row h0
      have hcell := (hbel.cell (by rw [block_of_add]; exact hbb)).trans hcell0
      have hrd := (hrd0.below hbel).more hbel.size
      have HNX := Lib.hid (fun (e : LenOk rows[j].length 64) => show ∀ (i : Nat) (hi : i < rows.length), i < j + 1 → LenOk rows[i].length 64 from fun i hi hik => by
        rcases Nat.lt_or_ge i j with h9 | h9
        · exact hf.out i hi h9
        · obtain rfl : i = j := by omega
          exact e)
      obtain ⟨hgl, vs, hown, hin⟩ := hgrow
      have hts : rows.take (j + 1) = rows.take j ++ [rows[j]] := List.take_succ_eq_append_getElem hkl
      have HTS := Lib.hid hts
      have HIN := Lib.hid hin
      have HGL := Lib.hid hgl
      have hz1 : A1 = none → c1 = 0 := fun e => by subst e; exact HZ.out ad j rows[j].length c1 rfl h0 hcell0
      generalize rows[j] = R at *
      have hle := hbel.size
      have HC := HL4.out R.length wr
      by_cases he : LenOk R.length 64
      · have HN2 := Lib.hid (HNX.out he)
        have HB := Lib.hid (floats_own A1 R.length c1 R wr hrd (by unfold LenOk at he; omega) hz1)
        unfold LenOk at he
        rw [decide_eq_true he] at HC
        have HC := Lib.hid HC
        clear hts hin hgl hrd hrd0 hz1 hcell0 he HNX hf
        generalize hRL : R.length = RL at *
        have HRLE := Lib.hid hRL
        clear hRL
        go_wp2_with fail
        refine HC.out.mono ?_
        rintro e w1 ⟨rfl, rfl⟩
        go_wp2_with fail
        refine HB.out.mono ?_
        rintro e w3 ⟨v3, rfl, ho3, hb3⟩
        have hown3 := own_belw hown hb3
        obtain ⟨A3, c3, rfl, _, _, _⟩ := own_slice ho3
        clear hown HB HC
        go_wp2_with (at_builtin; refine wpList_append_own _ rfl _ _ 75 rfl w.heap.size 22 i1 (.slice none 0 0) 1 24 Tryz.underlying75 hi1 hw0 hw1 hw2 rfl (by decide) _ _ _ rfl (hown3.alloc _) ⟨w3.heap.size, 0, none⟩ 1 1 [.slice A3 RL c3] rfl rfl ?d1 ?d2 ?d3 ?d4 ?d5 ?_)
        case d1 => exact cell_one_new _ _ _
        case d2 => intro u hu; simp at hu; subst hu; rfl
        case d3 => unfold maxLen; omega
        case d4 => omega
        case d5 => have := hb3.size; simp; omega
        intro v2 w4 hown2 hgrow2 _
        have hb34 : Below w3.heap.size w3 (w3.alloc (.cells #[.slice A3 RL c3] 22)) := (Below.refl _ _).alloc (Nat.le_refl _) _
        have hG : Grow f32v 22 23 w4 w.heap.size v2 (j + 1) (rows.take (j + 1)) := by
          rw [HTS.out]
          exact Grow.snoc HGL.out (hown3.alloc _) (fun i hi => (HIN.out i hi).imp fun u hu => ⟨hu.1, own_belw (own_belw hu.2 hb3) hb34⟩) (by rw [HRLE.out]; exact own_belw (own_mono ho3 hle) hb34) (by decide) hgrow2 hown2
        have hle3 := Nat.le_trans hle hb3.size
        have hb4 : Below w.heap.size w w4 := ((hbel.trans (hb3.mono hle)).trans (hb34.mono hle3)).grown hgrow2 (by simp; omega) (fun g hg => (World.ownsRow.lt hown3 g hg).1)
        clear hgrow2 hown2 hown3 HIN
        go_wp2
        go_roundg (n - (j + 1))
        case measure => omega
        case rel => exact ⟨j + 1, by omega, by go_num, Nat.le_refl _, hG, HN2.out, hb4⟩
      · unfold LenOk at he
        rw [decide_eq_false he] at HC
        have HC := Lib.hid HC
        clear hts hin hgl hrd hrd0 hz1 hcell0 he HNX hf hown
        generalize R.length = RL at *
        go_wp2_with fail
        refine HC.out.mono ?_
        rintro e w1 ⟨rfl, rfl⟩
        go_wp2_with fail
        refine (KV.out _ (HT.out.later hbel)).mono ?_
        rintro e w2 ⟨rfl, hb2⟩
        go_wp2_with fail
        go_ret
        exact ⟨rfl, hbel.trans (hb2.mono hbel.size)⟩
    · obtain rfl : n = j := by omega
      rw [List.take_of_length_le (by have := HLN.out; omega)] at hgrow
      obtain ⟨Ao, co, rfl, hoc, hom, hro⟩ := hgrow.rowsR
      have hrd' := HR'.out.later hbel
      have HRO := Lib.hid hro
      have HRD := Lib.hid hrd'
      clear hgrow hro hrd' hf hj hq h0
      cases A' with
      | none =>
        obtain rfl := HAC.out rfl
        have hn0 : n' = 0 := by
          rcases Nat.eq_zero_or_pos n' with h0 | h0
          · exact h0
          · obtain ⟨ad, e, _⟩ := HRD.out.2 h0
            cases e
        subst hn0
        have hb3 : Below wr.heap.size wr (wr.alloc (.cells #[] 3)) := (Below.refl _ _).alloc (Nat.le_refl _) _
        have hrd3 : Reads (wr.alloc (.cells #[] 3)) (wr.alloc (.cells #[] 3)).heap.size 1 (some ⟨wr.heap.size, 0, none⟩) 0 (sk.map i64v) := ⟨HRD.out.1, fun h0 => absurd h0 (by omega)⟩
        go_wp2_with fail
        generalize wr.alloc (.cells #[] 3) = w3 at *
        have hro3 := HRO.out.later hb3
        have hB3 := hbel.trans (hb3.mono hbel.size)
        clear HRO HRD hb3
        have HCASE : ∃ (N : Nat) (E : Int) (RW : List (List Nat)), (recE rows sk ≠ 0 ∧ E = recE rows sk ∧ RW = [] ∧ N = 0) ∨ (recE rows sk = 0 ∧ ((toT rows sk ≤ frT sk ∧ E = 16 ∧ RW = [] ∧ N = 0) ∨ (¬ toT rows sk ≤ frT sk ∧ E = 0 ∧ RW = algW rows sk ∧ N = n))) := by
          by_cases h1 : recE rows sk = 0
          · by_cases h2 : toT rows sk ≤ frT sk
            · exact ⟨0, 16, [], .inr ⟨h1, .inl ⟨h2, rfl, rfl, rfl⟩⟩⟩
            · exact ⟨n, 0, algW rows sk, .inr ⟨h1, .inr ⟨h2, rfl, rfl, rfl⟩⟩⟩
          · exact ⟨0, recE rows sk, [], .inl ⟨h1, rfl, rfl, rfl⟩⟩
        obtain ⟨N, E, RW, hcase⟩ := HCASE
        have HA := Lib.hid (aligned_all Ao (some ⟨wr.heap.size, 0, none⟩) n co 0 0 N E RW rows sk w3 hro3 hrd3 (by omega) (by omega) hcase)
        have HCK := Lib.hid (fun (W : World) hW hW' => rCheckRecords_any A none n c 0 0 rows sk W hW hW' (by unfold maxLen; omega) (by unfold maxLen; omega))
        have hN10 : N ≤ 10 := by rcases hcase with ⟨_, _, _, h⟩ | ⟨_, ⟨_, _, _, h⟩ | ⟨_, _, _, h⟩⟩ <;> omega
        have hfin : ∀ r ∈ RW, ∀ x ∈ r, fin Ieee.single x = true := by
          rcases hcase with ⟨_, _, h, _⟩ | ⟨h1, ⟨_, _, h, _⟩ | ⟨_, _, h, _⟩⟩
          · rw [h]; intro r hr; cases hr
          · rw [h]; intro r hr; cases hr
          · rw [h]; exact algW_fin rows sk (recE_val rows sk h1).fin
        have hrlen : ∀ r ∈ RW, r.length ≤ maxLen := by
          rcases hcase with ⟨_, _, h, _⟩ | ⟨h1, ⟨_, _, h, _⟩ | ⟨_, _, h, _⟩⟩
          · rw [h]; intro r hr; cases hr
          · rw [h]; intro r hr; cases hr
          · rw [h]; exact algW_short rows sk (recE_val rows sk h1).len
        have HFIN := Lib.hid hfin
        have HRLN := Lib.hid hrlen
        have HCA := Lib.hid hcase
        clear hro3 hrd3 hcase hfin hrlen
        go_wp2_with fail
        refine HA.out.mono ?_
        rintro e w4 ⟨A4, c4, rfl, hr4, hb4⟩
        have hB4 := hB3.trans (hb4.mono hB3.size)
        have HCK4 := Lib.hid (HCK.out w4 (HR.out.later hB4) (HR'.out.later hB4))
        clear HA HCK hb4 hB3
        go_wp2_with fail
        refine HCK4.out.mono ?_
        rintro e w5 ⟨rfl, hb5⟩
        have hB5 := hB4.trans (hb5.mono hB4.size)
        have hr5 := hr4.later hb5
        clear HCK4 hb5 hB4 hr4
        by_cases hE : recE rows sk = 0
        · have hv := recE_val rows sk hE
          have e1 := hv.same
          have e2 := hv.some_
          have e3 := HLN.out
          have e4 := HR'.out.lenM
          omega
        · obtain ⟨_, hE2, hRW, hN0⟩ := HCA.out.resolve_right (fun h => hE h.1)
          subst hRW hN0
          have hr6 : RowsR f32v w5 w5.heap.size none 0 ([] : List (List Nat)) := RowsR.nilF _ _
          generalize recE rows sk = RE at *
          subst hE2
          have e1 : (E == 0) = false := by simpa using hE
          have e2 : decide (E = 0) = false := by simpa using hE
          clear hE HCA hr5
          have eE : ((E : Int) != E) = false := by simp
          go_wp2
          go_loopg [70] 0 (fun q s W => s = .int .i64 0 ∧ W = w5)
          case atStart => exact ⟨rfl, rfl⟩
          case round =>
            obtain ⟨rfl, hW⟩ := hrel
            subst hW
            go_wp2_with fail
            refine (KV.out _ (HT.out.later hB5)).mono ?_
            rintro e w9 ⟨rfl, hb9⟩
            go_wp2_with fail
            go_ret
            exact ⟨rfl, hB5.trans (hb9.mono hB5.size)⟩
      | some a1 =>
        have hone : ∀ u ∈ sk.map i64v, u.oneCell' = true := i64v_one sk
        have HONE := Lib.hid hone
        have hle := hbel.size
        have hbA : Below wr.heap.size wr (wr.alloc (.cells #[] 3)) := (Below.refl _ _).alloc (Nat.le_refl _) _
        clear hone
        go_wp2_with (at_builtin; refine wpList_append_own _ rfl _ _ 34 rfl w.heap.size 3 i2 (.int .i64 0) 1 8 Tryz.underlying34 hi2 hv0 hv1 hv2 rfl (by decide) _ _ _ rfl (own_empty wr w.heap.size 3 hle) a1 n' c' (sk.map i64v) rfl ?f0 ?f1 ?f2 ?f3 ?f4 ?f5 ?_)
        case f0 => rw [HRD.out.1]
        case f1 => exact (HRD.out.later hbA).cellsOver
        case f2 => exact HONE.out
        case f3 => unfold maxLen; omega
        case f4 => omega
        case f5 => have := hbA.size; simp; omega
        intro v1 w3 hown1 hgrow1 _
        have hb3 : Below wr.heap.size wr w3 := hbA.grown hgrow1 (by simp) (fun g hg => by simp [Value.ownBlock] at hg; omega)
        obtain ⟨A3, c3, rfl, hlc3, hcm3, hrd3⟩ := own_slice hown1
        clear hgrow1 hown1 hbA HONE
        have hro3 := HRO.out.later hb3
        have hB3 := hbel.trans (hb3.mono hbel.size)
        clear HRO HRD hb3
        have HCASE : ∃ (N : Nat) (E : Int) (RW : List (List Nat)), (recE rows sk ≠ 0 ∧ E = recE rows sk ∧ RW = [] ∧ N = 0) ∨ (recE rows sk = 0 ∧ ((toT rows sk ≤ frT sk ∧ E = 16 ∧ RW = [] ∧ N = 0) ∨ (¬ toT rows sk ≤ frT sk ∧ E = 0 ∧ RW = algW rows sk ∧ N = n))) := by
          by_cases h1 : recE rows sk = 0
          · by_cases h2 : toT rows sk ≤ frT sk
            · exact ⟨0, 16, [], .inr ⟨h1, .inl ⟨h2, rfl, rfl, rfl⟩⟩⟩
            · exact ⟨n, 0, algW rows sk, .inr ⟨h1, .inr ⟨h2, rfl, rfl, rfl⟩⟩⟩
          · exact ⟨0, recE rows sk, [], .inl ⟨h1, rfl, rfl, rfl⟩⟩
        obtain ⟨N, E, RW, hcase⟩ := HCASE
        have HA := Lib.hid (aligned_all Ao A3 n co n' c3 N E RW rows sk w3 hro3 hrd3 (by omega) (by omega) hcase)
        have HCK := Lib.hid (fun (W : World) hW hW' => rCheckRecords_any A (some a1) n c n' c' rows sk W hW hW' (by unfold maxLen; omega) (by unfold maxLen; omega))
        have hN10 : N ≤ 10 := by rcases hcase with ⟨_, _, _, h⟩ | ⟨_, ⟨_, _, _, h⟩ | ⟨_, _, _, h⟩⟩ <;> omega
        have hfin : ∀ r ∈ RW, ∀ x ∈ r, fin Ieee.single x = true := by
          rcases hcase with ⟨_, _, h, _⟩ | ⟨h1, ⟨_, _, h, _⟩ | ⟨_, _, h, _⟩⟩
          · rw [h]; intro r hr; cases hr
          · rw [h]; intro r hr; cases hr
          · rw [h]; exact algW_fin rows sk (recE_val rows sk h1).fin
        have hrlen : ∀ r ∈ RW, r.length ≤ maxLen := by
          rcases hcase with ⟨_, _, h, _⟩ | ⟨h1, ⟨_, _, h, _⟩ | ⟨_, _, h, _⟩⟩
          · rw [h]; intro r hr; cases hr
          · rw [h]; intro r hr; cases hr
          · rw [h]; exact algW_short rows sk (recE_val rows sk h1).len
        have HFIN := Lib.hid hfin
        have HRLN := Lib.hid hrlen
        have HCA := Lib.hid hcase
        clear hro3 hrd3 hcase hfin hrlen
        go_wp2_with fail
        refine HA.out.mono ?_
        rintro e w4 ⟨A4, c4, rfl, hr4, hb4⟩
        have hB4 := hB3.trans (hb4.mono hB3.size)
        have HCK4 := Lib.hid (HCK.out w4 (HR.out.later hB4) (HR'.out.later hB4))
        clear HA HCK hb4 hB3
        go_wp2_with fail
        refine HCK4.out.mono ?_
        rintro e w5 ⟨rfl, hb5⟩
        have hB5 := hB4.trans (hb5.mono hB4.size)
        have hr5 := hr4.later hb5
        clear HCK4 hb5 hB4 hr4
        by_cases hE : recE rows sk = 0
        · have hv := recE_val rows sk hE
          have hcz := HCA.out
          have hc2 := (hcz.resolve_left (fun h => h.1 hE)).2
          have hc3 : (toT rows sk ≤ frT sk ∧ E = 16 ∧ RW = [] ∧ N = 0) ∨ (¬ toT rows sk ≤ frT sk ∧ E = 0 ∧ RW = algW rows sk ∧ N = n) := by
            rcases hc2 with h | h
            · exact .inl h
            · exact .inr ⟨by omega, h.2⟩
          obtain rfl : n' = n := by have := hv.same; have := HLN.out; have := HR'.out.lenM; omega
          have HRA := Lib.hid (rAligned_any A (some a1) n' c c' N rows sk E RW w5 (HR.out.later hB5) (HR'.out.later hB5) hv hc3)
          generalize recE rows sk = RE at *
          subst hE
          clear hv hcz hc2 hc3 HCA
          go_wp2_with fail
          refine HRA.out.mono ?_
          rintro e w6 ⟨v6, rfl, hgr6, hb6⟩
          obtain ⟨A6, c6, rfl, _, _, hr6⟩ := hgr6.rowsR
          have hB6 := hB5.trans (hb6.mono hB5.size)
          have hr56 := hr5.later hb6
          clear HRA hgr6 hb6 hr5 hB5
          have HRL := Lib.hid hr56
          have HRW := Lib.hid hr6
          have eN : ((N : Int) != (N : Int)) = false := by simp
          have eE : ((E : Int) != E) = false := by simp
          clear hr56 hr6
          go_wp2
          go_loopg [70] N (fun q s W => ∃ i : Nat, i ≤ N ∧ s = .int .i64 i ∧ N - i ≤ q ∧ Below w6.heap.size w6 W)
          case atStart => exact ⟨0, Nat.zero_le _, rfl, by omega, Below.refl _ _⟩
          case round =>
            obtain ⟨i, hi, rfl, hq, hbelx⟩ := hrel
            by_cases h0 : i < N
            · obtain ⟨ad1, hil1, B1, d1', rfl, hbb1, hcell1, _, _, hrd1⟩ := (HRL.out.later hbelx).row h0
              obtain ⟨ad2, hil2, B2, d2', e2, hbb2, hcell2, _, _, hrd2⟩ := (HRW.out.later hbelx).row h0
              subst e2
              rw [List.getElem_map] at hcell1 hrd1
              rw [List.length_map] at hcell1 hrd1
              have HSF := Lib.hid (fun (W : World) (hb : Below wr.heap.size wr W) => sameFloats_posz B1 B2 RW[i].length d1' d2' RW[i] W (hrd1.later hb) (hrd2.later hb) (HRLN.out _ (List.getElem_mem hil2)) (HFIN.out _ (List.getElem_mem hil2)))
              generalize RW[i] = R at *
              generalize R.length = RL at *
              have hblt1 : (ad1.add i).block < wr.heap.size := by rw [block_of_add]; exact hbb1
              have hblt2 : (ad2.add i).block < wr.heap.size := by rw [block_of_add]; exact hbb2
              clear hrd1 hrd2
              go_wp2_with fail
              go_region_held3 (fun w' => w'.cell? (ad1.add i) = some (.slice B1 RL d1') ∧ w'.cell? (ad2.add i) = some (.slice B2 RL d2'))
                ((first | exact ⟨hcell1, hcell2⟩ | exact ⟨y1, y2⟩))
                ((go_at_call 44; refine (HSF.out wr.drew (Below.refl _ _).drew).mono ?_; rintro e w8 ⟨rfl, hb8'⟩; have hb8 : Below wr.heap.size wr w8 := ⟨hb8'.os, hb8'.tape, hb8'.output, hb8'.size, hb8'.block⟩; clear hb8'; have y1 := (hb8.cell hblt1).trans hcell1; have y2 := (hb8.cell hblt2).trans hcell2))
              go_wp2
              go_roundg (N - (i + 1))
              case measure => omega
              case rel => exact ⟨i + 1, by omega, by go_num, Nat.le_refl _, hbelx.trans (hb8.mono hbelx.size)⟩
            · obtain rfl : N = i := by omega
              have hB9 := hB6.trans (hbelx.mono hB6.size)
              go_wp2_with fail
              refine (KV.out _ (HT.out.later hB9)).mono ?_
              rintro e w9 ⟨rfl, hb9⟩
              go_wp2_with fail
              go_ret
              exact ⟨rfl, hB9.trans (hb9.mono hB9.size)⟩
        · obtain ⟨_, hE2, hRW, hN0⟩ := HCA.out.resolve_right (fun h => hE h.1)
          subst hRW hN0
          have hr6 : RowsR f32v w5 w5.heap.size none 0 ([] : List (List Nat)) := RowsR.nilF _ _
          generalize recE rows sk = RE at *
          subst hE2
          have e1 : (E == 0) = false := by simpa using hE
          have e2 : decide (E = 0) = false := by simpa using hE
          clear hE HCA hr5
          have eE : ((E : Int) != E) = false := by simp
          go_wp2
          go_loopg [70] 0 (fun q s W => s = .int .i64 0 ∧ W = w5)
          case atStart => exact ⟨rfl, rfl⟩
          case round =>
            obtain ⟨rfl, hW⟩ := hrel
            subst hW
            go_wp2_with fail
            refine (KV.out _ (HT.out.later hB5)).mono ?_
            rintro e w9 ⟨rfl, hb9⟩
            go_wp2_with fail
            go_ret
            exact ⟨rfl, hB5.trans (hb9.mono hB5.size)⟩

end Go.Proofs.YtboaojkblmddkaaGreatDoor

/- The law of aligned records of chapter 2: for all records and skews it returns true. -/
namespace Go.Proofs.YtboaojkblmddkaaGreatDoor
open Go.RowKit

set_option maxHeartbeats 1000000 in
set_option maxRecDepth 100000 in
theorem aligns_turned (A A' : Option Addr) (n c n' c' : Nat) (w : World) (KV : AwakeOk) (hT : Tabs w) (hn : n ≤ maxLen) (hn' : n' ≤ maxLen) (hg : 10 < n ∨ 12 < n') :
    Calls Tryz.prog 7 #[.slice A n c, .slice A' n' c'] w fun e w' => e = .returned (.bool true) ∧ Below w.heap.size w w' := by
  have KV := Lib.hid KV
  unfold maxLen at hn hn'
  by_cases h1 : 10 < n
  · have d1 : decide ((10 : Int) < (n : Int)) = true := by simpa using (show (10 : Int) < n from by omega)
    clear hg
    go_enter Tryz.func7, Tryz.ntmps7
    go_wp2_with fail
    refine (KV.out _ hT).mono ?_
    rintro e w2 ⟨rfl, hb2⟩
    go_wp2_with fail
    go_ret
    exact ⟨rfl, hb2⟩
  · have d1 : decide ((10 : Int) < (n : Int)) = false := by simpa using (show ¬ ((10 : Int) < n) from by omega)
    have h2 := hg.resolve_left h1
    have d2 : decide ((12 : Int) < (n' : Int)) = true := by simpa using (show (12 : Int) < n' from by omega)
    clear hg
    go_enter Tryz.func7, Tryz.ntmps7
    go_wp2_with fail
    refine (KV.out _ hT).mono ?_
    rintro e w2 ⟨rfl, hb2⟩
    go_wp2_with fail
    go_ret
    exact ⟨rfl, hb2⟩

/-- every input: true; nothing that was there has changed -/
theorem aligns_any (A A' : Option Addr) (n c n' c' : Nat) (rows : List (List Nat)) (sk : List Int) (w : World) (hT : Tabs w) (h : RowsR f32v w w.heap.size A n rows) (hn : n ≤ maxLen) (h' : Reads w w.heap.size 1 A' n' (sk.map i64v)) (hn' : n' ≤ maxLen) (hac' : A' = none → c' = 0)
    (hz : ∀ (ad : Addr) (k L c2 : Nat), A = some ad → k < n → w.cell? (ad.add k) = some (.slice none L c2) → c2 = 0) :
    Calls Tryz.prog 7 #[.slice A n c, .slice A' n' c'] w fun e w' => e = .returned (.bool true) ∧ Below w.heap.size w w' := by
  by_cases h1 : n ≤ 10
  · by_cases h2 : n' ≤ 12
    · exact aligns_main A A' n c n' c' rows sk w awake_ok hT h h' hac' hz h1 h2 (Classical.em _)
    · exact aligns_turned A A' n c n' c' w awake_ok hT hn hn' (.inr (by omega))
  · exact aligns_turned A A' n c n' c' w awake_ok hT hn hn' (.inl (by omega))
end Go.Proofs.YtboaojkblmddkaaGreatDoor

/- For every input ProbeAligns returns true and leaves its arguments as they were, in every world in which the five package-level variables that its row lists (three tables, two errors) hold what the program's text lays in them. Said, and its tied card. -/
namespace Go.Proofs.YtboaojkblmddkaaGreatDoor.alignslaw
open Go.ChangeShapes Go.WideShapes Go.ChangeAt Go.RowKit Go.Deep

theorem own : ownKnob Tryz.prog.godebug = none := by kernel_rfl
theorem laidOut : laidOutB Tryz.prog = true := by kernel_rfl
theorem cellsR : Tryz.prog.cellsOf 22 = 1 := by kernel_rfl
theorem cellsI : Tryz.prog.cellsOf 3 = 1 := by kernel_rfl
theorem cellsF : Tryz.prog.cellsOf 23 = 1 := by kernel_rfl
theorem cellsB : Tryz.prog.cellsOf 5 = 1 := by kernel_rfl
theorem cellsU : Tryz.prog.cellsOf 199 = 1 := by kernel_rfl
theorem gTz : Tryz.prog.globalNamed "math/bits.deBruijn64tab" = some 2 := by kernel_rfl
theorem gPow : Tryz.prog.globalNamed "internal/strconv.uint64pow10" = some 5 := by kernel_rfl

/-- a slice of ints; a nil one has no capacity -/
theorem open_i64s0 {H : Type} {enc : TypeId × Value → H} {P : Program} {w : World} {base fuel : Nat} {held : Bool} {t e : TypeId} {cs : List Value} {x : DataW H × List MemPlace}
    (ht : P.underlying t = some (.slice e)) (he : P.underlying e = some (.int .i64)) (hc : P.cellsOf e = 1) (h : DataW.trod enc P w base (fun _ => true) held fuel t cs = some x) :
    ∃ (A : Option Addr) (n c : Nat) (l : List Int), cs = [.slice A n c] ∧ n ≤ c ∧ c ≤ maxLen ∧ (A = none → c = 0) ∧ Reads w w.heap.size 1 A n (l.map i64v) := by
  rcases open_ints ht he hc h with ⟨rfl, _⟩ | ⟨a, len, cap, zs, rfl, _, hl, hm, hz, _, hcell, _⟩
  · exact ⟨none, 0, 0, [], rfl, Nat.le_refl _, Nat.zero_le _, fun _ => rfl, Reads.none_⟩
  · simp only [if_true] at hz
    refine ⟨some a, len, cap, zs.take len, rfl, hl, hm, (fun e => by cases e), by simp; omega, fun hp => ⟨a, rfl, ?_, fun j u hu => ?_⟩⟩
    · have := World.block_lt_of_cell? w _ (hcell 0 (by omega))
      simpa [block_of_add] using this
    · have hj : j < len := by
        rcases Nat.lt_or_ge j len with h1 | h1
        · exact h1
        · rw [List.getElem?_eq_none (by simp; omega)] at hu; cases hu
      rw [List.getElem?_eq_getElem (by simp; omega)] at hu
      injection hu with hu
      rw [hcell j (by omega), ← hu]
      simp [i64v, List.getD, List.getElem?_eq_getElem (show j < zs.length by omega)]

set_option maxRecDepth 100000 in
theorem tabs {W : World} (h : laidMetH Tryz.prog Rows.probeAlignsRow.laid W) (hs : W.ShapedOpen Tryz.prog) : Tabs W := by
  have h1 : laidMet Tryz.prog Rows.probeAlignsRow.laid W := h
  have h2 := laidMet.tail h1
  have h3 := laidMet.tail h2
  have t2 : Lib.TabIs Tryz.prog W "math/bits.deBruijn64tab" .u8 (Lib.deBruijn64tab.map fun (n : Nat) => (n : Int)) :=
    Lib.tabIs_of_head gTz (by kernel_rfl) Tryz.underlying263 Tryz.underlying5 cellsB (by kernel_rfl) h2
  have t3 : Lib.TabIs Tryz.prog W "internal/strconv.uint64pow10" .u64 Lib.pow10Tab :=
    Lib.tabIs_of_head gPow (by kernel_rfl) Tryz.underlying272 Tryz.underlying199 cellsU (by kernel_rfl) h3
  refine ⟨fun j hj => ?_, t3, ?_⟩
  · have := t2.cell gTz j (by simpa using hj)
    rw [this]
    simp [List.getD, List.getElem?_map, List.getElem?_eq_getElem hj]
  · exact cell_of_shapedOpen_int (zero := #[.int .i64 0]) (t := 3) hs (of_decide_eq_true (by kernel_rfl)) (by kernel_rfl) rfl (by kernel_rfl) (by kernel_rfl) Tryz.underlying3

set_option maxRecDepth 100000 in
theorem contract (H : Type) (enc : TypeId × Value → H) (W : World) (base : Nat) (args : Array Value) (ds gs : List (DataW H)) (before : List MemPlace)
    (hval : ∀ (j : Nat) t v, Tryz.f7.params[j]? = some t → args[j]? = some v → Value.okWide Tryz.prog W .any base t v)
    (hW : DataW.Whole enc Tryz.prog Tryz.f7.params.toList Rows.probeAlignsSpec.vars false W args.toList ds gs before) (hL : laidMetH Tryz.prog Rows.probeAlignsRow.laid W) (hS : W.ShapedOpen Tryz.prog) :
    Calls Tryz.prog 7 args W fun e W' => ∃ v, e = .returned v ∧ Rows.probeAlignsSpec.post enc Tryz.prog Tryz.f7 false true false false W args v W' := by
  have hW' := hW
  obtain ⟨p, q, hA0, hV, rfl, hfz, hnd⟩ := hW
  have hA : DataW.TrodAll enc Tryz.prog W 0 (fun _ => true) true Tryz.f7.params.toList args.toList ds p := hA0
  rw [Tryz.params7] at hA hval
  obtain ⟨v0, vs0, d0, ds0, p0, q0, hargs, rfl, rfl, h0, r0⟩ := trodAll_cons hA
  obtain ⟨v1, vs1, d1, ds1, p1, q1, rfl, rfl, rfl, h1, r1⟩ := trodAll_cons r0
  obtain ⟨rfl, rfl, rfl⟩ := trodAll_nil r1
  obtain rfl : args = #[v0, v1] := by cases args; simp_all
  obtain ⟨rfl, rfl⟩ := trodVars_none hV
  obtain ⟨A, n, c, rfl⟩ := okWide_slice Tryz.underlying75 (hval 0 75 v0 rfl rfl)
  obtain ⟨A', N, c', rfl⟩ := okWide_slice Tryz.underlying34 (hval 1 34 v1 rfl rfl)
  obtain ⟨m0, hf0⟩ := id h0
  obtain ⟨B0, k0, e0, rows, he0, hke, hm0, hrd, hzz⟩ := open_f32_rows Tryz.underlying75 Tryz.underlying22 Tryz.underlying23 cellsR cellsF hf0
  simp only [Value.cells, List.cons.injEq, Value.slice.injEq, and_true] at he0
  obtain ⟨rfl, rfl, rfl⟩ := he0
  obtain ⟨m1, hf1⟩ := id h1
  obtain ⟨B1, k1, e1, l, he1, hke1, hm1, hnc, hrd1⟩ := open_i64s0 Tryz.underlying34 Tryz.underlying3 cellsI hf1
  simp only [Value.cells, List.cons.injEq, Value.slice.injEq, and_true] at he1
  obtain ⟨rfl, rfl, rfl⟩ := he1
  have walk := aligns_any A A' n c N c' rows l W (tabs hL hS) hrd (by omega) hrd1 (by omega) hnc hzz
  have hlt : ∀ x ∈ p0 ++ (p1 ++ []) ++ [], x.block < W.heap.size := fun x hx => hW'.lt x hx
  refine walk.mono fun e W' ⟨he, hb⟩ => ?_
  subst he
  have st : ∀ (t : TypeId) (v : Value) (d : DataW H) (ps : List MemPlace) (sp : Nat → Bool), Tryz.prog.readableRec t = true → t < Tryz.prog.types.size → DataW.Trod enc Tryz.prog W 0 (fun _ => true) true t v d ps →
      (∀ x ∈ ps, x.block < W.heap.size) → (∀ x ∈ ps, sp x.block = true) → DataW.Trod enc Tryz.prog W' 0 sp true t v d ps := fun t v d ps sp hr hrow h hl hs =>
    WideElems.Trod_stays laidOut hr hrow h (fun x hx => hb.same (hl x hx)) hs
  refine ⟨_, rfl, post_below (pa := p0 ++ (p1 ++ [])) (pv := []) hW' (fun _ _ _ => trodAll_cons_mk (shut_bool Tryz.underlying4 _) trodAll_mk0) (fun sp hsp => ?_) (fun _ _ => rfl) rfl hb (ok_one (by kernel_rfl) rfl (okWide_bool_mk Tryz.underlying4 _))⟩
  refine trodAll_cons_mk (st _ _ _ _ sp (by kernel_rfl) (of_decide_eq_true (by kernel_rfl)) h0 (fun x hx => hlt x (by simp [hx])) (fun x hx => hsp x (by simp [hx]))) ?_
  exact trodAll_cons_mk (st _ _ _ _ sp (by kernel_rfl) (of_decide_eq_true (by kernel_rfl)) h1 (fun x hx => hlt x (by simp [hx])) (fun x hx => hsp x (by simp [hx]))) trodAll_mk0

/-- a world for the witness: the settled one, the three tables as their initialisers lay them -/
def cellsOver (cs : Array Value) : Obj → Obj
  | .cells _ t frozen => .cells cs t frozen
  | o => o
def tab32 : List Nat := [0, 1, 28, 2, 29, 14, 24, 3, 30, 22, 20, 15, 25, 17, 4, 8, 31, 27, 13, 23, 21, 19, 16, 7, 26, 12, 18, 6, 11, 5, 10, 9]
noncomputable def low : Nat := (World.holding Tryz.prog default ⟨#[], #[], []⟩).heap.size
noncomputable def laidWorld (os : Os) : World :=
  { (World.holding Tryz.prog os ⟨#[.cells #[.string { data := #[118, 97, 108, 117, 101, 32, 111, 117, 116, 32, 111, 102, 32, 114, 97, 110, 103, 101] }] 286, .cells #[.string { data := #[105, 110, 118, 97, 108, 105, 100, 32, 115, 121, 110, 116, 97, 120] }] 286], #[], []⟩) with heap := ((((((World.holding Tryz.prog os ⟨#[.cells #[.string { data := #[118, 97, 108, 117, 101, 32, 111, 117, 116, 32, 111, 102, 32, 114, 97, 110, 103, 101] }] 286, .cells #[.string { data := #[105, 110, 118, 97, 108, 105, 100, 32, 115, 121, 110, 116, 97, 120] }] 286], #[], []⟩).heap.modify 8 (cellsOver (tab32.map fun (n : Nat) => Value.int .u8 (n : Int)).toArray)).modify 2 (cellsOver (Lib.deBruijn64tab.map fun (n : Nat) => Value.int .u8 (n : Int)).toArray)).modify 5 (cellsOver (Lib.pow10Tab.map fun n => Value.int .u64 n).toArray)).modify 7 (cellsOver #[.iface 284 (.pointer (some ⟨low, 0, none⟩))])).modify 6 (cellsOver #[.iface 284 (.pointer (some ⟨low + 1, 0, none⟩))])) }
def wargs : Array Value := #[.slice none 0 0, .slice none 0 0]
set_option maxRecDepth 100000 in
theorem laid_met (os : Os) : laidMet Tryz.prog Rows.probeAlignsRow.laid ((laidWorld os).forCall (fun _ _ => 0) ⟨#[], wargs, []⟩).memory :=
  laidMet_of_run' 8 (by kernel_rfl) (by kernel_rfl)
set_option maxRecDepth 100000 in
theorem reads (os : Os) {H : Type} (enc : TypeId × Value → H) : ∃ places, DataW.whole enc Tryz.prog ((laidWorld os).forCall (fun _ _ => 0) ⟨#[], wargs, []⟩).memory Tryz.f7.params.toList Rows.probeAlignsSpec.vars false wargs.toList 8 = some ([.nil, .nil], [], places) :=
  ⟨[], by kernel_rfl⟩

set_option maxRecDepth 100000 in
theorem lifted (os : Os) (started : os.Started) (H : Type) (enc : TypeId × Value → H) (F : Stop.Interp) :
    ReturnsInHanded {} Tryz.checked os 7 .any ((OpenSpec.ofChange Rows.probeAlignsSpec).preRow enc Tryz.prog Tryz.f7 Rows.probeAlignsRow.domain false Rows.probeAlignsRow.laid) (((OpenSpec.ofChange Rows.probeAlignsSpec).at F).post enc Tryz.prog Tryz.f7 false true false false) := by
  obtain ⟨places, hx⟩ := reads os enc
  refine returnsInHanded_of_row (C := Tryz.checked) (s := OpenSpec.ofChange Rows.probeAlignsSpec) own started (by kernel_rfl) Tryz.func7
    (witness_row_at (enc := enc) (C := Tryz.checked) false (laidWorld os) wargs rfl (by kernel_rfl) (by kernel_rfl) (by kernel_rfl)
      (OpenSpec.preRow_of_cond 8 hx (by kernel_rfl) (fun k hk => by cases hk) (by kernel_rfl) (laid_met os))) ?_
  intro W base args ds gs before hval hW _ _ _ hL hS _
  exact contract H enc W base args ds gs before hval hW hL hS

theorem said : Rows.ProbeAlignsSaid :=
  OpenClaim.holds_of_cond 7 Tryz.f7 rfl rfl rfl rfl rfl rfl rfl ⟨rfl, rfl, rfl, rfl, rfl⟩ rfl rfl rfl rfl rfl (by kernel_rfl) Tryz.func7 (by kernel_rfl)
    (of_decide_eq_true (by kernel_rfl)) (by unfold Func.isWrapper; first | (rw [if_pos (by decide +kernel)]; kernel_rfl) | (rw [if_neg (by decide +kernel)]; exact ⟨rfl, rfl⟩))
    (fun os started H enc _ F => by rw [OpenClaim.pre_eq_preRow]; exact lifted os started H enc F)

theorem plain (f : FuncId) (fn : Func) (hf : Tryz.pinned.checked.prog.funcNamed "strobe/strobelaw02.ProbeAligns" = some f) (hfn : Tryz.pinned.checked.prog.funcs[f]? = some fn) :
    true = Tryz.pinned.checked.prog.looks [] ∧ ∀ (j : Nat) t, fn.params[j]? = some t → Tryz.pinned.checked.prog.wantsStandIn t = false := by
  obtain rfl : f = 7 := Option.some.inj ((show Tryz.prog.funcNamed "strobe/strobelaw02.ProbeAligns" = some 7 by kernel_rfl).symm.trans hf) |>.symm
  obtain rfl : fn = Tryz.f7 := (Option.some.inj (Tryz.func7.symm.trans hfn)).symm
  refine ⟨by kernel_rfl, fun j t ht => ?_⟩
  rw [Tryz.params7] at ht
  have hm := Array.mem_of_getElem? ht
  simp at hm
  rcases hm with rfl | rfl
  · exact (show Tryz.prog.wantsStandIn 75 = false by kernel_rfl)
  · exact (show Tryz.prog.wantsStandIn 34 = false by kernel_rfl)

/-- THE CARD -/
theorem card : Rows.ProbeAlignsCardSaid :=
  Claim7.holds_tied_plain_at .later [] _ _ _ _ said (fun _ h => by cases h) (by kernel_rfl) (fun _ h => by cases h) probeAligns_row_tie rfl ⟨rfl, rfl⟩ (by kernel_rfl) rfl plain (by kernel_rfl)
end Go.Proofs.YtboaojkblmddkaaGreatDoor.alignslaw
