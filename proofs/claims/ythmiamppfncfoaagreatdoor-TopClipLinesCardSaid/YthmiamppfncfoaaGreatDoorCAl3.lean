/- Contract of probe's Aligned, where the records have times in common. -/
import Derived.Test.YthmiamppfncfoaaGreatDoorCAl2
import Derived.Test.YthmiamppfncfoaaGreatDoorCUnp
namespace Go.Proofs.YthmiamppfncfoaaGreatDoor
open Go.RowKit
open Flt

theorem set_gs (m : Nat) (gs : List Nat) (z : Value) (n k g : Nat) (hk : k < n) (hy : gs.length = k) :
    (gs.map (sl1 m) ++ List.replicate (n - k) z).set k (sl1 m g) = (gs ++ [g]).map (sl1 m) ++ List.replicate (n - (k + 1)) z := by
  rw [List.set_append_right _ _ (by rw [List.length_map]; omega), List.length_map, hy, Nat.sub_self, show n - k = (n - (k + 1)) + 1 from by omega, List.replicate_succ, List.set_cons_zero, List.map_append, List.append_assoc]
  rfl
theorem algR_succ (rows : List (List Nat)) (sk : List Int) (k : Nat) (h : k < rows.length) (h2 : k < sk.length) : (algR rows sk).take (k + 1) = (algR rows sk).take k ++ [alg1 (frT sk) (toT rows sk) rows[k] sk[k]] := by
  have hl : k < (algR rows sk).length := by unfold algR; rw [List.length_zipWith]; omega
  unfold algR at hl ⊢
  rw [List.take_succ_eq_append_getElem hl, List.getElem_zipWith]

set_option maxHeartbeats 2000000 in
set_option maxRecDepth 100000 in
theorem aligned_ok (A A' : Option Addr) (n c c' m : Nat) (rows : List (List Nat)) (sk : List Int) (w : World) (h : RowsR f32v w w.heap.size A n rows) (h' : Reads w w.heap.size 1 A' n (sk.map i64v)) (hv : Valid rows sk) (hlt : frT sk < toT rows sk) (hm : (m : Int) = toT rows sk - frT sk) :
    Calls Tryz.prog 7 #[.slice A n c, .slice A' n c'] w fun e w' => ∃ G gs, e = .returned (.tuple #[.slice (some ⟨G, 0, none⟩) n n, .int .i64 0]) ∧ Laid w' w.heap.size G m gs (algR rows sk) ∧ w'.ownsRow w.heap.size 30 1 (.slice (some ⟨G, 0, none⟩) n n) n (gs.map (sl1 m)) ∧ Below w.heap.size w w' := by
  obtain ⟨i0, hi0, hz0, hz1, hz2⟩ := info_parts info_fls
  have hl := h.1
  have hl' := hv.same
  have h1 := hv.some_
  have h8 := hv.few
  have K1 := Lib.hid (checkRecords_ok A n c rows w h (by omega) (by omega) hv.len hv.fin)
  have K2 := Lib.hid (fun (W : World) (hb : Below w.heap.size w W) => checkSkews_ok A' n c' sk W (h'.later hb) (by omega) hv.small)
  have K3 := Lib.hid (fun (W : World) (hb : Below w.heap.size w W) => commonTimes_ok A A' n c c' rows sk W (h.later hb) (h'.later hb) (by omega) hv.len hv.small)
  have HGE := Lib.hid (frT_ge sk)
  have HLE := Lib.hid (toT_le rows sk hl')
  have HSU := Lib.hid (algR_succ rows sk)
  have hal : (algR rows sk).length = n := by unfold algR; rw [List.length_zipWith]; omega
  have hbd := frT_bd sk hv.small
  have hbt := toT_bd rows sk
  have HLEN := Lib.hid hv.len
  have HS := Lib.hid hv.small
  generalize algR rows sk = R at *
  generalize toT rows sk = tt at *
  generalize frT sk = fr at *
  have hd : decide (tt ≤ fr) = false := by simpa using hlt
  have hn8 : n ≤ 8 := by omega
  have hn1 : 1 ≤ n := by omega
  have HL := Lib.hid hl
  have HL' := Lib.hid hl'
  have HAL := Lib.hid hal
  have HM := Lib.hid hm
  clear hl hl' h1 h8 hv hal hm
  go_enter Tryz.func7, Tryz.ntmps7
  go_wp2_with fail
  refine K1.out.mono ?_
  rintro e w1 ⟨rfl, hb1⟩
  go_wp2_with fail
  refine (K2.out w1 hb1).mono ?_
  rintro e w2 ⟨rfl, hb2⟩
  have hB2 := hb1.trans (hb2.mono hb1.size)
  go_wp2_with fail
  refine (cfirst_two 0 0 w2 31 w2.heap.size rfl).mono ?_
  rintro e w3 ⟨rfl, rfl⟩
  have hB3 : Below w.heap.size w (w2.alloc (.cells #[.int .i64 0, .int .i64 0] 31)) := hB2.alloc hB2.size _
  generalize w2.alloc (.cells #[.int .i64 0, .int .i64 0] 31) = w3 at *
  go_wp2_with fail
  refine (K3.out w3 hB3).mono ?_
  rintro e w4 ⟨rfl, rfl⟩
  go_wp2_with (at_make; refine wpList_make_full _ rfl _ _ 22 rfl w3.heap.size 30 i0 (.slice none 0 0) 1 Tryz.underlying22 hi0 hz0 hz1 _ _ _ _ n rfl rfl (by omega) (by omega) ?b2 ?b3 (Nat.le_refl _) ?_)
  case b2 => rw [hz2]; omega
  case b3 => unfold maxLen; omega
  intro w5 hown0 hgrow0
  rw [toList_madeCells_one] at hown0
  have hB5 : Below w.heap.size w w5 := hB3.trans ((gnone hgrow0 (Nat.le_refl _)).mono hB3.size)
  have hle := hB3.size
  have hG5 := (own_lt hown0).2
  have hown1 := own_mono hown0 hle
  clear hgrow0 hown0
  generalize w3.heap.size = G at *
  go_wp2
  go_loopg [37] n (fun q s W => ∃ k : Nat, k ≤ n ∧ s = .int .i64 k ∧ n - k ≤ q ∧ (∃ gs : List Nat, Hid (gs.length = k) ∧ Laid W w.heap.size G m gs (R.take k) ∧ W.ownsRow w.heap.size 30 1 (.slice (some ⟨G, 0, none⟩) n n) n (gs.map (sl1 m) ++ List.replicate (n - k) (.slice none 0 0))) ∧ Below w.heap.size w W ∧ G < W.heap.size)
  case atStart => exact ⟨0, Nat.zero_le _, rfl, by omega, ⟨[], rfl, ⟨by simp, fun i hi _ => by simp at hi⟩, by simpa using hown1⟩, hB5, hG5⟩
  case round =>
    obtain ⟨k, hk, rfl, hq, ⟨gs, hgs, hlaid, hown⟩, hbel, hGr⟩ := hrel
    by_cases h0 : k < n
    · obtain ⟨ad, hkl, A1, c1, rfl, hbb, hcell, hlc, hcm, hrd⟩ := (h.below hbel).row h0
      obtain ⟨ad', hkl', rfl, hbb', hcell'⟩ := (h'.below hbel).cellM h0
      have hL := HLEN.out rows[k] (List.getElem_mem hkl)
      have hS := HS.out sk[k] (List.getElem_mem hkl')
      have hge := HGE.out sk[k] (List.getElem_mem hkl')
      have hle2 := HLE.out k hkl hkl'
      have hsu := HSU.out k hkl hkl'
      unfold i64v at hcell'
      obtain ⟨lo, hlo⟩ : ∃ lo : Nat, (lo : Int) = fr + sk[k] := ⟨(fr + sk[k]).toNat, by omega⟩
      obtain ⟨hi, hhi⟩ : ∃ hi : Nat, (hi : Int) = tt + sk[k] := ⟨(tt + sk[k]).toNat, by omega⟩
      have hm2 := HM.out
      have hml : hi - lo = m := by omega
      have hb1' : lo < hi := by omega
      have hb2' : hi ≤ rows[k].length := by omega
      obtain ⟨a1, rfl, ha1, _⟩ := hrd.2 (by omega)
      have hcut := (hrd.dropN (k := lo) (by omega)).take (m := m) (by omega)
      rw [← List.map_drop, ← List.map_take] at hcut
      have he1 : ((rows[k].drop lo).take m).map posz = alg1 fr tt rows[k] sk[k] := by
        unfold alg1
        rw [← hlo, ← hm2]; rfl
      have hT := trn_posz (some (a1.add lo)) m (c1 - lo) ((rows[k].drop lo).take m) wr.drew (hcut.more hbel.size) (by omega)
      rw [he1] at hT
      rw [← he1] at hsu
      have hrl : (((rows[k].drop lo).take m).map posz).length = m := by rw [List.length_map]; exact hcut.lenM
      rw [he1] at hsu hrl
      generalize alg1 fr tt rows[k] sk[k] = r at *
      generalize rows[k].length = L at *
      have hx1 : IntKind.i64.wrap (fr + sk[k]) = (lo : Int) := by rw [← hlo]; exact IntWalk.i64_in _ (by omega)
      have hx2 : IntKind.i64.wrap (tt + sk[k]) = (hi : Int) := by rw [← hhi]; exact IntWalk.i64_in _ (by omega)
      generalize sk[k] = s at *
      have HT := Lib.hid hT
      have HSU2 := Lib.hid hsu
      have HRL := Lib.hid hrl
      have hy1 : (0 : Int) ≤ (lo : Int) := by omega
      have hy2 : (lo : Int) ≤ (hi : Int) := by omega
      have hy3 : (hi : Int) ≤ (c1 : Int) := by omega
      have hy4 : c1 ≠ lo := by omega
      have hy5 : (0 : Int) ≤ (k : Int) := by omega
      have hy6 : (k : Int) < (n : Int) := by omega
      have hne : (⟨G, k, none⟩ : Addr) ≠ ad'.add k := fun e => by
        have := congrArg Addr.block e
        rw [block_of_add] at this
        have : G = ad'.block := this
        omega
      clear hT hsu hrl hlo hhi hm2 he1 hcut
      go_wp2_with fail
      go_region_held3 (fun w' => w'.cell? (ad'.add k) = some (.int .i64 s))
        ((first | exact hcell' | exact y6 | exact (World.cell?_setCell_other _ _ _ _ hne).trans y6))
        ((go_at_call 26; refine (HT.out).mono ?_; rintro e w6 ⟨rfl, ho6, hb6'⟩; have hb6 : Below wr.heap.size wr w6 := ⟨hb6'.os, hb6'.tape, hb6'.output, hb6'.size, hb6'.block⟩; clear hb6'; have hr6 := own_kept hown (only_of_below hb6 none) (by simp); obtain ⟨v6, hc6⟩ := own_cell hr6 k h0; have hf6 := own_free hr6 k; have y6 := (hb6.cell (by rw [block_of_add]; exact Nat.lt_of_lt_of_le hbb' hbel.size)).trans hcell'))
      go_wp2
      go_roundg (n - (k + 1))
      case measure => omega
      case rel =>
        have hlw : w.heap.size ≤ wr.heap.size := hbel.size
        refine ⟨k + 1, by omega, by go_num, Nat.le_refl _, ⟨gs ++ [wr.heap.size], ?_, ?_, ?_⟩, ?_, ?_⟩
        · show (gs ++ [wr.heap.size]).length = k + 1
          rw [List.length_append, hgs.out]; rfl
        · rw [HSU2.out]
          exact ((hlaid.below hb6).snoc hGr HRL.out (own_mono ho6 hlw)).set k _
        · have hq1 := own_set hr6 k (sl1 m wr.heap.size)
          rw [set_gs m gs _ n k wr.heap.size h0 hgs.out] at hq1
          exact hq1
        · exact (hbel.trans (hb6.mono hlw)).setCell (p := ⟨G, k, none⟩) hle _
        · rw [show ∀ (p : Addr) (u : Value), (w6.setCell p u).heap.size = w6.heap.size from fun p u => by simp [World.setCell]]
          exact Nat.lt_of_lt_of_le hGr hb6.size
    · obtain rfl : k = n := by omega
      have e1 : R.take k = R := List.take_of_length_le (by rw [HAL.out]; exact Nat.le_refl _)
      rw [e1] at hlaid
      rw [Nat.sub_self, List.replicate_zero, List.append_nil] at hown
      go_wp2
      go_ret2
      exact ⟨_, gs, rfl, hlaid, hown, hbel⟩

end Go.Proofs.YthmiamppfncfoaaGreatDoor
