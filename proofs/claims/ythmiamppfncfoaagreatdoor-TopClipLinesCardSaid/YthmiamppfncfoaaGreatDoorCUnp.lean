/- Contracts of slices.ContainsFunc at zeros, and of probe's Unpack. -/
import Derived.Test.YthmiamppfncfoaaGreatDoorCPl2
import Derived.Deep.MidRow
import Derived.Maps.AppendAt
namespace Go.Proofs.YthmiamppfncfoaaGreatDoor
open Go.RowKit

theorem unp1_zero (w : World) : Calls Tryz.prog 38 #[.int .u16 0] w fun e w' => e = .returned (.bool false) ∧ w = w' := by
  go_enter Tryz.func38, Tryz.ntmps38
  go_wp2
  go_ret
  exact ⟨rfl, rfl⟩
theorem unp1_enter (args : Array Value) (w : World) : (callFunc 38 args).run Tryz.prog w = .ok (.enter 38 args) w := by kernel_rfl

set_option maxHeartbeats 1000000 in
theorem indexFunc_zero (A : Option Addr) (n c : Nat) (w : World) (h : Reads w w.heap.size 1 A n (List.replicate n (u16v 0))) (hn : n ≤ 65536) :
    Calls Tryz.prog 62 #[.slice A n c, .func (.func 38) #[] #[]] w fun e w' => e = .returned (.int .i64 (-1)) ∧ w = w' := by
  have eg := unp1_enter
  have HC := Lib.hid (unp1_zero w)
  go_enter Tryz.func62, Tryz.ntmps62
  go_wp2
  go_loop [8] (fun s => ∃ k : Nat, k ≤ n ∧ s = .int .i64 k) (fun s => n - (intOf s).toNat)
  case atStart => exact ⟨0, Nat.zero_le _, rfl⟩
  case round =>
    obtain ⟨k, hk, rfl⟩ := hrel
    by_cases h0 : k < n
    · obtain ⟨ad, u, rfl, hbb, hu, hcell⟩ := h.at_ h0
      rw [List.getElem?_replicate, if_pos h0] at hu
      injection hu with hu
      subst hu
      unfold u16v at hcell
      simp only [Int.natCast_zero] at hcell
      go_wp2_with (go_at_fn 38; refine HC.out.mono ?_; rintro e w' ⟨rfl, rfl⟩)
      go_round
      case rel => exact ⟨k + 1, by omega, by go_num⟩
      case measure => simp [intOf]; omega
    · go_wp2
      go_ret
      exact ⟨rfl, rfl⟩
theorem containsFunc_zero (A : Option Addr) (n c : Nat) (w : World) (h : Reads w w.heap.size 1 A n (List.replicate n (u16v 0))) (hn : n ≤ 65536) :
    Calls Tryz.prog 37 #[.slice A n c, .func (.func 38) #[] #[]] w fun e w' => e = .returned (.bool false) ∧ w = w' := by
  have HC := Lib.hid (indexFunc_zero A n c w h hn)
  clear h
  go_enter Tryz.func37, Tryz.ntmps37
  go_wp2_with fail
  refine HC.out.mono ?_
  rintro e w1 ⟨rfl, rfl⟩
  go_wp2_with fail
  go_ret
  exact ⟨rfl, rfl⟩

theorem Reads.dropN {w : World} {B n k : Nat} {ad : Addr} {xs : List Value} (h : Reads w B 1 (some ad) n xs) (hk : k ≤ n) : Reads w B 1 (some (ad.add k)) (n - k) (xs.drop k) := by
  refine ⟨by rw [List.length_drop, h.1]; omega, fun h0 => ?_⟩
  obtain ⟨ad', e, hb, hc⟩ := h.2 (by omega)
  injection e with e
  subst e
  refine ⟨_, rfl, by rw [block_of_add]; exact hb, fun j u hu => ?_⟩
  rw [add_of_add]
  rw [List.getElem?_drop] at hu
  exact hc _ u hu
theorem own_setRow {w : World} {base size n : Nat} {e : TypeId} {v : Value} {xs : List Value} (h : w.ownsRow base e size v n xs) (o : Obj) (cs : Array Value) : ((w.alloc o).setRow w.heap.size cs).ownsRow base e size v n xs :=
  (h.alloc o).kept (row := some w.heap.size) ⟨rfl, rfl, rfl, by simp [World.setRow], fun k _ hk => setRow_other (w.alloc o) w.heap.size k cs (fun e => hk (by rw [e]))⟩ (.inr (fun e => Nat.lt_irrefl _ (World.ownsRow.lt h _ e).2))
theorem cell_setRow (w : World) (t : TypeId) (old : Array Value) (cs : List Value) : ∀ j u, cs[j]? = some u → ((w.alloc (.cells old t)).setRow w.heap.size cs.toArray).cell? ((⟨w.heap.size, 0, none⟩ : Addr).add j) = some u := by
  intro j u hj
  have h := setRow_heap (w.alloc (.cells old t)) w.heap.size old cs.toArray t (0, 0) (heap_alloc_new w _)
  have e : (⟨w.heap.size, 0, none⟩ : Addr).add j = ⟨w.heap.size, j, none⟩ := by unfold Addr.add; by_cases hj : j = 0 <;> simp [hj]
  rw [e, cell_of_row _ w.heap.size j cs.toArray t (0, 0) h]
  simpa using hj
theorem below_setRow_new {B : Nat} {w0 w : World} (h : Below B w0 w) (hB : B ≤ w.heap.size) (o : Obj) (cs : Array Value) : Below B w0 ((w.alloc o).setRow w.heap.size cs) := below_setRow (h.alloc hB o) hB cs

set_option maxHeartbeats 1000000 in
set_option maxRecDepth 100000 in
theorem unpack_ok (g n c : Nat) (ws : List Nat) (F : List Value) (w : World) (hblk : w.heap[g]? = some (.cells F.toArray 78 (0, 0))) (hF : F = ws.map u16v ++ List.replicate (16 * ((n + 15) / 16) - n) (u16v 0)) (hl : ws.length = n) (h0 : 1 ≤ n) (hn : n ≤ 4096) :
    Calls Tryz.prog 11 #[.slice (some ⟨g, 0, none⟩) ((n + 15) / 16) c, .int .i64 n] w fun e w' => ∃ A', e = .returned (.tuple #[.slice A' n n, .int .i64 0]) ∧ Reads w' w'.heap.size 1 A' n (ws.map u16v) ∧ Below w.heap.size w w' := by
  obtain ⟨i0, hi0, hz0, hz1, hz2⟩ := info_parts info_u16
  have hone : ∀ v ∈ F, v.oneCell' = true := by
    intro v hv
    rw [hF, List.mem_append] at hv
    rcases hv with hv | hv
    · exact u16v_one ws v hv
    · rw [(List.mem_replicate.1 hv).2]; rfl
  have hlen : F.length = 16 * ((n + 15) / 16) := by
    rw [hF, List.length_append, List.length_map, List.length_replicate, hl]; omega
  have hg : g < w.heap.size := (Array.getElem?_eq_some_iff.1 hblk).1
  have e1 : (if (256 : Int) < (((n + 15) / 16 : Nat) : Int) then (5 : Int) else 0) = 0 := if_neg (by omega)
  have H1 := catMost_block (some ⟨g, 0, none⟩) ((n + 15) / 16) c 256 w
  rw [e1] at H1
  have H2 := cinRange_any (n : Int) 0 4096 w
  have hr : rangeE (n : Int) 0 4096 = 0 := by unfold rangeE; rw [if_neg (by omega)]
  rw [hr] at H2
  have H3 := fun W : World => blocksFor_any n W hn
  have hk1 : 16 * ((n + 15) / 16) - n ≤ 16 := by omega
  have hk2 : n ≤ 16 * ((n + 15) / 16) := by omega
  have hk3 : (n + 15) / 16 ≤ 256 := by omega
  have hk4 : 1 ≤ (n + 15) / 16 := by omega
  generalize (n + 15) / 16 = k at *
  have K1 := Lib.hid H1
  have K2 := Lib.hid H2
  have K3 := Lib.hid H3
  have HB := Lib.hid hblk
  have HF := Lib.hid hF
  have HL := Lib.hid hlen
  have HWL := Lib.hid hl
  have HONE := Lib.hid hone
  clear H1 H2 H3 e1 hr hblk hF hlen hl hone
  go_enter Tryz.func11, Tryz.ntmps11
  go_wp2_with fail
  refine K1.out.mono ?_
  rintro e w1 ⟨rfl, rfl⟩
  go_wp2_with fail
  refine K2.out.mono ?_
  rintro e w1 ⟨rfl, rfl⟩
  go_wp2_with fail
  refine (cfirst_two 0 0 w 31 w.heap.size rfl).mono ?_
  rintro e w1 ⟨rfl, rfl⟩
  have hb1 : Below w.heap.size w (w.alloc (.cells #[.int .i64 0, .int .i64 0] 31)) := (Below.refl _ _).alloc (Nat.le_refl _) _
  generalize w.alloc (.cells #[.int .i64 0, .int .i64 0] 31) = w1 at *
  go_wp2_with fail
  refine (K3.out _).mono ?_
  rintro e w2 ⟨rfl, rfl⟩
  have hkk : ((k : Int) != (k : Int)) = false := by simp
  have hw1 : wrap64 ((k : Int) * 16) = ((16 * k : Nat) : Int) := by rw [IntWalk.wrap64_in _ (by omega)]; omega
  go_wp2_with (at_make; refine wpList_make_own _ rfl _ _ 39 rfl w1.heap.size 63 i0 (.int .u16 0) 1 Tryz.underlying39 hi0 hz0 hz1 _ _ _ (16 * k) rfl rfl (by omega) ?b2 ?b3 (Nat.le_refl _) ?_)
  case b2 => rw [hz2]; omega
  case b3 => unfold maxLen; omega
  intro w2 hown0 hgrow0
  have hB2 : Below w.heap.size w w2 := hb1.trans ((gnone hgrow0 (Nat.le_refl _)).mono hb1.size)
  have hle := hb1.size
  have hG2 := hgrow0.size
  clear hgrow0 hkk hw1
  generalize w1.heap.size = G at *
  go_wp2
  go_loopg [7, 30] k (fun q v s W => ∃ i : Nat, i ≤ k ∧ s = .int .i64 i ∧ k - i ≤ q ∧ W.ownsRow G 63 1 v (16 * i) (F.take (16 * i)) ∧ Below w.heap.size w W ∧ G ≤ W.heap.size)
  case atStart => exact ⟨0, Nat.zero_le _, rfl, by omega, by simpa using hown0, hB2, hG2⟩
  case round =>
    obtain ⟨i, hi, rfl, hq, hown, hbel, hGr⟩ := hrel
    by_cases hik : i < k
    · have hcl : ((F.drop (16 * i)).take 16).length = 16 := by rw [List.length_take, List.length_drop, HL.out]; omega
      have hrg : wr.rangeAt g (i * 16) ((F.drop (16 * i)).take 16) := by
        intro j v hj
        have hb9 : wr.heap[g]? = some (.cells F.toArray 78 (0, 0)) := (hbel.block g hg).trans HB.out
        rw [cell_of_row wr g (i * 16 + j) F.toArray 78 (0, 0) hb9]
        rw [List.getElem?_take] at hj
        split at hj
        · rw [List.getElem?_drop] at hj
          rw [List.getElem?_toArray, Nat.mul_comm i 16]; exact hj
        · cases hj
      have hon : ∀ v ∈ (F.drop (16 * i)).take 16, v.oneCell' = true := fun v hv => HONE.out v (List.mem_of_mem_drop (List.mem_of_mem_take hv))
      have htk : F.take (16 * i) ++ (F.drop (16 * i)).take 16 = F.take (16 * (i + 1)) := by rw [← List.take_add, show 16 * i + 16 = 16 * (i + 1) from by omega]
      generalize (F.drop (16 * i)).take 16 = cs at *
      have HTK := Lib.hid htk
      have HRG := Lib.hid hrg
      have HON := Lib.hid hon
      have HCL := Lib.hid hcl
      have hi78 : (Tryz.prog.info? 78).map (·.size) = some cs.toArray.size := by
        rw [List.size_toArray, HCL.out]; kernel_rfl
      have hi78' : (Tryz.prog.info? 78).map (·.size) = some cs.length := by
        rw [HCL.out]; kernel_rfl
      have H78 := Lib.hid hi78
      have H78' := Lib.hid hi78'
      have hsz16 : (16 : Nat) = cs.toArray.size := by rw [List.size_toArray, HCL.out]
      have HSZ := Lib.hid hsz16
      clear htk hrg hon hcl hi78 hi78' hsz16
      go_wp2_with (first
        | (refine wpList_load_mid rfl 78 (.tmp 32) rfl g (i * 16) rfl cs _ HRG.out Tryz.underlying78 rfl H78'.out ?_)
        | (refine wpList_store_row rfl 78 (.tmp 9) (.tmp 33) rfl wr.heap.size cs.toArray rfl rfl 78 _ (heap_alloc_new _ _) H78.out HSZ.out (all_oneCell_toArray HON.out) ?_)
        | (at_builtin; refine wpList_append_own _ rfl _ _ 39 rfl G 63 i0 (.int .u16 0) 1 2 Tryz.underlying39 hi0 hz0 hz1 hz2 rfl (by decide) _ _ _ rfl (own_setRow hown _ _) ⟨wr.heap.size, 0, none⟩ 16 16 cs rfl HCL.out ?c1 HON.out ?c3 ?c4 ?c5 ?_))
      case c1 => exact cell_setRow _ _ _ _
      case c3 => unfold maxLen; omega
      case c4 => omega
      case c5 => simp [World.setRow]; omega
      intro v' w3 hown' hgrow _
      have hb3 : Below w.heap.size w w3 := (below_setRow_new hbel hbel.size _ _).grown hgrow (by have := hbel.size; simp [World.setRow]; omega) (fun g hg => Nat.le_trans hle (World.ownsRow.lt hown g hg).1)
      have hG3 : G ≤ w3.heap.size := Nat.le_trans (by simp [World.setRow]; omega) hgrow.size
      rw [HTK.out] at hown'
      clear hgrow hown
      go_wp2
      go_roundg (k - (i + 1))
      case measure => omega
      case rel => exact ⟨i + 1, by omega, by go_num, Nat.le_refl _, by rw [show 16 * (i + 1) = 16 * i + 16 from by omega] at hown' ⊢; exact hown', hb3, hG3⟩
    · obtain rfl : i = k := by omega
      rw [List.take_of_length_le (by rw [HL.out]; exact Nat.le_refl _)] at hown
      obtain ⟨A, c', rfl, hcc, hcm, hrd⟩ := own_slice hown
      obtain ⟨ad, rfl, hadb, _⟩ := hrd.2 (by omega)
      have hd := hrd.dropN hk2
      have htw := hrd.take hk2
      rw [HF.out, List.drop_append_of_le_length (by rw [List.length_map, HWL.out]; exact Nat.le_refl _), List.drop_eq_nil_of_le (by rw [List.length_map, HWL.out]; exact Nat.le_refl _), List.nil_append] at hd
      rw [HF.out, List.take_append_of_le_length (by rw [List.length_map, HWL.out]; exact Nat.le_refl _), List.take_of_length_le (by rw [List.length_map, HWL.out]; exact Nat.le_refl _)] at htw
      have HD := Lib.hid hd
      have HTW := Lib.hid htw
      unfold maxLen at hcm
      have b1 : (0 : Int) ≤ (n : Int) := by omega
      have b2 : (n : Int) ≤ (c' : Int) := by omega
      have b3 : (n : Int) ≤ ((16 * i : Nat) : Int) := by omega
      clear hd htw hown hrd
      by_cases hcn : c' = n
      · have hz16 : 16 * i - n = 0 := by omega
        have hzr : Reads wr wr.heap.size 1 (some ad) (16 * i - n) (List.replicate (16 * i - n) (u16v 0)) := by
          rw [hz16]; exact ⟨rfl, fun h => absurd h (by omega)⟩
        have HZ := Lib.hid hzr
        clear hzr hz16
        go_wp2_with fail
        refine (containsFunc_zero _ (16 * i - n) _ wr HZ.out (by omega)).mono ?_
        rintro e w4 ⟨rfl, rfl⟩
        go_wp2_with fail
        go_ret2
        exact ⟨_, rfl, HTW.out, hbel⟩
      · go_wp2_with fail
        refine (containsFunc_zero _ (16 * i - n) _ wr HD.out (by omega)).mono ?_
        rintro e w4 ⟨rfl, rfl⟩
        go_wp2_with fail
        go_ret2
        exact ⟨_, rfl, HTW.out, hbel⟩

end Go.Proofs.YthmiamppfncfoaaGreatDoor
