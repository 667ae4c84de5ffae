/- Plain lists: words laid out in blocks of 16. -/
import Derived.Test.YthmiamppfncfoaaGreatDoorCWords
import Derived.Laws.CopyOwn
import Derived.Test.YthmiamppfncfoaaGreatDoorCWd2
import Derived.StillTailTactics
import Derived.IntWalk
namespace Go.Proofs.YthmiamppfncfoaaGreatDoor

def flatB {α : Type} (z : α) (ws : List α) (k i : Nat) : List α := ws.take (16 * i) ++ List.replicate (16 * k - min (16 * i) ws.length) z
theorem flatB_zero {α : Type} (z : α) (ws : List α) (k : Nat) : flatB z ws k 0 = List.replicate (16 * k) z := by simp [flatB]
theorem flatB_len {α : Type} (z : α) (ws : List α) (k i : Nat) (h : i ≤ k) : (flatB z ws k i).length = 16 * k := by
  unfold flatB
  rw [List.length_append, List.length_take, List.length_replicate]
  omega
theorem flatB_step {α : Type} (z : α) (ws : List α) (k i : Nat) (hi : 16 * i < ws.length) (hk : ws.length ≤ 16 * k) : splice (flatB z ws k i) (16 * i) ((ws.drop (16 * i)).take 16) = flatB z ws k (i + 1) := by
  unfold splice flatB
  have hl : (ws.take (16 * i)).length = 16 * i := by rw [List.length_take]; omega
  have e1 : (ws.take (16 * i) ++ List.replicate (16 * k - min (16 * i) ws.length) z).take (16 * i) = ws.take (16 * i) := by
    rw [List.take_append_of_le_length (by omega), List.take_of_length_le (by omega)]
  have hc : ((ws.drop (16 * i)).take 16).length = min 16 (ws.length - 16 * i) := by rw [List.length_take, List.length_drop]
  have e2 : (ws.take (16 * i) ++ List.replicate (16 * k - min (16 * i) ws.length) z).drop (16 * i + ((ws.drop (16 * i)).take 16).length) = List.replicate (16 * k - min (16 * (i + 1)) ws.length) z := by
    rw [hc, List.drop_append, List.drop_eq_nil_of_le (by omega), List.nil_append, List.drop_replicate, hl]
    congr 1
    omega
  rw [e1, e2, ← List.append_assoc]
  congr 1
  rw [show 16 * (i + 1) = 16 * i + 16 from by omega, List.take_add]
theorem flatB_end {α : Type} (z : α) (ws : List α) (k : Nat) (hk : ws.length ≤ 16 * k) : flatB z ws k k = ws ++ List.replicate (16 * k - ws.length) z := by
  unfold flatB
  rw [List.take_of_length_le hk, Nat.min_eq_right hk]

end Go.Proofs.YthmiamppfncfoaaGreatDoor

/- Contracts of probe's blocksFor and Blocks. -/
namespace Go.Proofs.YthmiamppfncfoaaGreatDoor
open Go.RowKit

theorem info_blk : (Tryz.prog.info? 78).map (fun i => (i.zero, i.size, i.bytes)) = some (some (.agg #[.int .u16 0, .int .u16 0, .int .u16 0, .int .u16 0, .int .u16 0, .int .u16 0, .int .u16 0, .int .u16 0, .int .u16 0, .int .u16 0, .int .u16 0, .int .u16 0, .int .u16 0, .int .u16 0, .int .u16 0, .int .u16 0]), 16, 32) := by kernel_rfl

theorem made_blk (k : Nat) : (madeCells #[Value.int .u16 0, .int .u16 0, .int .u16 0, .int .u16 0, .int .u16 0, .int .u16 0, .int .u16 0, .int .u16 0, .int .u16 0, .int .u16 0, .int .u16 0, .int .u16 0, .int .u16 0, .int .u16 0, .int .u16 0, .int .u16 0] k).toList = List.replicate k (u16v 0) := by
  apply List.ext_getElem?
  intro j
  by_cases hj : j < k
  · have h16 : j % 16 < 16 := Nat.mod_lt _ (by omega)
    rw [List.getElem?_replicate, if_pos hj]
    simp [madeCells, hj]
    generalize j % 16 = q at *
    rcases (show q = 0 ∨ q = 1 ∨ q = 2 ∨ q = 3 ∨ q = 4 ∨ q = 5 ∨ q = 6 ∨ q = 7 ∨ q = 8 ∨ q = 9 ∨ q = 10 ∨ q = 11 ∨ q = 12 ∨ q = 13 ∨ q = 14 ∨ q = 15 from by omega) with rfl | rfl | rfl | rfl | rfl | rfl | rfl | rfl | rfl | rfl | rfl | rfl | rfl | rfl | rfl | rfl <;> rfl
  · simp [madeCells, hj]

theorem blocksFor_any (n : Nat) (w : World) (hn : n ≤ 4096) : Calls Tryz.prog 34 #[.int .i64 n] w fun e w' => e = .returned (.int .i64 ((n + 15) / 16 : Nat)) ∧ w = w' := by
  have e1 : ((n : Int) + 16 - 1) / 16 = (((n + 15) / 16 : Nat) : Int) := by omega
  have HE := Lib.hid e1
  clear e1
  go_enter Tryz.func34, Tryz.ntmps34
  go_wp2
  go_ret
  exact ⟨by rw [← HE.out]; rfl, rfl⟩

set_option maxHeartbeats 600000 in
set_option maxRecDepth 100000 in
theorem blocks_ok (A : Option Addr) (n c : Nat) (ws : List Nat) (w : World) (h : Reads w w.heap.size 1 A n (ws.map u16v)) (hn : n ≤ 4096) (hnc : n ≤ c) (hc : c ≤ maxLen) :
    Calls Tryz.prog 10 #[.slice A n c] w fun e w' => ∃ g, e = .returned (.tuple #[.slice (some ⟨g, 0, none⟩) ((n + 15) / 16) ((n + 15) / 16), .int .i64 0]) ∧
      w'.ownsRow w.heap.size 78 16 (.slice (some ⟨g, 0, none⟩) ((n + 15) / 16) ((n + 15) / 16)) ((n + 15) / 16) (ws.map u16v ++ List.replicate (16 * ((n + 15) / 16) - n) (u16v 0)) ∧ Below w.heap.size w w' := by
  obtain ⟨i0, hi0, hz0, hz1, hz2⟩ := info_parts info_blk
  have e1 : (if (4096 : Int) < (n : Int) then (5 : Int) else 0) = 0 := if_neg (by omega)
  have H1 := catMost_u16 A n c 4096 w
  rw [e1] at H1
  have K1 := Lib.hid H1
  have K2 := Lib.hid (blocksFor_any n w hn)
  have hk1 : n ≤ 16 * ((n + 15) / 16) := by omega
  have hk2 : ∀ i, i < (n + 15) / 16 → 16 * i < n := fun i hi => by omega
  have hk3 : (n + 15) / 16 ≤ 4096 := by omega
  have hwl := h.lenM
  have HK2 := Lib.hid hk2
  have HWL := Lib.hid hwl
  clear H1 e1 hk2 hwl
  unfold maxLen at hc
  generalize (n + 15) / 16 = k at *
  go_enter Tryz.func10, Tryz.ntmps10
  go_wp2_with fail
  refine K1.out.mono ?_
  rintro e w1 ⟨rfl, rfl⟩
  go_wp2_with fail
  refine K2.out.mono ?_
  rintro e w1 ⟨rfl, rfl⟩
  go_wp2_with (at_make; refine wpList_make_full _ rfl _ _ 42 rfl w.heap.size 78 i0 _ 16 Tryz.underlying42 hi0 hz0 hz1 _ _ _ _ k rfl rfl (by omega) (by omega) ?b2 ?b3 (Nat.le_refl _) ?_)
  case b2 => rw [hz2]; omega
  case b3 => unfold maxLen; omega
  intro w2 hown0 hgrow0
  have hB2 : Below w.heap.size w w2 := gnone hgrow0 (Nat.le_refl _)
  have hown1 : w2.ownsRow w.heap.size 78 16 (.slice (some ⟨w.heap.size, 0, none⟩) k k) k (flatB (u16v 0) (ws.map u16v) k 0) := by
    rw [flatB_zero, Nat.mul_comm 16 k, ← made_blk]
    exact hown0
  clear hown0 hgrow0
  go_wp2
  go_loopg [18] k (fun q s W => ∃ i : Nat, i ≤ k ∧ s = .int .i64 i ∧ k - i ≤ q ∧ W.ownsRow w.heap.size 78 16 (.slice (some ⟨w.heap.size, 0, none⟩) k k) k (flatB (u16v 0) (ws.map u16v) k i) ∧ Below w.heap.size w W)
  case atStart => exact ⟨0, Nat.zero_le _, rfl, by omega, hown1, hB2⟩
  case round =>
    obtain ⟨i, hi, rfl, hq, hown, hbel⟩ := hrel
    by_cases h0 : i < k
    · have hin := HK2.out i h0
      obtain ⟨ad, e, hb, hcell⟩ := (h.below hbel).2 (by omega)
      subst e
      have b1 : (0 : Int) ≤ (i : Int) * 16 := by omega
      have b2 : (i : Int) * 16 ≤ (n : Int) := by omega
      have b3 : ((i : Int) * 16).toNat = i * 16 := by omega
      have b4 : c ≠ i * 16 := by omega
      have b5 : IntKind.i64.wrap ((i : Int) * 16) = (i : Int) * 16 := IntWalk.i64_in _ (by omega)
      have hblk := own_block hown
      have hWl : (ws.map u16v).length = n := by rw [List.length_map]; exact HWL.out
      have hst := flatB_step (u16v 0) (ws.map u16v) k i (by rw [hWl]; exact hin) (by rw [hWl]; exact hk1)
      have hfl := flatB_len (u16v 0) (ws.map u16v) k i (by omega)
      have hfl2 := flatB_len (u16v 0) (ws.map u16v) k (i + 1) (by omega)
      have hcl : (((ws.map u16v).drop (16 * i)).take 16).length = min 16 (n - 16 * i) := by rw [List.length_take, List.length_drop, hWl]
      have hsrc : ∀ j v, (((ws.map u16v).drop (16 * i)).take 16)[j]? = some v → wr.cell? ((ad.add (i * 16)).add j) = some v := by
        intro j v hj
        rw [add_of_add, Nat.mul_comm]
        refine hcell _ v ?_
        rw [List.getElem?_take] at hj
        split at hj
        · rw [List.getElem?_drop] at hj; exact hj
        · cases hj
      have hone : ∀ v ∈ ((ws.map u16v).drop (16 * i)).take 16, v.oneCell' = true := fun v hv => u16v_one ws v (List.mem_of_mem_drop (List.mem_of_mem_take hv))
      generalize flatB (u16v 0) (ws.map u16v) k i = F0 at *
      generalize hF1 : flatB (u16v 0) (ws.map u16v) k (i + 1) = F1 at *
      have HE1 := Lib.hid hF1
      clear hF1
      generalize ((ws.map u16v).drop (16 * i)).take 16 = cs at *
      rw [Nat.mul_comm 16 i] at hst
      have HST := Lib.hid hst
      have HF0 := Lib.hid hfl
      have HF1 := Lib.hid hfl2
      have HCL := Lib.hid hcl
      have HSRC := Lib.hid hsrc
      have HBLK := Lib.hid hblk
      have HN : Hid (cs.length = Nat.min (n - i * 16) 16) := by
        unfold Hid
        rw [hcl, Nat.mul_comm 16 i]
        exact Nat.min_comm _ _
      have HFIT : Hid (i * 16 + cs.length ≤ F0.length) := by
        unfold Hid
        rw [hcl, hfl]
        omega
      have info63 : (Tryz.prog.info? 63).map (·.size) = some 1 := by kernel_rfl
      clear hst hfl hfl2 hcl hsrc hblk hcell hWl hown
      go_wp2
      go_still_tail 8, (by kernel_rfl)
      change wpList _ _ _ _ _ wr.drew
      refine wpList_copy_splice rfl (.tmp 24) (.tmp 28) 39 39 rfl 63 Tryz.underlying39 info63 (some ⟨w.heap.size, i * 16, none⟩) (some (ad.add (i * 16))) 16 16 (n - i * 16) (c - i * 16) rfl rfl w.heap.size (i * 16) F0 78 HBLK.out cs HN.out (fun _ => ⟨rfl, _, rfl, HSRC.out⟩) HFIT.out hone w.heap.size w hbel.drew (Nat.le_refl _) ?_
      intro w4 hg4 hb4
      rw [HST.out] at hg4
      go_wp2
      go_roundg (k - (i + 1))
      case measure => omega
      case rel => exact ⟨i + 1, by omega, by go_num, Nat.le_refl _, by rw [HE1.out]; exact own_of_block hg4.out (Nat.le_refl _) (by unfold maxLen; omega) (by rw [HF1.out, Nat.mul_comm]), hb4⟩
    · obtain rfl : i = k := by omega
      rw [flatB_end _ _ _ (by rw [List.length_map, HWL.out]; exact hk1), List.length_map, HWL.out] at hown
      go_wp2
      go_ret2
      exact ⟨_, rfl, hown, hbel⟩

end Go.Proofs.YthmiamppfncfoaaGreatDoor
