/- number.CheckSamples of finite samples. -/
import Derived.Test.YthmiamppfncfoaaGreatDoorCEx1
import Derived.Test.YthmiamppfncfoaaGreatDoorCRws
namespace Go.Proofs.YthmiamppfncfoaaGreatDoor
open Go.RowKit
open Flt

theorem isFinite_ok {b : Nat} (h : fin Ieee.single b = true) (w : World) : Calls Tryz.prog 59 #[.float .f32 b] w fun e w' => e = .returned (.bool true) ∧ w = w' := by
  unfold fin at h
  rcases hr : Ieee.single.read b with ⟨s, m, p⟩ | s | ⟨s, f⟩
  · rcases Nat.eq_zero_or_pos m with rfl | hm
    · exact isFinite_fine w (fine_zero hr)
    · exact isFinite_fine w (fine_pos hr hm)
  · rw [hr] at h; cases h
  · rw [hr] at h; cases h

theorem ncheck1_ok (b : Nat) (i : Int) (w : World) (h : fin Ieee.single b = true) : Calls Tryz.prog 58 #[.int .i64 i, .float .f32 b] w fun e w' => e = .returned (.int .i64 0) ∧ w = w' := by
  have H := Lib.hid (isFinite_ok h w)
  clear h
  go_enter Tryz.func58, Tryz.ntmps58
  go_wp2_with fail
  refine H.out.mono ?_
  rintro e w1 ⟨rfl, rfl⟩
  go_wp2_with fail
  go_ret
  exact ⟨rfl, rfl⟩
theorem ncheck1_enter (args : Array Value) (w : World) : (callFunc 58 args).run Tryz.prog w = .ok (.enter 58 args) w := by kernel_rfl

set_option maxHeartbeats 1000000 in
theorem ncheckList_ok (A : Option Addr) (n c : Nat) (l : List Nat) (w : World) (h : Reads w w.heap.size 1 A n (l.map f32v)) (hf : ∀ x ∈ l, fin Ieee.single x = true) (hn : n ≤ 4096) :
    Calls Tryz.prog 57 #[.slice A n c, .int .i64 0, .int .i64 4096, .func (.func 58) #[] #[]] w fun e w' => e = .returned (.int .i64 0) ∧ w = w' := by
  have HF := Lib.hid hf
  clear hf
  have hd1 : decide ((n : Int) < 0) = false := by simp
  have hd2 : decide (4096 < n) = false := by simpa using (show ¬ (4096 < n) from by omega)
  have eg := ncheck1_enter
  go_enter Tryz.func57, Tryz.ntmps57
  go_wp2
  go_loop [22] (fun s => ∃ k : Nat, k ≤ n ∧ s = .int .i64 k) (fun s => n - (intOf s).toNat)
  case atStart => exact ⟨0, Nat.zero_le _, rfl⟩
  case round =>
    obtain ⟨k, hk, rfl⟩ := hrel
    by_cases h0 : k < n
    · obtain ⟨ad, hkl, rfl, hbb, hcell⟩ := h.cellM h0
      have hx := HF.out l[k] (List.getElem_mem hkl)
      unfold f32v at hcell
      generalize l[k] = x at *
      have HC := Lib.hid (ncheck1_ok x k w hx)
      clear hx
      go_wp2_with (go_at_fn 58; refine HC.out.mono ?_; rintro e w' ⟨rfl, rfl⟩)
      go_round
      case rel => exact ⟨k + 1, by omega, by go_num⟩
      case measure => simp [intOf]; omega
    · go_wp2
      go_ret
      exact ⟨rfl, rfl⟩

theorem ncheckSamples_ok (A : Option Addr) (n c : Nat) (l : List Nat) (w : World) (h : Reads w w.heap.size 1 A n (l.map f32v)) (hf : ∀ x ∈ l, fin Ieee.single x = true) (hn : n ≤ 4096) :
    Calls Tryz.prog 28 #[.slice A n c] w fun e w' => e = .returned (.int .i64 0) ∧ w = w' := by
  have HC := Lib.hid (ncheckList_ok A n c l w h hf hn)
  clear h hf
  go_enter Tryz.func28, Tryz.ntmps28
  go_wp2_with fail
  refine HC.out.mono ?_
  rintro e w1 ⟨rfl, rfl⟩
  go_wp2_with fail
  go_ret
  exact ⟨rfl, rfl⟩

end Go.Proofs.YthmiamppfncfoaaGreatDoor
