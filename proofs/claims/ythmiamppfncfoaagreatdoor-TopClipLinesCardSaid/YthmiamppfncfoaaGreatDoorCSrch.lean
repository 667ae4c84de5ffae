/- Contract of sort.Search, of a predicate that lays blocks of its own. -/
import Derived.Test.YthmiamppfncfoaaGreatDoorCMem
import Derived.Deep.LoopGhost
import Derived.Shelf.SlSorted.Search
namespace Go.Proofs.YthmiamppfncfoaaGreatDoor
open Go.RowKit

set_option maxHeartbeats 2000000 in
set_option maxRecDepth 100000 in
theorem search_any (g : Nat) (cb : Array Value) (n k : Nat) (p : Nat → Bool) (w : World) (eg : ∀ args w, (callFunc g args).run Tryz.prog w = .ok (.enter g args) w) (hsz : n < 4611686018427387904)
    (hk : k ≤ n) (hlo : ∀ t, t < k → p t = false) (hhi : ∀ t, k ≤ t → t < n → p t = true)
    (hf : ∀ (W : World) (i : Nat), Below w.heap.size w W → i < n → Calls Tryz.prog g (#[.int .i64 i] ++ cb) W fun e w' => e = .returned (.bool (p i)) ∧ Below w.heap.size W w') :
    Calls Tryz.prog 67 #[.int .i64 n, .func (.func g) #[] cb] w fun e w' => e = .returned (.int .i64 k) ∧ Below w.heap.size w w' := by
  have HF := Lib.hid hf
  have HL := Lib.hid hlo
  have HH := Lib.hid hhi
  clear hf hlo hhi
  go_enter Tryz.func67, Tryz.ntmps67
  go_wp2
  go_loopg [5, 6] n (fun m s5 s6 W => ∃ lo hi : Nat, s5 = .int .i64 lo ∧ s6 = .int .i64 hi ∧ lo ≤ k ∧ k ≤ hi ∧ hi ≤ n ∧ hi - lo ≤ m ∧ Below w.heap.size w W)
  case atStart => exact ⟨0, n, rfl, rfl, Nat.zero_le _, hk, Nat.le_refl _, by omega, Below.refl _ _⟩
  case round =>
    obtain ⟨lo, hi, rfl, rfl, h1, h2, h3, h4, hb⟩ := hrel
    by_cases hlt : lo < hi
    · obtain ⟨mid, hm, hm1, hm2⟩ : ∃ mid : Nat, ((lo : Int) + (hi : Int)) / 2 = (mid : Int) ∧ lo ≤ mid ∧ mid < hi := ⟨(lo + hi) / 2, by omega, by omega, by omega⟩
      have hc := HF.out wr mid hb (by omega)
      have hsz2 := hb.size
      by_cases hp : p mid = true
      · have hkm : k ≤ mid := by
          rcases Nat.lt_or_ge mid k with h | h
          · have := HL.out mid h; rw [hp] at this; cases this
          · exact h
        rw [hp] at hc
        have HC := Lib.hid hc
        clear hc hp
        go_wp2_with (go_at_fn g; refine HC.out.mono ?_; rintro e w' ⟨rfl, hb2⟩)
        go_roundg (mid - lo)
        case measure => omega
        case rel => exact ⟨lo, mid, rfl, rfl, h1, hkm, by omega, Nat.le_refl _, hb.trans hb2⟩
      · have hpf : p mid = false := by simpa using hp
        have hkm : mid < k := by
          rcases Nat.lt_or_ge mid k with h | h
          · exact h
          · exact absurd (HH.out mid h (by omega)) hp
        rw [hpf] at hc
        have HC := Lib.hid hc
        clear hc hp hpf
        go_wp2_with (go_at_fn g; refine HC.out.mono ?_; rintro e w' ⟨rfl, hb2⟩)
        go_roundg (hi - (mid + 1))
        case measure => omega
        case rel => exact ⟨mid + 1, hi, by rw [Int.natCast_add]; rfl, rfl, hkm, h2, h3, Nat.le_refl _, hb.trans hb2⟩
    · obtain rfl : lo = k := by omega
      obtain rfl : hi = lo := by omega
      go_wp2
      go_ret
      exact ⟨rfl, hb⟩

end Go.Proofs.YthmiamppfncfoaaGreatDoor
