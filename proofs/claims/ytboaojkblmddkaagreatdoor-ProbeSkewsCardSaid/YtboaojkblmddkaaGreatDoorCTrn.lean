/- Contract of common.Transformed: the results of a function for the elements of a list; the function may turn one block of its own. -/
import Derived.Test.YtboaojkblmddkaaGreatDoorCCode
import Derived.Deep.LoopGhost
import Derived.Test.YtboaojkblmddkaaGreatDoorCDre
namespace Go.Proofs.YtboaojkblmddkaaGreatDoor
open Go.RowKit

theorem set_step {α : Type} (f : α → Value) (ys : List α) (z : Value) (n k : Nat) (hk : k < ys.length) (hy : ys.length = n) :
    ((ys.take k).map f ++ List.replicate (n - k) z).set k (f ys[k]) = (ys.take (k + 1)).map f ++ List.replicate (n - (k + 1)) z := by
  have hl : ((ys.take k).map f).length = k := by rw [List.length_map, List.length_take]; omega
  rw [List.set_append_right _ _ (by omega), hl, Nat.sub_self, show n - k = (n - (k + 1)) + 1 from by omega, List.replicate_succ, List.set_cons_zero, List.take_succ_eq_append_getElem hk, List.map_append, List.append_assoc]
  rfl
theorem Reads.keptRow {w w' : World} {size n : Nat} {A : Option Addr} {xs : List Value} {row : Option Nat} (h : Reads w w.heap.size size A n xs) (hg : w.grownBy w' row) (ho : ∀ b, row = some b → 0 < n → Off A b) : Reads w' w.heap.size size A n xs :=
  ⟨h.1, fun hn => by
    obtain ⟨ad, e, hb, hc⟩ := h.2 hn
    refine ⟨ad, e, hb, fun j u hu => ?_⟩
    rw [← hc j u hu]
    exact World.cell?_of_block (hg.block (ad.add j).block (by rw [block_of_add]; omega) (by rw [block_of_add]; intro e'; exact ho _ e'.symm hn ad e rfl))⟩
theorem set_start {α : Type} (f : α → Value) (ys : List α) (z : Value) (n : Nat) : (ys.take 0).map f ++ List.replicate (n - 0) z = List.replicate n z := by simp
theorem set_stop {α : Type} (f : α → Value) (ys : List α) (z : Value) (n : Nat) (hy : ys.length = n) : (ys.take n).map f ++ List.replicate (n - n) z = ys.map f := by
  rw [List.take_of_length_le (by omega)]; simp

theorem info_f32 : (Tryz.prog.info? 23).map (fun i => (i.zero, i.size, i.bytes)) = some (some (.float .f32 0), 1, 4) := by kernel_rfl
theorem info_bool : (Tryz.prog.info? 4).map (fun i => (i.zero, i.size, i.bytes)) = some (some (.bool false), 1, 1) := by kernel_rfl
theorem info_err : (Tryz.prog.info? 29).map (fun i => (i.zero, i.size, i.bytes)) = some (some (.int .i64 0), 1, 8) := by kernel_rfl

set_option maxHeartbeats 2000000 in
set_option maxRecDepth 100000 in
theorem trn_ff (g : FuncId) (cb : Array Value) (row : Option Nat) (J : Nat → World → Prop) (A : Option Addr) (n c : Nat) (xs : List Value) (ys : List Nat) (w : World)
    (eg : ∀ args w, (callFunc g args).run Tryz.prog w = .ok (.enter g args) w) (hn : n ≤ 4096) (hx : Reads w w.heap.size 1 A n xs) (hy : ys.length = n)
    (hrow : ∀ b, row = some b → b < w.heap.size ∧ (0 < n → Off A b)) (hJ0 : J 0 w)
    (hJ : ∀ i W W', J i W → (∀ b, row = some b → W'.heap[b]? = W.heap[b]?) → J i W')
    (hf : ∀ (W : World) (i : Nat) (x : Value) (y : Nat), i < n → w.grownBy W row → J i W → xs[i]? = some x → ys[i]? = some y →
      Calls Tryz.prog g (#[x] ++ cb) W fun e W' => e = .returned (f32v y) ∧ W.grownBy W' row ∧ J (i + 1) W') :
    Calls Tryz.prog 78 #[.slice A n c, .func (.func g) #[] cb] w fun e w' =>
      e = .returned (.slice (some ⟨w.heap.size, 0, none⟩) n n) ∧ w'.ownsRow w.heap.size 23 1 (.slice (some ⟨w.heap.size, 0, none⟩) n n) n (ys.map f32v) ∧ w.grownBy w' row ∧ J n w' := by
  obtain ⟨i0, hi0, hz0, hz1, hz2⟩ := info_parts info_f32
  have HF := Lib.hid hf
  have HY := Lib.hid hy
  have HJ := Lib.hid hJ
  have HROW := Lib.hid hrow
  clear hf hy hJ hrow
  go_enter Tryz.func78, Tryz.ntmps78
  go_wp2_with (at_make; refine wpList_make_full _ rfl _ _ 22 rfl w.heap.size 23 i0 (.float .f32 0) 1 Tryz.underlying22 hi0 hz0 hz1 _ _ _ _ n rfl rfl (by omega) (by omega) ?b2 ?b3 (Nat.le_refl _) ?_)
  case b2 => rw [hz2]; omega
  case b3 => unfold maxLen; omega
  intro w0 hown0 hgrow0
  rw [toList_madeCells_one] at hown0
  have hr0 : w.grownBy w0 row := ⟨hgrow0.os, hgrow0.tape, hgrow0.output, hgrow0.size, fun i hi _ => hgrow0.block i hi (by simp)⟩
  have hJ1 : J 0 w0 := HJ.out 0 w w0 hJ0 (fun b hb => hgrow0.block b (HROW.out b hb).1 (by simp))
  go_wp2
  go_loopg [13] n (fun m s W => ∃ k : Nat, k ≤ n ∧ s = .int .i64 k ∧ n - k ≤ m ∧ W.ownsRow w.heap.size 23 1 (.slice (some ⟨w.heap.size, 0, none⟩) n n) n ((ys.take k).map f32v ++ List.replicate (n - k) (.float .f32 0)) ∧ w.grownBy W row ∧ J k W)
  case atStart => exact ⟨0, Nat.zero_le _, rfl, by omega, by rw [set_start]; simpa using hown0, hr0, hJ1⟩
  case round =>
    obtain ⟨k, hk, rfl, hm, hown, hg, hJk⟩ := hrel
    by_cases h0 : k < n
    · obtain ⟨ad, u, rfl, hbb, hu, hcell⟩ := (hx.keptRow hg (fun b hb => (HROW.out b hb).2)).at_ h0
      have hkl : k < ys.length := by have := HY.out; omega
      have hc := HF.out wr k u ys[k] h0 hg hJk hu (List.getElem?_eq_getElem hkl)
      have hss := set_step f32v ys (.float .f32 0) n k hkl HY.out
      simp only [f32v] at hc
      have HC := Lib.hid hc
      have HS := Lib.hid hss
      have hne : row ≠ some w.heap.size := fun e => Nat.lt_irrefl _ (HROW.out _ e).1
      have hns : ∀ b, row = some b → b ≠ w.heap.size := fun b e => Nat.ne_of_lt (HROW.out _ e).1
      have hst := fun (W : World) (a : Addr) (m : _) => run_store Tryz.prog W a (.float .f32 ys[k]) m rfl
      clear hc hss hu
      go_wp2_with (go_at_fn g; refine HC.out.mono ?_; rintro e w1 ⟨rfl, hg1, hJ1⟩; have hr1 := own_kept hown hg1 hne; obtain ⟨v1, hc1⟩ := own_cell hr1 k h0; have hf1 := own_free hr1 k)
      go_roundg (n - (k + 1))
      case measure => omega
      case rel => exact ⟨k + 1, by omega, by go_num, Nat.le_refl _, by have h9 := own_set hr1 k (f32v ys[k]); rw [HS.out] at h9; exact h9, gset (gtrans hg hg1) (p := ⟨w.heap.size, k, none⟩) (Nat.le_refl _) _, HJ.out (k + 1) w1 _ hJ1 (fun b hb => Below.heap_setCell w1 ⟨w.heap.size, k, none⟩ _ b (hns b hb))⟩
    · obtain rfl : k = n := by omega
      have hss := set_stop f32v ys (.float .f32 0) k HY.out
      have HS := Lib.hid hss
      clear hss
      go_wp2
      go_ret
      exact ⟨rfl, by rw [HS.out] at hown; exact hown, hg, hJk⟩

set_option maxHeartbeats 2000000 in
set_option maxRecDepth 100000 in
theorem trn_fb (g : FuncId) (cb : Array Value) (row : Option Nat) (J : Nat → World → Prop) (A : Option Addr) (n c : Nat) (xs : List Value) (ys : List Bool) (w : World)
    (eg : ∀ args w, (callFunc g args).run Tryz.prog w = .ok (.enter g args) w) (hn : n ≤ 4096) (hx : Reads w w.heap.size 1 A n xs) (hy : ys.length = n)
    (hrow : ∀ b, row = some b → b < w.heap.size ∧ (0 < n → Off A b)) (hJ0 : J 0 w)
    (hJ : ∀ i W W', J i W → (∀ b, row = some b → W'.heap[b]? = W.heap[b]?) → J i W')
    (hf : ∀ (W : World) (i : Nat) (x : Value) (y : Bool), i < n → w.grownBy W row → J i W → xs[i]? = some x → ys[i]? = some y →
      Calls Tryz.prog g (#[x] ++ cb) W fun e W' => e = .returned (boolv y) ∧ W.grownBy W' row ∧ J (i + 1) W') :
    Calls Tryz.prog 59 #[.slice A n c, .func (.func g) #[] cb] w fun e w' =>
      e = .returned (.slice (some ⟨w.heap.size, 0, none⟩) n n) ∧ w'.ownsRow w.heap.size 4 1 (.slice (some ⟨w.heap.size, 0, none⟩) n n) n (ys.map boolv) ∧ w.grownBy w' row ∧ J n w' := by
  obtain ⟨i0, hi0, hz0, hz1, hz2⟩ := info_parts info_bool
  have HF := Lib.hid hf
  have HY := Lib.hid hy
  have HJ := Lib.hid hJ
  have HROW := Lib.hid hrow
  clear hf hy hJ hrow
  go_enter Tryz.func59, Tryz.ntmps59
  go_wp2_with (at_make; refine wpList_make_full _ rfl _ _ 26 rfl w.heap.size 4 i0 (.bool false) 1 Tryz.underlying26 hi0 hz0 hz1 _ _ _ _ n rfl rfl (by omega) (by omega) ?b2 ?b3 (Nat.le_refl _) ?_)
  case b2 => rw [hz2]; omega
  case b3 => unfold maxLen; omega
  intro w0 hown0 hgrow0
  rw [toList_madeCells_one] at hown0
  have hr0 : w.grownBy w0 row := ⟨hgrow0.os, hgrow0.tape, hgrow0.output, hgrow0.size, fun i hi _ => hgrow0.block i hi (by simp)⟩
  have hJ1 : J 0 w0 := HJ.out 0 w w0 hJ0 (fun b hb => hgrow0.block b (HROW.out b hb).1 (by simp))
  go_wp2
  go_loopg [13] n (fun m s W => ∃ k : Nat, k ≤ n ∧ s = .int .i64 k ∧ n - k ≤ m ∧ W.ownsRow w.heap.size 4 1 (.slice (some ⟨w.heap.size, 0, none⟩) n n) n ((ys.take k).map boolv ++ List.replicate (n - k) (.bool false)) ∧ w.grownBy W row ∧ J k W)
  case atStart => exact ⟨0, Nat.zero_le _, rfl, by omega, by rw [set_start]; simpa using hown0, hr0, hJ1⟩
  case round =>
    obtain ⟨k, hk, rfl, hm, hown, hg, hJk⟩ := hrel
    by_cases h0 : k < n
    · obtain ⟨ad, u, rfl, hbb, hu, hcell⟩ := (hx.keptRow hg (fun b hb => (HROW.out b hb).2)).at_ h0
      have hkl : k < ys.length := by have := HY.out; omega
      have hc := HF.out wr k u ys[k] h0 hg hJk hu (List.getElem?_eq_getElem hkl)
      have hss := set_step boolv ys (.bool false) n k hkl HY.out
      simp only [boolv] at hc
      have HC := Lib.hid hc
      have HS := Lib.hid hss
      have hne : row ≠ some w.heap.size := fun e => Nat.lt_irrefl _ (HROW.out _ e).1
      have hns : ∀ b, row = some b → b ≠ w.heap.size := fun b e => Nat.ne_of_lt (HROW.out _ e).1
      have hst := fun (W : World) (a : Addr) (m : _) => run_store Tryz.prog W a (.bool ys[k]) m rfl
      clear hc hss hu
      go_wp2_with (go_at_fn g; refine HC.out.mono ?_; rintro e w1 ⟨rfl, hg1, hJ1⟩; have hr1 := own_kept hown hg1 hne; obtain ⟨v1, hc1⟩ := own_cell hr1 k h0; have hf1 := own_free hr1 k)
      go_roundg (n - (k + 1))
      case measure => omega
      case rel => exact ⟨k + 1, by omega, by go_num, Nat.le_refl _, by have h9 := own_set hr1 k (boolv ys[k]); rw [HS.out] at h9; exact h9, gset (gtrans hg hg1) (p := ⟨w.heap.size, k, none⟩) (Nat.le_refl _) _, HJ.out (k + 1) w1 _ hJ1 (fun b hb => Below.heap_setCell w1 ⟨w.heap.size, k, none⟩ _ b (hns b hb))⟩
    · obtain rfl : k = n := by omega
      have hss := set_stop boolv ys (.bool false) k HY.out
      have HS := Lib.hid hss
      clear hss
      go_wp2
      go_ret
      exact ⟨rfl, by rw [HS.out] at hown; exact hown, hg, hJk⟩

set_option maxHeartbeats 2000000 in
set_option maxRecDepth 100000 in
theorem trn_se (g : FuncId) (cb : Array Value) (row : Option Nat) (J : Nat → World → Prop) (A : Option Addr) (n c : Nat) (xs : List Value) (ys : List Int) (w : World)
    (eg : ∀ args w, (callFunc g args).run Tryz.prog w = .ok (.enter g args) w) (hn : n ≤ 4096) (hx : Reads w w.heap.size 1 A n xs) (hy : ys.length = n)
    (hrow : ∀ b, row = some b → b < w.heap.size ∧ (0 < n → Off A b)) (hJ0 : J 0 w)
    (hJ : ∀ i W W', J i W → (∀ b, row = some b → W'.heap[b]? = W.heap[b]?) → J i W')
    (hf : ∀ (W : World) (i : Nat) (x : Value) (y : Int), i < n → w.grownBy W row → J i W → xs[i]? = some x → ys[i]? = some y →
      Calls Tryz.prog g (#[x] ++ cb) W fun e W' => e = .returned (i64v y) ∧ W.grownBy W' row ∧ J (i + 1) W') :
    Calls Tryz.prog 112 #[.slice A n c, .func (.func g) #[] cb] w fun e w' =>
      e = .returned (.slice (some ⟨w.heap.size, 0, none⟩) n n) ∧ w'.ownsRow w.heap.size 29 1 (.slice (some ⟨w.heap.size, 0, none⟩) n n) n (ys.map i64v) ∧ w.grownBy w' row ∧ J n w' := by
  obtain ⟨i0, hi0, hz0, hz1, hz2⟩ := info_parts info_err
  have HF := Lib.hid hf
  have HY := Lib.hid hy
  have HJ := Lib.hid hJ
  have HROW := Lib.hid hrow
  clear hf hy hJ hrow
  go_enter Tryz.func112, Tryz.ntmps112
  go_wp2_with (at_make; refine wpList_make_full _ rfl _ _ 162 rfl w.heap.size 29 i0 (.int .i64 0) 1 Tryz.underlying162 hi0 hz0 hz1 _ _ _ _ n rfl rfl (by omega) (by omega) ?b2 ?b3 (Nat.le_refl _) ?_)
  case b2 => rw [hz2]; omega
  case b3 => unfold maxLen; omega
  intro w0 hown0 hgrow0
  rw [toList_madeCells_one] at hown0
  have hr0 : w.grownBy w0 row := ⟨hgrow0.os, hgrow0.tape, hgrow0.output, hgrow0.size, fun i hi _ => hgrow0.block i hi (by simp)⟩
  have hJ1 : J 0 w0 := HJ.out 0 w w0 hJ0 (fun b hb => hgrow0.block b (HROW.out b hb).1 (by simp))
  go_wp2
  go_loopg [13] n (fun m s W => ∃ k : Nat, k ≤ n ∧ s = .int .i64 k ∧ n - k ≤ m ∧ W.ownsRow w.heap.size 29 1 (.slice (some ⟨w.heap.size, 0, none⟩) n n) n ((ys.take k).map i64v ++ List.replicate (n - k) (.int .i64 0)) ∧ w.grownBy W row ∧ J k W)
  case atStart => exact ⟨0, Nat.zero_le _, rfl, by omega, by rw [set_start]; simpa using hown0, hr0, hJ1⟩
  case round =>
    obtain ⟨k, hk, rfl, hm, hown, hg, hJk⟩ := hrel
    by_cases h0 : k < n
    · obtain ⟨ad, u, rfl, hbb, hu, hcell⟩ := (hx.keptRow hg (fun b hb => (HROW.out b hb).2)).at_ h0
      have hkl : k < ys.length := by have := HY.out; omega
      have hc := HF.out wr k u ys[k] h0 hg hJk hu (List.getElem?_eq_getElem hkl)
      have hss := set_step i64v ys (.int .i64 0) n k hkl HY.out
      simp only [i64v] at hc
      have HC := Lib.hid hc
      have HS := Lib.hid hss
      have hne : row ≠ some w.heap.size := fun e => Nat.lt_irrefl _ (HROW.out _ e).1
      have hns : ∀ b, row = some b → b ≠ w.heap.size := fun b e => Nat.ne_of_lt (HROW.out _ e).1
      have hst := fun (W : World) (a : Addr) (m : _) => run_store Tryz.prog W a (.int .i64 ys[k]) m rfl
      clear hc hss hu
      go_wp2_with (go_at_fn g; refine HC.out.mono ?_; rintro e w1 ⟨rfl, hg1, hJ1⟩; have hr1 := own_kept hown hg1 hne; obtain ⟨v1, hc1⟩ := own_cell hr1 k h0; have hf1 := own_free hr1 k)
      go_roundg (n - (k + 1))
      case measure => omega
      case rel => exact ⟨k + 1, by omega, by go_num, Nat.le_refl _, by have h9 := own_set hr1 k (i64v ys[k]); rw [HS.out] at h9; exact h9, gset (gtrans hg hg1) (p := ⟨w.heap.size, k, none⟩) (Nat.le_refl _) _, HJ.out (k + 1) w1 _ hJ1 (fun b hb => Below.heap_setCell w1 ⟨w.heap.size, k, none⟩ _ b (hns b hb))⟩
    · obtain rfl : k = n := by omega
      have hss := set_stop i64v ys (.int .i64 0) k HY.out
      have HS := Lib.hid hss
      clear hss
      go_wp2
      go_ret
      exact ⟨rfl, by rw [HS.out] at hown; exact hown, hg, hJk⟩

set_option maxHeartbeats 2000000 in
set_option maxRecDepth 100000 in
theorem trn_ie (g : FuncId) (cb : Array Value) (row : Option Nat) (J : Nat → World → Prop) (A : Option Addr) (n c : Nat) (xs : List Value) (ys : List Int) (w : World)
    (eg : ∀ args w, (callFunc g args).run Tryz.prog w = .ok (.enter g args) w) (hn : n ≤ 4096) (hx : Reads w w.heap.size 1 A n xs) (hy : ys.length = n)
    (hrow : ∀ b, row = some b → b < w.heap.size ∧ (0 < n → Off A b)) (hJ0 : J 0 w)
    (hJ : ∀ i W W', J i W → (∀ b, row = some b → W'.heap[b]? = W.heap[b]?) → J i W')
    (hf : ∀ (W : World) (i : Nat) (x : Value) (y : Int), i < n → w.grownBy W row → J i W → xs[i]? = some x → ys[i]? = some y →
      Calls Tryz.prog g (#[x] ++ cb) W fun e W' => e = .returned (i64v y) ∧ W.grownBy W' row ∧ J (i + 1) W') :
    Calls Tryz.prog 113 #[.slice A n c, .func (.func g) #[] cb] w fun e w' =>
      e = .returned (.slice (some ⟨w.heap.size, 0, none⟩) n n) ∧ w'.ownsRow w.heap.size 29 1 (.slice (some ⟨w.heap.size, 0, none⟩) n n) n (ys.map i64v) ∧ w.grownBy w' row ∧ J n w' := by
  obtain ⟨i0, hi0, hz0, hz1, hz2⟩ := info_parts info_err
  have HF := Lib.hid hf
  have HY := Lib.hid hy
  have HJ := Lib.hid hJ
  have HROW := Lib.hid hrow
  clear hf hy hJ hrow
  go_enter Tryz.func113, Tryz.ntmps113
  go_wp2_with (at_make; refine wpList_make_full _ rfl _ _ 162 rfl w.heap.size 29 i0 (.int .i64 0) 1 Tryz.underlying162 hi0 hz0 hz1 _ _ _ _ n rfl rfl (by omega) (by omega) ?b2 ?b3 (Nat.le_refl _) ?_)
  case b2 => rw [hz2]; omega
  case b3 => unfold maxLen; omega
  intro w0 hown0 hgrow0
  rw [toList_madeCells_one] at hown0
  have hr0 : w.grownBy w0 row := ⟨hgrow0.os, hgrow0.tape, hgrow0.output, hgrow0.size, fun i hi _ => hgrow0.block i hi (by simp)⟩
  have hJ1 : J 0 w0 := HJ.out 0 w w0 hJ0 (fun b hb => hgrow0.block b (HROW.out b hb).1 (by simp))
  go_wp2
  go_loopg [13] n (fun m s W => ∃ k : Nat, k ≤ n ∧ s = .int .i64 k ∧ n - k ≤ m ∧ W.ownsRow w.heap.size 29 1 (.slice (some ⟨w.heap.size, 0, none⟩) n n) n ((ys.take k).map i64v ++ List.replicate (n - k) (.int .i64 0)) ∧ w.grownBy W row ∧ J k W)
  case atStart => exact ⟨0, Nat.zero_le _, rfl, by omega, by rw [set_start]; simpa using hown0, hr0, hJ1⟩
  case round =>
    obtain ⟨k, hk, rfl, hm, hown, hg, hJk⟩ := hrel
    by_cases h0 : k < n
    · obtain ⟨ad, u, rfl, hbb, hu, hcell⟩ := (hx.keptRow hg (fun b hb => (HROW.out b hb).2)).at_ h0
      have hkl : k < ys.length := by have := HY.out; omega
      have hc := HF.out wr k u ys[k] h0 hg hJk hu (List.getElem?_eq_getElem hkl)
      have hss := set_step i64v ys (.int .i64 0) n k hkl HY.out
      simp only [i64v] at hc
      have HC := Lib.hid hc
      have HS := Lib.hid hss
      have hne : row ≠ some w.heap.size := fun e => Nat.lt_irrefl _ (HROW.out _ e).1
      have hns : ∀ b, row = some b → b ≠ w.heap.size := fun b e => Nat.ne_of_lt (HROW.out _ e).1
      have hst := fun (W : World) (a : Addr) (m : _) => run_store Tryz.prog W a (.int .i64 ys[k]) m rfl
      clear hc hss hu
      go_wp2_with (go_at_fn g; refine HC.out.mono ?_; rintro e w1 ⟨rfl, hg1, hJ1⟩; have hr1 := own_kept hown hg1 hne; obtain ⟨v1, hc1⟩ := own_cell hr1 k h0; have hf1 := own_free hr1 k)
      go_roundg (n - (k + 1))
      case measure => omega
      case rel => exact ⟨k + 1, by omega, by go_num, Nat.le_refl _, by have h9 := own_set hr1 k (i64v ys[k]); rw [HS.out] at h9; exact h9, gset (gtrans hg hg1) (p := ⟨w.heap.size, k, none⟩) (Nat.le_refl _) _, HJ.out (k + 1) w1 _ hJ1 (fun b hb => Below.heap_setCell w1 ⟨w.heap.size, k, none⟩ _ b (hns b hb))⟩
    · obtain rfl : k = n := by omega
      have hss := set_stop i64v ys (.int .i64 0) k HY.out
      have HS := Lib.hid hss
      clear hss
      go_wp2
      go_ret
      exact ⟨rfl, by rw [HS.out] at hown; exact hown, hg, hJk⟩
end Go.Proofs.YtboaojkblmddkaaGreatDoor

/- Contract of common.Transformed from texts to floats. -/
namespace Go.Proofs.YtboaojkblmddkaaGreatDoor
open Go.RowKit

set_option maxHeartbeats 2000000 in
set_option maxRecDepth 100000 in
theorem trn_rf (g : FuncId) (v : Value) (row : Option Nat) (J : Nat → World → Prop) (A : Option Addr) (n c : Nat) (xs : List Value) (ys : List Nat) (w : World)
    (eg : ∀ args w, (callFunc g args).run Tryz.prog w = .ok (.enter g args) w) (hn : n ≤ 4096) (hx : Reads w w.heap.size 1 A n xs) (hy : ys.length = n)
    (hrow : ∀ b, row = some b → b < w.heap.size ∧ (0 < n → Off A b)) (hJ0 : J 0 w)
    (hJ : ∀ i W W', J i W → (∀ b, row = some b → W'.heap[b]? = W.heap[b]?) → J i W')
    (hf : ∀ (W : World) (i : Nat) (x : Value) (y : Nat), i < n → w.grownBy W row → J i W → xs[i]? = some x → ys[i]? = some y →
      Calls Tryz.prog g #[v, x] W fun e W' => e = .returned (f32v y) ∧ W.grownBy W' row ∧ J (i + 1) W') :
    Calls Tryz.prog 88 #[.slice A n c, .func (.func g) #[v] #[]] w fun e w' =>
      e = .returned (.slice (some ⟨w.heap.size, 0, none⟩) n n) ∧ w'.ownsRow w.heap.size 23 1 (.slice (some ⟨w.heap.size, 0, none⟩) n n) n (ys.map f32v) ∧ w.grownBy w' row ∧ J n w' := by
  obtain ⟨i0, hi0, hz0, hz1, hz2⟩ := info_parts info_f32
  have HF := Lib.hid hf
  have HY := Lib.hid hy
  have HJ := Lib.hid hJ
  have HROW := Lib.hid hrow
  clear hf hy hJ hrow
  go_enter Tryz.func88, Tryz.ntmps88
  go_wp2_with (at_make; refine wpList_make_full _ rfl _ _ 22 rfl w.heap.size 23 i0 (.float .f32 0) 1 Tryz.underlying22 hi0 hz0 hz1 _ _ _ _ n rfl rfl (by omega) (by omega) ?b2 ?b3 (Nat.le_refl _) ?_)
  case b2 => rw [hz2]; omega
  case b3 => unfold maxLen; omega
  intro w0 hown0 hgrow0
  rw [toList_madeCells_one] at hown0
  have hr0 : w.grownBy w0 row := ⟨hgrow0.os, hgrow0.tape, hgrow0.output, hgrow0.size, fun i hi _ => hgrow0.block i hi (by simp)⟩
  have hJ1 : J 0 w0 := HJ.out 0 w w0 hJ0 (fun b hb => hgrow0.block b (HROW.out b hb).1 (by simp))
  go_wp2
  go_loopg [13] n (fun m s W => ∃ k : Nat, k ≤ n ∧ s = .int .i64 k ∧ n - k ≤ m ∧ W.ownsRow w.heap.size 23 1 (.slice (some ⟨w.heap.size, 0, none⟩) n n) n ((ys.take k).map f32v ++ List.replicate (n - k) (.float .f32 0)) ∧ w.grownBy W row ∧ J k W)
  case atStart => exact ⟨0, Nat.zero_le _, rfl, by omega, by rw [set_start]; simpa using hown0, hr0, hJ1⟩
  case round =>
    obtain ⟨k, hk, rfl, hm, hown, hg, hJk⟩ := hrel
    by_cases h0 : k < n
    · obtain ⟨ad, u, rfl, hbb, hu, hcell⟩ := (hx.keptRow hg (fun b hb => (HROW.out b hb).2)).at_ h0
      have hkl : k < ys.length := by have := HY.out; omega
      have hc := HF.out wr k u ys[k] h0 hg hJk hu (List.getElem?_eq_getElem hkl)
      have hss := set_step f32v ys (.float .f32 0) n k hkl HY.out
      simp only [f32v] at hc
      have HC := Lib.hid hc
      have HS := Lib.hid hss
      have hne : row ≠ some w.heap.size := fun e => Nat.lt_irrefl _ (HROW.out _ e).1
      have hns : ∀ b, row = some b → b ≠ w.heap.size := fun b e => Nat.ne_of_lt (HROW.out _ e).1
      have hst := fun (W : World) (a : Addr) (m : _) => run_store Tryz.prog W a (.float .f32 ys[k]) m rfl
      clear hc hss hu
      go_wp2_with (go_at_fn g; refine HC.out.mono ?_; rintro e w1 ⟨rfl, hg1, hJ1⟩; have hr1 := own_kept hown hg1 hne; obtain ⟨v1, hc1⟩ := own_cell hr1 k h0; have hf1 := own_free hr1 k)
      go_roundg (n - (k + 1))
      case measure => omega
      case rel => exact ⟨k + 1, by omega, by go_num, Nat.le_refl _, by have h9 := own_set hr1 k (f32v ys[k]); rw [HS.out] at h9; exact h9, gset (gtrans hg hg1) (p := ⟨w.heap.size, k, none⟩) (Nat.le_refl _) _, HJ.out (k + 1) w1 _ hJ1 (fun b hb => Below.heap_setCell w1 ⟨w.heap.size, k, none⟩ _ b (hns b hb))⟩
    · obtain rfl : k = n := by omega
      have hss := set_stop f32v ys (.float .f32 0) k HY.out
      have HS := Lib.hid hss
      clear hss
      go_wp2
      go_ret
      exact ⟨rfl, by rw [HS.out] at hown; exact hown, hg, hJk⟩
end Go.Proofs.YtboaojkblmddkaaGreatDoor

/- Contracts of probe's checkVoltages and Sampled of valid voltages. -/
namespace Go.Proofs.YtboaojkblmddkaaGreatDoor
open Go.RowKit Bn
open Flt

def strv (s : ByteArray) : Value := .string s

theorem catMost_rat (A : Option Addr) (n c : Nat) (k : Int) (w : World) : Calls Tryz.prog 123 #[.slice A n c, .int .i64 k] w fun e w' => e = .returned (.int .i64 (if k < n then 5 else 0)) ∧ w = w' := by
  go_enter Tryz.func123, Tryz.ntmps123
  by_cases h : k < n
  · rw [if_pos h]
    have hd : decide (k < (n : Int)) = true := by simpa using h
    go_wp2
    go_ret
    exact ⟨rfl, rfl⟩
  · rw [if_neg h]
    have hd : decide (k < (n : Int)) = false := by simpa using h
    go_wp2
    go_ret
    exact ⟨rfl, rfl⟩

set_option maxHeartbeats 1000000 in
theorem checkVoltages_ok (A : Option Addr) (n c : Nat) (l : List ByteArray) (w : World) (hT : Tabs w) (h : Reads w w.heap.size 1 A n (l.map strv)) (hn : n ≤ 4096)
    (hv : ∀ s ∈ l, s.size ≤ 4294967296 ∧ readE s.data.toList = 0) :
    Calls Tryz.prog 87 #[.slice A n c] w fun e w' => e = .returned (.int .i64 0) ∧ Below w.heap.size w w' := by
  have HV := Lib.hid hv
  have hd : decide (4096 < (n : Int)) = false := by simpa using (show ¬ (4096 < (n : Int)) from by omega)
  have HM := Lib.hid (fun W => catMost_rat A n c 4096 W)
  rw [if_neg (show ¬ ((4096 : Int) < n) from by omega)] at HM
  clear hv
  go_enter Tryz.func87, Tryz.ntmps87
  go_wp2_with fail
  refine (HM.out w).mono ?_
  rintro e w1 ⟨rfl, rfl⟩
  go_wp2_with fail
  go_loopg [14] n (fun m s W => ∃ k : Nat, k ≤ n ∧ s = .int .i64 k ∧ n - k ≤ m ∧ Below w.heap.size w W)
  case atStart => exact ⟨0, Nat.zero_le _, rfl, by omega, Below.refl _ _⟩
  case round =>
    obtain ⟨k, hk, rfl, hm, hbel⟩ := hrel
    by_cases h0 : k < n
    · obtain ⟨ad, hkl, rfl, hbb, hcell⟩ := (h.below hbel).cellM h0
      have hx := HV.out _ (List.getElem_mem hkl)
      have hTr := hT.later hbel
      unfold strv at hcell
      generalize l[k] = x at *
      have HK := Lib.hid (check_any x wr hTr hx.1)
      have HE := Lib.hid hx.2
      clear hx
      go_wp2_with fail
      refine HK.out.mono ?_
      rintro e w1 ⟨he, hb1⟩
      rw [HE.out] at he
      subst he
      go_wp2_with fail
      go_roundg (n - (k + 1))
      case measure => omega
      case rel => exact ⟨k + 1, by omega, by go_num, Nat.le_refl _, hbel.trans (hb1.mono hbel.size)⟩
    · go_wp2_with fail
      go_ret
      exact ⟨rfl, hbel⟩

set_option maxHeartbeats 2000000 in
theorem Sampled_ok (a : Nat) (st z : Int) (g o : ByteArray) (A : Option Addr) (n c : Nat) (l : List ByteArray) (ys : List Nat) (w : World) (hT : Tabs w) (h : Conv a st z g o) (hA : Reads w w.heap.size 1 A n (l.map strv)) (hn : n ≤ 4096)
    (hv : ∀ s ∈ l, s.size ≤ 4294967296 ∧ readE s.data.toList = 0) (hy : ys.length = n)
    (hs : ∀ (i : Nat) (s : ByteArray) (y : Nat) (W : World), Tabs W → l[i]? = some s → ys[i]? = some y → Calls Tryz.prog 89 #[.agg #[.int .i64 a, .int .i64 st, .int .i64 z, .string g, .string o], .string s] W fun e w' => e = .returned (.float .f32 y) ∧ Below W.heap.size W w') :
    Calls Tryz.prog 50 #[.agg #[.int .i64 a, .int .i64 st, .int .i64 z, .string g, .string o], .slice A n c] w fun e w' =>
      ∃ b, e = .returned (.tuple #[.slice (some ⟨b, 0, none⟩) n n, .int .i64 0]) ∧ w.heap.size ≤ b ∧ w'.ownsRow b 23 1 (.slice (some ⟨b, 0, none⟩) n n) n (ys.map f32v) ∧ Below w.heap.size w w' := by
  have hb0 : Below w.heap.size w (w.alloc (.cells #[.int .i64 a, .int .i64 st, .int .i64 z, .string g, .string o] 91)) := (Below.refl _ _).alloc (Nat.le_refl _) _
  have q0 : CBlk (w.alloc (.cells #[.int .i64 a, .int .i64 st, .int .i64 z, .string g, .string o] 91)) w.heap.size #[.int .i64 a, .int .i64 st, .int .i64 z, .string g, .string o] 91 := CBlk.new w _ _ _ rfl
  have x0 := q0.cell 0
  have x1 := q0.cell 1
  have x2 := q0.cell 2
  have x3 := q0.cell 3
  have x4 := q0.cell 4
  have HC := Lib.hid (checkAdc_ok a st z g o _ (hT.later hb0) h)
  have HV := Lib.hid (fun W hT hA => checkVoltages_ok A n c l W hT hA hn hv)
  have HA := Lib.hid hA
  have HS := Lib.hid hs
  have HY := Lib.hid hy
  have HN := Lib.hid hn
  clear h hA hs hy hv hn
  have hmf : ∀ (fn : Fn) (first cap : Array Value) (w : World), (Instr.makeFunc fn first cap).run Tryz.prog w = .ok (.func fn first cap) w := fun _ _ _ _ => rfl
  go_enter Tryz.func50, Tryz.ntmps50
  go_wp2_with fail
  generalize w.alloc (.cells #[.int .i64 a, .int .i64 st, .int .i64 z, .string g, .string o] 91) = w1 at *
  have hT1 := hT.later hb0
  refine HC.out.mono ?_
  rintro e w2 ⟨rfl, hb2⟩
  have hT2 := hT1.later hb2
  have q2 := q0.below hb2 q0.lt
  clear x0 x1 x2 x3 x4
  have hB2 := hb0.trans (hb2.mono hb0.size)
  go_wp2_with fail
  refine (HV.out w2 hT2 (HA.out.later hB2)).mono ?_
  rintro e w3 ⟨rfl, hb3⟩
  have hT3 := hT2.later hb3
  have q3 := q2.below hb3 q2.lt
  have hB3 := hB2.trans (hb3.mono hB2.size)
  go_wp2_with fail
  refine (cfirst_two 0 0 w3 _ _ rfl).mono ?_
  rintro e w4 ⟨rfl, rfl⟩
  have hb4 : Below w3.heap.size w3 (w3.alloc (.cells #[.int .i64 0, .int .i64 0] 29)) := (Below.refl _ _).alloc (Nat.le_refl _) _
  generalize w3.alloc (.cells #[.int .i64 0, .int .i64 0] 29) = w4 at *
  have hT4 := hT3.later hb4
  have q4 := q3.below hb4 q3.lt
  have hB4 := hB3.trans (hb4.mono hB3.size)
  have x0 := q4.cell 0
  have x1 := q4.cell 1
  have x2 := q4.cell 2
  have x3 := q4.cell 3
  have x4 := q4.cell 4
  have HR := HA.out.later hB4
  have HTR := Lib.hid (trn_rf 89 (.agg #[.int .i64 a, .int .i64 st, .int .i64 z, .string g, .string o]) none (fun _ _ => True) A n c (l.map strv) ys w4 (fun _ _ => by kernel_rfl) HN.out HR HY.out (fun b hb => by cases hb) trivial
    (fun i W W' h1 h2 => trivial)
    (fun W i x y hi hg hJ hx hy => by
      rw [List.getElem?_map] at hx
      cases hl : l[i]? with
      | none => rw [hl] at hx; cases hx
      | some s =>
        rw [hl] at hx
        obtain rfl : strv s = x := Option.some.inj hx
        refine (HS.out i s y W (hT4.later (gnone hg (Nat.le_refl _))) hl hy).mono ?_
        rintro e w' ⟨rfl, hb⟩
        exact ⟨rfl, only_of_below hb _, trivial⟩))
  go_wp2_with fail
  refine HTR.out.mono ?_
  rintro e w5 ⟨rfl, ho, hg, _⟩
  have hb5 : Below w4.heap.size w4 w5 := gnone hg (Nat.le_refl _)
  go_wp2_with fail
  go_ret2
  exact ⟨_, rfl, hB4.size, ho, hB4.trans (hb5.mono hB4.size)⟩

end Go.Proofs.YtboaojkblmddkaaGreatDoor
