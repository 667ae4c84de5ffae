/- Contract of common.Transformed: the results of a function for the elements of a list; the function may turn one block of its own. -/
import Derived.Test.YthmiamppfncfoaaGreatDoorCRws
import Derived.Deep.LoopGhost
namespace Go.Proofs.YthmiamppfncfoaaGreatDoor
open Go.RowKit

theorem set_step {α : Type} (f : α → Value) (ys : List α) (z : Value) (n k : Nat) (hk : k < ys.length) (hy : ys.length = n) :
    ((ys.take k).map f ++ List.replicate (n - k) z).set k (f ys[k]) = (ys.take (k + 1)).map f ++ List.replicate (n - (k + 1)) z := by
  have hl : ((ys.take k).map f).length = k := by rw [List.length_map, List.length_take]; omega
  rw [List.set_append_right _ _ (by omega), hl, Nat.sub_self, show n - k = (n - (k + 1)) + 1 from by omega, List.replicate_succ, List.set_cons_zero, List.take_succ_eq_append_getElem hk, List.map_append, List.append_assoc]
  rfl
theorem Reads.keptRow {w w' : World} {size n : Nat} {A : Option Addr} {xs : List Value} {row : Option Nat} (h : Reads w w.heap.size size A n xs) (hg : w.grownBy w' row) (ho : ∀ b, row = some b → 0 < n → Off A b) : Reads w' w.heap.size size A n xs :=
  ⟨h.1, fun hn => by
    obtain ⟨ad, e, hb, hc⟩ := h.2 hn
    refine ⟨ad, e, hb, fun j u hu => ?_⟩
    rw [← hc j u hu]
    exact World.cell?_of_block (hg.block (ad.add j).block (by rw [block_of_add]; omega) (by rw [block_of_add]; intro e'; exact ho _ e'.symm hn ad e rfl))⟩
theorem set_start {α : Type} (f : α → Value) (ys : List α) (z : Value) (n : Nat) : (ys.take 0).map f ++ List.replicate (n - 0) z = List.replicate n z := by simp
theorem set_stop {α : Type} (f : α → Value) (ys : List α) (z : Value) (n : Nat) (hy : ys.length = n) : (ys.take n).map f ++ List.replicate (n - n) z = ys.map f := by
  rw [List.take_of_length_le (by omega)]; simp

theorem info_f32 : (Tryz.prog.info? 24).map (fun i => (i.zero, i.size, i.bytes)) = some (some (.float .f32 0), 1, 4) := by kernel_rfl
theorem info_bool : (Tryz.prog.info? 4).map (fun i => (i.zero, i.size, i.bytes)) = some (some (.bool false), 1, 1) := by kernel_rfl
theorem info_err : (Tryz.prog.info? 31).map (fun i => (i.zero, i.size, i.bytes)) = some (some (.int .i64 0), 1, 8) := by kernel_rfl

set_option maxHeartbeats 2000000 in
set_option maxRecDepth 100000 in
theorem trn_ff (g : FuncId) (cb : Array Value) (row : Option Nat) (J : Nat → World → Prop) (A : Option Addr) (n c : Nat) (xs : List Value) (ys : List Nat) (w : World)
    (eg : ∀ args w, (callFunc g args).run Tryz.prog w = .ok (.enter g args) w) (hn : n ≤ 4096) (hx : Reads w w.heap.size 1 A n xs) (hy : ys.length = n)
    (hrow : ∀ b, row = some b → b < w.heap.size ∧ (0 < n → Off A b)) (hJ0 : J 0 w)
    (hJ : ∀ i W W', J i W → (∀ b, row = some b → W'.heap[b]? = W.heap[b]?) → J i W')
    (hf : ∀ (W : World) (i : Nat) (x : Value) (y : Nat), i < n → w.grownBy W row → J i W → xs[i]? = some x → ys[i]? = some y →
      Calls Tryz.prog g (#[x] ++ cb) W fun e W' => e = .returned (f32v y) ∧ W.grownBy W' row ∧ J (i + 1) W') :
    Calls Tryz.prog 26 #[.slice A n c, .func (.func g) #[] cb] w fun e w' =>
      e = .returned (.slice (some ⟨w.heap.size, 0, none⟩) n n) ∧ w'.ownsRow w.heap.size 24 1 (.slice (some ⟨w.heap.size, 0, none⟩) n n) n (ys.map f32v) ∧ w.grownBy w' row ∧ J n w' := by
  obtain ⟨i0, hi0, hz0, hz1, hz2⟩ := info_parts info_f32
  have HF := Lib.hid hf
  have HY := Lib.hid hy
  have HJ := Lib.hid hJ
  have HROW := Lib.hid hrow
  clear hf hy hJ hrow
  go_enter Tryz.func26, Tryz.ntmps26
  go_wp2_with (at_make; refine wpList_make_full _ rfl _ _ 30 rfl w.heap.size 24 i0 (.float .f32 0) 1 Tryz.underlying30 hi0 hz0 hz1 _ _ _ _ n rfl rfl (by omega) (by omega) ?b2 ?b3 (Nat.le_refl _) ?_)
  case b2 => rw [hz2]; omega
  case b3 => unfold maxLen; omega
  intro w0 hown0 hgrow0
  rw [toList_madeCells_one] at hown0
  have hr0 : w.grownBy w0 row := ⟨hgrow0.os, hgrow0.tape, hgrow0.output, hgrow0.size, fun i hi _ => hgrow0.block i hi (by simp)⟩
  have hJ1 : J 0 w0 := HJ.out 0 w w0 hJ0 (fun b hb => hgrow0.block b (HROW.out b hb).1 (by simp))
  go_wp2
  go_loopg [13] n (fun m s W => ∃ k : Nat, k ≤ n ∧ s = .int .i64 k ∧ n - k ≤ m ∧ W.ownsRow w.heap.size 24 1 (.slice (some ⟨w.heap.size, 0, none⟩) n n) n ((ys.take k).map f32v ++ List.replicate (n - k) (.float .f32 0)) ∧ w.grownBy W row ∧ J k W)
  case atStart => exact ⟨0, Nat.zero_le _, rfl, by omega, by rw [set_start]; simpa using hown0, hr0, hJ1⟩
  case round =>
    obtain ⟨k, hk, rfl, hm, hown, hg, hJk⟩ := hrel
    by_cases h0 : k < n
    · obtain ⟨ad, u, rfl, hbb, hu, hcell⟩ := (hx.keptRow hg (fun b hb => (HROW.out b hb).2)).at_ h0
      have hkl : k < ys.length := by have := HY.out; omega
      have hc := HF.out wr k u ys[k] h0 hg hJk hu (List.getElem?_eq_getElem hkl)
      have hss := set_step f32v ys (.float .f32 0) n k hkl HY.out
      simp only [f32v] at hc
      have HC := Lib.hid hc
      have HS := Lib.hid hss
      have hne : row ≠ some w.heap.size := fun e => Nat.lt_irrefl _ (HROW.out _ e).1
      have hns : ∀ b, row = some b → b ≠ w.heap.size := fun b e => Nat.ne_of_lt (HROW.out _ e).1
      have hst := fun (W : World) (a : Addr) (m : _) => run_store Tryz.prog W a (.float .f32 ys[k]) m rfl
      clear hc hss hu
      go_wp2_with (go_at_fn g; refine HC.out.mono ?_; rintro e w1 ⟨rfl, hg1, hJ1⟩; have hr1 := own_kept hown hg1 hne; obtain ⟨v1, hc1⟩ := own_cell hr1 k h0; have hf1 := own_free hr1 k)
      go_roundg (n - (k + 1))
      case measure => omega
      case rel => exact ⟨k + 1, by omega, by go_num, Nat.le_refl _, by have h9 := own_set hr1 k (f32v ys[k]); rw [HS.out] at h9; exact h9, gset (gtrans hg hg1) (p := ⟨w.heap.size, k, none⟩) (Nat.le_refl _) _, HJ.out (k + 1) w1 _ hJ1 (fun b hb => Below.heap_setCell w1 ⟨w.heap.size, k, none⟩ _ b (hns b hb))⟩
    · obtain rfl : k = n := by omega
      have hss := set_stop f32v ys (.float .f32 0) k HY.out
      have HS := Lib.hid hss
      clear hss
      go_wp2
      go_ret
      exact ⟨rfl, by rw [HS.out] at hown; exact hown, hg, hJk⟩

set_option maxHeartbeats 2000000 in
set_option maxRecDepth 100000 in
theorem trn_fb (g : FuncId) (cb : Array Value) (row : Option Nat) (J : Nat → World → Prop) (A : Option Addr) (n c : Nat) (xs : List Value) (ys : List Bool) (w : World)
    (eg : ∀ args w, (callFunc g args).run Tryz.prog w = .ok (.enter g args) w) (hn : n ≤ 4096) (hx : Reads w w.heap.size 1 A n xs) (hy : ys.length = n)
    (hrow : ∀ b, row = some b → b < w.heap.size ∧ (0 < n → Off A b)) (hJ0 : J 0 w)
    (hJ : ∀ i W W', J i W → (∀ b, row = some b → W'.heap[b]? = W.heap[b]?) → J i W')
    (hf : ∀ (W : World) (i : Nat) (x : Value) (y : Bool), i < n → w.grownBy W row → J i W → xs[i]? = some x → ys[i]? = some y →
      Calls Tryz.prog g (#[x] ++ cb) W fun e W' => e = .returned (boolv y) ∧ W.grownBy W' row ∧ J (i + 1) W') :
    Calls Tryz.prog 30 #[.slice A n c, .func (.func g) #[] cb] w fun e w' =>
      e = .returned (.slice (some ⟨w.heap.size, 0, none⟩) n n) ∧ w'.ownsRow w.heap.size 4 1 (.slice (some ⟨w.heap.size, 0, none⟩) n n) n (ys.map boolv) ∧ w.grownBy w' row ∧ J n w' := by
  obtain ⟨i0, hi0, hz0, hz1, hz2⟩ := info_parts info_bool
  have HF := Lib.hid hf
  have HY := Lib.hid hy
  have HJ := Lib.hid hJ
  have HROW := Lib.hid hrow
  clear hf hy hJ hrow
  go_enter Tryz.func30, Tryz.ntmps30
  go_wp2_with (at_make; refine wpList_make_full _ rfl _ _ 35 rfl w.heap.size 4 i0 (.bool false) 1 Tryz.underlying35 hi0 hz0 hz1 _ _ _ _ n rfl rfl (by omega) (by omega) ?b2 ?b3 (Nat.le_refl _) ?_)
  case b2 => rw [hz2]; omega
  case b3 => unfold maxLen; omega
  intro w0 hown0 hgrow0
  rw [toList_madeCells_one] at hown0
  have hr0 : w.grownBy w0 row := ⟨hgrow0.os, hgrow0.tape, hgrow0.output, hgrow0.size, fun i hi _ => hgrow0.block i hi (by simp)⟩
  have hJ1 : J 0 w0 := HJ.out 0 w w0 hJ0 (fun b hb => hgrow0.block b (HROW.out b hb).1 (by simp))
  go_wp2
  go_loopg [13] n (fun m s W => ∃ k : Nat, k ≤ n ∧ s = .int .i64 k ∧ n - k ≤ m ∧ W.ownsRow w.heap.size 4 1 (.slice (some ⟨w.heap.size, 0, none⟩) n n) n ((ys.take k).map boolv ++ List.replicate (n - k) (.bool false)) ∧ w.grownBy W row ∧ J k W)
  case atStart => exact ⟨0, Nat.zero_le _, rfl, by omega, by rw [set_start]; simpa using hown0, hr0, hJ1⟩
  case round =>
    obtain ⟨k, hk, rfl, hm, hown, hg, hJk⟩ := hrel
    by_cases h0 : k < n
    · obtain ⟨ad, u, rfl, hbb, hu, hcell⟩ := (hx.keptRow hg (fun b hb => (HROW.out b hb).2)).at_ h0
      have hkl : k < ys.length := by have := HY.out; omega
      have hc := HF.out wr k u ys[k] h0 hg hJk hu (List.getElem?_eq_getElem hkl)
      have hss := set_step boolv ys (.bool false) n k hkl HY.out
      simp only [boolv] at hc
      have HC := Lib.hid hc
      have HS := Lib.hid hss
      have hne : row ≠ some w.heap.size := fun e => Nat.lt_irrefl _ (HROW.out _ e).1
      have hns : ∀ b, row = some b → b ≠ w.heap.size := fun b e => Nat.ne_of_lt (HROW.out _ e).1
      have hst := fun (W : World) (a : Addr) (m : _) => run_store Tryz.prog W a (.bool ys[k]) m rfl
      clear hc hss hu
      go_wp2_with (go_at_fn g; refine HC.out.mono ?_; rintro e w1 ⟨rfl, hg1, hJ1⟩; have hr1 := own_kept hown hg1 hne; obtain ⟨v1, hc1⟩ := own_cell hr1 k h0; have hf1 := own_free hr1 k)
      go_roundg (n - (k + 1))
      case measure => omega
      case rel => exact ⟨k + 1, by omega, by go_num, Nat.le_refl _, by have h9 := own_set hr1 k (boolv ys[k]); rw [HS.out] at h9; exact h9, gset (gtrans hg hg1) (p := ⟨w.heap.size, k, none⟩) (Nat.le_refl _) _, HJ.out (k + 1) w1 _ hJ1 (fun b hb => Below.heap_setCell w1 ⟨w.heap.size, k, none⟩ _ b (hns b hb))⟩
    · obtain rfl : k = n := by omega
      have hss := set_stop boolv ys (.bool false) k HY.out
      have HS := Lib.hid hss
      clear hss
      go_wp2
      go_ret
      exact ⟨rfl, by rw [HS.out] at hown; exact hown, hg, hJk⟩

set_option maxHeartbeats 2000000 in
set_option maxRecDepth 100000 in
theorem trn_se (g : FuncId) (cb : Array Value) (row : Option Nat) (J : Nat → World → Prop) (A : Option Addr) (n c : Nat) (xs : List Value) (ys : List Int) (w : World)
    (eg : ∀ args w, (callFunc g args).run Tryz.prog w = .ok (.enter g args) w) (hn : n ≤ 4096) (hx : Reads w w.heap.size 1 A n xs) (hy : ys.length = n)
    (hrow : ∀ b, row = some b → b < w.heap.size ∧ (0 < n → Off A b)) (hJ0 : J 0 w)
    (hJ : ∀ i W W', J i W → (∀ b, row = some b → W'.heap[b]? = W.heap[b]?) → J i W')
    (hf : ∀ (W : World) (i : Nat) (x : Value) (y : Int), i < n → w.grownBy W row → J i W → xs[i]? = some x → ys[i]? = some y →
      Calls Tryz.prog g (#[x] ++ cb) W fun e W' => e = .returned (i64v y) ∧ W.grownBy W' row ∧ J (i + 1) W') :
    Calls Tryz.prog 54 #[.slice A n c, .func (.func g) #[] cb] w fun e w' =>
      e = .returned (.slice (some ⟨w.heap.size, 0, none⟩) n n) ∧ w'.ownsRow w.heap.size 31 1 (.slice (some ⟨w.heap.size, 0, none⟩) n n) n (ys.map i64v) ∧ w.grownBy w' row ∧ J n w' := by
  obtain ⟨i0, hi0, hz0, hz1, hz2⟩ := info_parts info_err
  have HF := Lib.hid hf
  have HY := Lib.hid hy
  have HJ := Lib.hid hJ
  have HROW := Lib.hid hrow
  clear hf hy hJ hrow
  go_enter Tryz.func54, Tryz.ntmps54
  go_wp2_with (at_make; refine wpList_make_full _ rfl _ _ 103 rfl w.heap.size 31 i0 (.int .i64 0) 1 Tryz.underlying103 hi0 hz0 hz1 _ _ _ _ n rfl rfl (by omega) (by omega) ?b2 ?b3 (Nat.le_refl _) ?_)
  case b2 => rw [hz2]; omega
  case b3 => unfold maxLen; omega
  intro w0 hown0 hgrow0
  rw [toList_madeCells_one] at hown0
  have hr0 : w.grownBy w0 row := ⟨hgrow0.os, hgrow0.tape, hgrow0.output, hgrow0.size, fun i hi _ => hgrow0.block i hi (by simp)⟩
  have hJ1 : J 0 w0 := HJ.out 0 w w0 hJ0 (fun b hb => hgrow0.block b (HROW.out b hb).1 (by simp))
  go_wp2
  go_loopg [13] n (fun m s W => ∃ k : Nat, k ≤ n ∧ s = .int .i64 k ∧ n - k ≤ m ∧ W.ownsRow w.heap.size 31 1 (.slice (some ⟨w.heap.size, 0, none⟩) n n) n ((ys.take k).map i64v ++ List.replicate (n - k) (.int .i64 0)) ∧ w.grownBy W row ∧ J k W)
  case atStart => exact ⟨0, Nat.zero_le _, rfl, by omega, by rw [set_start]; simpa using hown0, hr0, hJ1⟩
  case round =>
    obtain ⟨k, hk, rfl, hm, hown, hg, hJk⟩ := hrel
    by_cases h0 : k < n
    · obtain ⟨ad, u, rfl, hbb, hu, hcell⟩ := (hx.keptRow hg (fun b hb => (HROW.out b hb).2)).at_ h0
      have hkl : k < ys.length := by have := HY.out; omega
      have hc := HF.out wr k u ys[k] h0 hg hJk hu (List.getElem?_eq_getElem hkl)
      have hss := set_step i64v ys (.int .i64 0) n k hkl HY.out
      simp only [i64v] at hc
      have HC := Lib.hid hc
      have HS := Lib.hid hss
      have hne : row ≠ some w.heap.size := fun e => Nat.lt_irrefl _ (HROW.out _ e).1
      have hns : ∀ b, row = some b → b ≠ w.heap.size := fun b e => Nat.ne_of_lt (HROW.out _ e).1
      have hst := fun (W : World) (a : Addr) (m : _) => run_store Tryz.prog W a (.int .i64 ys[k]) m rfl
      clear hc hss hu
      go_wp2_with (go_at_fn g; refine HC.out.mono ?_; rintro e w1 ⟨rfl, hg1, hJ1⟩; have hr1 := own_kept hown hg1 hne; obtain ⟨v1, hc1⟩ := own_cell hr1 k h0; have hf1 := own_free hr1 k)
      go_roundg (n - (k + 1))
      case measure => omega
      case rel => exact ⟨k + 1, by omega, by go_num, Nat.le_refl _, by have h9 := own_set hr1 k (i64v ys[k]); rw [HS.out] at h9; exact h9, gset (gtrans hg hg1) (p := ⟨w.heap.size, k, none⟩) (Nat.le_refl _) _, HJ.out (k + 1) w1 _ hJ1 (fun b hb => Below.heap_setCell w1 ⟨w.heap.size, k, none⟩ _ b (hns b hb))⟩
    · obtain rfl : k = n := by omega
      have hss := set_stop i64v ys (.int .i64 0) k HY.out
      have HS := Lib.hid hss
      clear hss
      go_wp2
      go_ret
      exact ⟨rfl, by rw [HS.out] at hown; exact hown, hg, hJk⟩

set_option maxHeartbeats 2000000 in
set_option maxRecDepth 100000 in
theorem trn_ie (g : FuncId) (cb : Array Value) (row : Option Nat) (J : Nat → World → Prop) (A : Option Addr) (n c : Nat) (xs : List Value) (ys : List Int) (w : World)
    (eg : ∀ args w, (callFunc g args).run Tryz.prog w = .ok (.enter g args) w) (hn : n ≤ 4096) (hx : Reads w w.heap.size 1 A n xs) (hy : ys.length = n)
    (hrow : ∀ b, row = some b → b < w.heap.size ∧ (0 < n → Off A b)) (hJ0 : J 0 w)
    (hJ : ∀ i W W', J i W → (∀ b, row = some b → W'.heap[b]? = W.heap[b]?) → J i W')
    (hf : ∀ (W : World) (i : Nat) (x : Value) (y : Int), i < n → w.grownBy W row → J i W → xs[i]? = some x → ys[i]? = some y →
      Calls Tryz.prog g (#[x] ++ cb) W fun e W' => e = .returned (i64v y) ∧ W.grownBy W' row ∧ J (i + 1) W') :
    Calls Tryz.prog 55 #[.slice A n c, .func (.func g) #[] cb] w fun e w' =>
      e = .returned (.slice (some ⟨w.heap.size, 0, none⟩) n n) ∧ w'.ownsRow w.heap.size 31 1 (.slice (some ⟨w.heap.size, 0, none⟩) n n) n (ys.map i64v) ∧ w.grownBy w' row ∧ J n w' := by
  obtain ⟨i0, hi0, hz0, hz1, hz2⟩ := info_parts info_err
  have HF := Lib.hid hf
  have HY := Lib.hid hy
  have HJ := Lib.hid hJ
  have HROW := Lib.hid hrow
  clear hf hy hJ hrow
  go_enter Tryz.func55, Tryz.ntmps55
  go_wp2_with (at_make; refine wpList_make_full _ rfl _ _ 103 rfl w.heap.size 31 i0 (.int .i64 0) 1 Tryz.underlying103 hi0 hz0 hz1 _ _ _ _ n rfl rfl (by omega) (by omega) ?b2 ?b3 (Nat.le_refl _) ?_)
  case b2 => rw [hz2]; omega
  case b3 => unfold maxLen; omega
  intro w0 hown0 hgrow0
  rw [toList_madeCells_one] at hown0
  have hr0 : w.grownBy w0 row := ⟨hgrow0.os, hgrow0.tape, hgrow0.output, hgrow0.size, fun i hi _ => hgrow0.block i hi (by simp)⟩
  have hJ1 : J 0 w0 := HJ.out 0 w w0 hJ0 (fun b hb => hgrow0.block b (HROW.out b hb).1 (by simp))
  go_wp2
  go_loopg [13] n (fun m s W => ∃ k : Nat, k ≤ n ∧ s = .int .i64 k ∧ n - k ≤ m ∧ W.ownsRow w.heap.size 31 1 (.slice (some ⟨w.heap.size, 0, none⟩) n n) n ((ys.take k).map i64v ++ List.replicate (n - k) (.int .i64 0)) ∧ w.grownBy W row ∧ J k W)
  case atStart => exact ⟨0, Nat.zero_le _, rfl, by omega, by rw [set_start]; simpa using hown0, hr0, hJ1⟩
  case round =>
    obtain ⟨k, hk, rfl, hm, hown, hg, hJk⟩ := hrel
    by_cases h0 : k < n
    · obtain ⟨ad, u, rfl, hbb, hu, hcell⟩ := (hx.keptRow hg (fun b hb => (HROW.out b hb).2)).at_ h0
      have hkl : k < ys.length := by have := HY.out; omega
      have hc := HF.out wr k u ys[k] h0 hg hJk hu (List.getElem?_eq_getElem hkl)
      have hss := set_step i64v ys (.int .i64 0) n k hkl HY.out
      simp only [i64v] at hc
      have HC := Lib.hid hc
      have HS := Lib.hid hss
      have hne : row ≠ some w.heap.size := fun e => Nat.lt_irrefl _ (HROW.out _ e).1
      have hns : ∀ b, row = some b → b ≠ w.heap.size := fun b e => Nat.ne_of_lt (HROW.out _ e).1
      have hst := fun (W : World) (a : Addr) (m : _) => run_store Tryz.prog W a (.int .i64 ys[k]) m rfl
      clear hc hss hu
      go_wp2_with (go_at_fn g; refine HC.out.mono ?_; rintro e w1 ⟨rfl, hg1, hJ1⟩; have hr1 := own_kept hown hg1 hne; obtain ⟨v1, hc1⟩ := own_cell hr1 k h0; have hf1 := own_free hr1 k)
      go_roundg (n - (k + 1))
      case measure => omega
      case rel => exact ⟨k + 1, by omega, by go_num, Nat.le_refl _, by have h9 := own_set hr1 k (i64v ys[k]); rw [HS.out] at h9; exact h9, gset (gtrans hg hg1) (p := ⟨w.heap.size, k, none⟩) (Nat.le_refl _) _, HJ.out (k + 1) w1 _ hJ1 (fun b hb => Below.heap_setCell w1 ⟨w.heap.size, k, none⟩ _ b (hns b hb))⟩
    · obtain rfl : k = n := by omega
      have hss := set_stop i64v ys (.int .i64 0) k HY.out
      have HS := Lib.hid hss
      clear hss
      go_wp2
      go_ret
      exact ⟨rfl, by rw [HS.out] at hown; exact hown, hg, hJk⟩
end Go.Proofs.YthmiamppfncfoaaGreatDoor
