/- Contracts of slices.ContainsFunc at zeros, and of probe's Unpack. -/
import Derived.Test.YtboaojkblmddkaaGreatDoorCWds
import Derived.Deep.MidRow
import Derived.Maps.AppendAt
namespace Go.Proofs.YtboaojkblmddkaaGreatDoor
open Go.RowKit

theorem unp1_zero (w : World) : Calls Tryz.prog 74 #[.int .u16 0] w fun e w' => e = .returned (.bool false) ∧ w = w' := by
  go_enter Tryz.func74, Tryz.ntmps74
  go_wp2
  go_ret
  exact ⟨rfl, rfl⟩
theorem unp1_enter (args : Array Value) (w : World) : (callFunc 74 args).run Tryz.prog w = .ok (.enter 74 args) w := by kernel_rfl

set_option maxHeartbeats 1000000 in
theorem indexFunc_zero (A : Option Addr) (n c : Nat) (w : World) (h : Reads w w.heap.size 1 A n (List.replicate n (u16v 0))) (hn : n ≤ 65536) :
    Calls Tryz.prog 110 #[.slice A n c, .func (.func 74) #[] #[]] w fun e w' => e = .returned (.int .i64 (-1)) ∧ w = w' := by
  have eg := unp1_enter
  have HC := Lib.hid (unp1_zero w)
  go_enter Tryz.func110, Tryz.ntmps110
  go_wp2
  go_loop [8] (fun s => ∃ k : Nat, k ≤ n ∧ s = .int .i64 k) (fun s => n - (intOf s).toNat)
  case atStart => exact ⟨0, Nat.zero_le _, rfl⟩
  case round =>
    obtain ⟨k, hk, rfl⟩ := hrel
    by_cases h0 : k < n
    · obtain ⟨ad, u, rfl, hbb, hu, hcell⟩ := h.at_ h0
      rw [List.getElem?_replicate, if_pos h0] at hu
      injection hu with hu
      subst hu
      unfold u16v at hcell
      simp only [Int.natCast_zero] at hcell
      go_wp2_with (go_at_fn 74; refine HC.out.mono ?_; rintro e w' ⟨rfl, rfl⟩)
      go_round
      case rel => exact ⟨k + 1, by omega, by go_num⟩
      case measure => simp [intOf]; omega
    · go_wp2
      go_ret
      exact ⟨rfl, rfl⟩
theorem containsFunc_zero (A : Option Addr) (n c : Nat) (w : World) (h : Reads w w.heap.size 1 A n (List.replicate n (u16v 0))) (hn : n ≤ 65536) :
    Calls Tryz.prog 73 #[.slice A n c, .func (.func 74) #[] #[]] w fun e w' => e = .returned (.bool false) ∧ w = w' := by
  have HC := Lib.hid (indexFunc_zero A n c w h hn)
  clear h
  go_enter Tryz.func73, Tryz.ntmps73
  go_wp2_with fail
  refine HC.out.mono ?_
  rintro e w1 ⟨rfl, rfl⟩
  go_wp2_with fail
  go_ret
  exact ⟨rfl, rfl⟩

theorem Reads.dropN {w : World} {B n k : Nat} {ad : Addr} {xs : List Value} (h : Reads w B 1 (some ad) n xs) (hk : k ≤ n) : Reads w B 1 (some (ad.add k)) (n - k) (xs.drop k) := by
  refine ⟨by rw [List.length_drop, h.1]; omega, fun h0 => ?_⟩
  obtain ⟨ad', e, hb, hc⟩ := h.2 (by omega)
  injection e with e
  subst e
  refine ⟨_, rfl, by rw [block_of_add]; exact hb, fun j u hu => ?_⟩
  rw [add_of_add]
  rw [List.getElem?_drop] at hu
  exact hc _ u hu
theorem own_setRow {w : World} {base size n : Nat} {e : TypeId} {v : Value} {xs : List Value} (h : w.ownsRow base e size v n xs) (o : Obj) (cs : Array Value) : ((w.alloc o).setRow w.heap.size cs).ownsRow base e size v n xs :=
  (h.alloc o).kept (row := some w.heap.size) ⟨rfl, rfl, rfl, by simp [World.setRow], fun k _ hk => setRow_other (w.alloc o) w.heap.size k cs (fun e => hk (by rw [e]))⟩ (.inr (fun e => Nat.lt_irrefl _ (World.ownsRow.lt h _ e).2))
theorem cell_setRow (w : World) (t : TypeId) (old : Array Value) (cs : List Value) : ∀ j u, cs[j]? = some u → ((w.alloc (.cells old t)).setRow w.heap.size cs.toArray).cell? ((⟨w.heap.size, 0, none⟩ : Addr).add j) = some u := by
  intro j u hj
  have h := setRow_heap (w.alloc (.cells old t)) w.heap.size old cs.toArray t (0, 0) (heap_alloc_new w _)
  have e : (⟨w.heap.size, 0, none⟩ : Addr).add j = ⟨w.heap.size, j, none⟩ := by unfold Addr.add; by_cases hj : j = 0 <;> simp [hj]
  rw [e, cell_of_row _ w.heap.size j cs.toArray t (0, 0) h]
  simpa using hj
theorem below_setRow_new {B : Nat} {w0 w : World} (h : Below B w0 w) (hB : B ≤ w.heap.size) (o : Obj) (cs : Array Value) : Below B w0 ((w.alloc o).setRow w.heap.size cs) := below_setRow (h.alloc hB o) hB cs

set_option maxHeartbeats 1000000 in
set_option maxRecDepth 100000 in
theorem unpack_ok (g n c : Nat) (ws : List Nat) (F : List Value) (w : World) (hblk : w.heap[g]? = some (.cells F.toArray 64 (0, 0))) (hF : F = ws.map u16v ++ List.replicate (16 * ((n + 15) / 16) - n) (u16v 0)) (hl : ws.length = n) (h0 : 1 ≤ n) (hn : n ≤ 4096) :
    Calls Tryz.prog 37 #[.slice (some ⟨g, 0, none⟩) ((n + 15) / 16) c, .int .i64 n] w fun e w' => ∃ A', e = .returned (.tuple #[.slice A' n n, .int .i64 0]) ∧ Reads w' w'.heap.size 1 A' n (ws.map u16v) ∧ Below w.heap.size w w' := by
  obtain ⟨i0, hi0, hz0, hz1, hz2⟩ := info_parts info_u16
  have hone : ∀ v ∈ F, v.oneCell' = true := by
    intro v hv
    rw [hF, List.mem_append] at hv
    rcases hv with hv | hv
    · exact u16v_one ws v hv
    · rw [(List.mem_replicate.1 hv).2]; rfl
  have hlen : F.length = 16 * ((n + 15) / 16) := by
    rw [hF, List.length_append, List.length_map, List.length_replicate, hl]; omega
  have hg : g < w.heap.size := (Array.getElem?_eq_some_iff.1 hblk).1
  have e1 : (if (256 : Int) < (((n + 15) / 16 : Nat) : Int) then (5 : Int) else 0) = 0 := if_neg (by omega)
  have H1 := catMost_block (some ⟨g, 0, none⟩) ((n + 15) / 16) c 256 w
  rw [e1] at H1
  have H2 := cinRange_any (n : Int) 0 4096 w
  have hr : rangeE (n : Int) 0 4096 = 0 := by unfold rangeE; rw [if_neg (by omega)]
  rw [hr] at H2
  have H3 := fun W : World => blocksFor_any n W hn
  have hk1 : 16 * ((n + 15) / 16) - n ≤ 16 := by omega
  have hk2 : n ≤ 16 * ((n + 15) / 16) := by omega
  have hk3 : (n + 15) / 16 ≤ 256 := by omega
  have hk4 : 1 ≤ (n + 15) / 16 := by omega
  generalize (n + 15) / 16 = k at *
  have K1 := Lib.hid H1
  have K2 := Lib.hid H2
  have K3 := Lib.hid H3
  have HB := Lib.hid hblk
  have HF := Lib.hid hF
  have HL := Lib.hid hlen
  have HWL := Lib.hid hl
  have HONE := Lib.hid hone
  clear H1 H2 H3 e1 hr hblk hF hlen hl hone
  go_enter Tryz.func37, Tryz.ntmps37
  go_wp2_with fail
  refine K1.out.mono ?_
  rintro e w1 ⟨rfl, rfl⟩
  go_wp2_with fail
  refine K2.out.mono ?_
  rintro e w1 ⟨rfl, rfl⟩
  go_wp2_with fail
  refine (cfirst_two 0 0 w 29 w.heap.size rfl).mono ?_
  rintro e w1 ⟨rfl, rfl⟩
  have hb1 : Below w.heap.size w (w.alloc (.cells #[.int .i64 0, .int .i64 0] 29)) := (Below.refl _ _).alloc (Nat.le_refl _) _
  generalize w.alloc (.cells #[.int .i64 0, .int .i64 0] 29) = w1 at *
  go_wp2_with fail
  refine (K3.out _).mono ?_
  rintro e w2 ⟨rfl, rfl⟩
  have hkk : ((k : Int) != (k : Int)) = false := by simp
  have hw1 : wrap64 ((k : Int) * 16) = ((16 * k : Nat) : Int) := by rw [IntWalk.wrap64_in _ (by omega)]; omega
  go_wp2_with (at_make; refine wpList_make_own _ rfl _ _ 51 rfl w1.heap.size 63 i0 (.int .u16 0) 1 Tryz.underlying51 hi0 hz0 hz1 _ _ _ (16 * k) rfl rfl (by omega) ?b2 ?b3 (Nat.le_refl _) ?_)
  case b2 => rw [hz2]; omega
  case b3 => unfold maxLen; omega
  intro w2 hown0 hgrow0
  have hB2 : Below w.heap.size w w2 := hb1.trans ((gnone hgrow0 (Nat.le_refl _)).mono hb1.size)
  have hle := hb1.size
  have hG2 := hgrow0.size
  clear hgrow0 hkk hw1
  generalize w1.heap.size = G at *
  go_wp2
  go_loopg [7, 30] k (fun q v s W => ∃ i : Nat, i ≤ k ∧ s = .int .i64 i ∧ k - i ≤ q ∧ W.ownsRow G 63 1 v (16 * i) (F.take (16 * i)) ∧ Below w.heap.size w W ∧ G ≤ W.heap.size)
  case atStart => exact ⟨0, Nat.zero_le _, rfl, by omega, by simpa using hown0, hB2, hG2⟩
  case round =>
    obtain ⟨i, hi, rfl, hq, hown, hbel, hGr⟩ := hrel
    by_cases hik : i < k
    · have hcl : ((F.drop (16 * i)).take 16).length = 16 := by rw [List.length_take, List.length_drop, HL.out]; omega
      have hrg : wr.rangeAt g (i * 16) ((F.drop (16 * i)).take 16) := by
        intro j v hj
        have hb9 : wr.heap[g]? = some (.cells F.toArray 64 (0, 0)) := (hbel.block g hg).trans HB.out
        rw [cell_of_row wr g (i * 16 + j) F.toArray 64 (0, 0) hb9]
        rw [List.getElem?_take] at hj
        split at hj
        · rw [List.getElem?_drop] at hj
          rw [List.getElem?_toArray, Nat.mul_comm i 16]; exact hj
        · cases hj
      have hon : ∀ v ∈ (F.drop (16 * i)).take 16, v.oneCell' = true := fun v hv => HONE.out v (List.mem_of_mem_drop (List.mem_of_mem_take hv))
      have htk : F.take (16 * i) ++ (F.drop (16 * i)).take 16 = F.take (16 * (i + 1)) := by rw [← List.take_add, show 16 * i + 16 = 16 * (i + 1) from by omega]
      generalize (F.drop (16 * i)).take 16 = cs at *
      have HTK := Lib.hid htk
      have HRG := Lib.hid hrg
      have HON := Lib.hid hon
      have HCL := Lib.hid hcl
      have hi78 : (Tryz.prog.info? 64).map (·.size) = some cs.toArray.size := by
        rw [List.size_toArray, HCL.out]; kernel_rfl
      have hi78' : (Tryz.prog.info? 64).map (·.size) = some cs.length := by
        rw [HCL.out]; kernel_rfl
      have H78 := Lib.hid hi78
      have H78' := Lib.hid hi78'
      have hsz16 : (16 : Nat) = cs.toArray.size := by rw [List.size_toArray, HCL.out]
      have HSZ := Lib.hid hsz16
      clear htk hrg hon hcl hi78 hi78' hsz16
      go_wp2_with (first
        | (refine wpList_load_mid rfl 64 (.tmp 32) rfl g (i * 16) rfl cs _ HRG.out Tryz.underlying64 rfl H78'.out ?_)
        | (refine wpList_store_row rfl 64 (.tmp 9) (.tmp 33) rfl wr.heap.size cs.toArray rfl rfl 64 _ (heap_alloc_new _ _) H78.out HSZ.out (all_oneCell_toArray HON.out) ?_)
        | (at_builtin; refine wpList_append_own _ rfl _ _ 51 rfl G 63 i0 (.int .u16 0) 1 2 Tryz.underlying51 hi0 hz0 hz1 hz2 rfl (by decide) _ _ _ rfl (own_setRow hown _ _) ⟨wr.heap.size, 0, none⟩ 16 16 cs rfl HCL.out ?c1 HON.out ?c3 ?c4 ?c5 ?_))
      case c1 => exact cell_setRow _ _ _ _
      case c3 => unfold maxLen; omega
      case c4 => omega
      case c5 => simp [World.setRow]; omega
      intro v' w3 hown' hgrow _
      have hb3 : Below w.heap.size w w3 := (below_setRow_new hbel hbel.size _ _).grown hgrow (by have := hbel.size; simp [World.setRow]; omega) (fun g hg => Nat.le_trans hle (World.ownsRow.lt hown g hg).1)
      have hG3 : G ≤ w3.heap.size := Nat.le_trans (by simp [World.setRow]; omega) hgrow.size
      rw [HTK.out] at hown'
      clear hgrow hown
      go_wp2
      go_roundg (k - (i + 1))
      case measure => omega
      case rel => exact ⟨i + 1, by omega, by go_num, Nat.le_refl _, by rw [show 16 * (i + 1) = 16 * i + 16 from by omega] at hown' ⊢; exact hown', hb3, hG3⟩
    · obtain rfl : i = k := by omega
      rw [List.take_of_length_le (by rw [HL.out]; exact Nat.le_refl _)] at hown
      obtain ⟨A, c', rfl, hcc, hcm, hrd⟩ := own_slice hown
      obtain ⟨ad, rfl, hadb, _⟩ := hrd.2 (by omega)
      have hd := hrd.dropN hk2
      have htw := hrd.take hk2
      rw [HF.out, List.drop_append_of_le_length (by rw [List.length_map, HWL.out]; exact Nat.le_refl _), List.drop_eq_nil_of_le (by rw [List.length_map, HWL.out]; exact Nat.le_refl _), List.nil_append] at hd
      rw [HF.out, List.take_append_of_le_length (by rw [List.length_map, HWL.out]; exact Nat.le_refl _), List.take_of_length_le (by rw [List.length_map, HWL.out]; exact Nat.le_refl _)] at htw
      have HD := Lib.hid hd
      have HTW := Lib.hid htw
      unfold maxLen at hcm
      have b1 : (0 : Int) ≤ (n : Int) := by omega
      have b2 : (n : Int) ≤ (c' : Int) := by omega
      have b3 : (n : Int) ≤ ((16 * i : Nat) : Int) := by omega
      clear hd htw hown hrd
      by_cases hcn : c' = n
      · have hz16 : 16 * i - n = 0 := by omega
        have hzr : Reads wr wr.heap.size 1 (some ad) (16 * i - n) (List.replicate (16 * i - n) (u16v 0)) := by
          rw [hz16]; exact ⟨rfl, fun h => absurd h (by omega)⟩
        have HZ := Lib.hid hzr
        clear hzr hz16
        go_wp2_with fail
        refine (containsFunc_zero _ (16 * i - n) _ wr HZ.out (by omega)).mono ?_
        rintro e w4 ⟨rfl, rfl⟩
        go_wp2_with fail
        go_ret2
        exact ⟨_, rfl, HTW.out, hbel⟩
      · go_wp2_with fail
        refine (containsFunc_zero _ (16 * i - n) _ wr HD.out (by omega)).mono ?_
        rintro e w4 ⟨rfl, rfl⟩
        go_wp2_with fail
        go_ret2
        exact ⟨_, rfl, HTW.out, hbel⟩

end Go.Proofs.YtboaojkblmddkaaGreatDoor

/- Contract of probe's Aligned, where the records have times in common. -/
namespace Go.Proofs.YtboaojkblmddkaaGreatDoor
open Go.RowKit
open Flt

theorem set_gs (m : Nat) (gs : List Nat) (z : Value) (n k g : Nat) (hk : k < n) (hy : gs.length = k) :
    (gs.map (sl1 m) ++ List.replicate (n - k) z).set k (sl1 m g) = (gs ++ [g]).map (sl1 m) ++ List.replicate (n - (k + 1)) z := by
  rw [List.set_append_right _ _ (by rw [List.length_map]; omega), List.length_map, hy, Nat.sub_self, show n - k = (n - (k + 1)) + 1 from by omega, List.replicate_succ, List.set_cons_zero, List.map_append, List.append_assoc]
  rfl
theorem algR_succ (rows : List (List Nat)) (sk : List Int) (k : Nat) (h : k < rows.length) (h2 : k < sk.length) : (algR rows sk).take (k + 1) = (algR rows sk).take k ++ [alg1 (frT sk) (toT rows sk) rows[k] sk[k]] := by
  have hl : k < (algR rows sk).length := by unfold algR; rw [List.length_zipWith]; omega
  unfold algR at hl ⊢
  rw [List.take_succ_eq_append_getElem hl, List.getElem_zipWith]

set_option maxHeartbeats 2000000 in
set_option maxRecDepth 100000 in
theorem aligned_ok (A A' : Option Addr) (n c c' m : Nat) (rows : List (List Nat)) (sk : List Int) (w : World) (h : RowsR f32v w w.heap.size A n rows) (h' : Reads w w.heap.size 1 A' n (sk.map i64v)) (hv : Valid rows sk) (hlt : frT sk < toT rows sk) (hm : (m : Int) = toT rows sk - frT sk) :
    Calls Tryz.prog 41 #[.slice A n c, .slice A' n c'] w fun e w' => ∃ G gs, e = .returned (.tuple #[.slice (some ⟨G, 0, none⟩) n n, .int .i64 0]) ∧ Laid w' w.heap.size G m gs (algR rows sk) ∧ w'.ownsRow w.heap.size 22 1 (.slice (some ⟨G, 0, none⟩) n n) n (gs.map (sl1 m)) ∧ Below w.heap.size w w' := by
  obtain ⟨i0, hi0, hz0, hz1, hz2⟩ := info_parts info_fls
  have hl := h.1
  have hl' := hv.same
  have h1 := hv.some_
  have h8 := hv.few
  have K1 := Lib.hid (checkRecords_ok A n c rows w h (by omega) (by omega) hv.len hv.fin)
  have K2 := Lib.hid (fun (W : World) (hb : Below w.heap.size w W) => checkSkews_ok A' n c' sk W (h'.later hb) (by omega) hv.small)
  have K3 := Lib.hid (fun (W : World) (hb : Below w.heap.size w W) => commonTimes_ok A A' n c c' rows sk W (h.later hb) (h'.later hb) (by omega) hv.len hv.small)
  have HGE := Lib.hid (frT_ge sk)
  have HLE := Lib.hid (toT_le rows sk hl')
  have HSU := Lib.hid (algR_succ rows sk)
  have hal : (algR rows sk).length = n := by unfold algR; rw [List.length_zipWith]; omega
  have hbd := frT_bd sk hv.small
  have hbt := toT_bd rows sk
  have HLEN := Lib.hid hv.len
  have HS := Lib.hid hv.small
  generalize algR rows sk = R at *
  generalize toT rows sk = tt at *
  generalize frT sk = fr at *
  have hd : decide (tt ≤ fr) = false := by simpa using hlt
  have hn8 : n ≤ 8 := by omega
  have hn1 : 1 ≤ n := by omega
  have HL := Lib.hid hl
  have HL' := Lib.hid hl'
  have HAL := Lib.hid hal
  have HM := Lib.hid hm
  clear hl hl' h1 h8 hv hal hm
  go_enter Tryz.func41, Tryz.ntmps41
  go_wp2_with fail
  refine K1.out.mono ?_
  rintro e w1 ⟨rfl, hb1⟩
  go_wp2_with fail
  refine (K2.out w1 hb1).mono ?_
  rintro e w2 ⟨rfl, hb2⟩
  have hB2 := hb1.trans (hb2.mono hb1.size)
  go_wp2_with fail
  refine (cfirst_two 0 0 w2 29 w2.heap.size rfl).mono ?_
  rintro e w3 ⟨rfl, rfl⟩
  have hB3 : Below w.heap.size w (w2.alloc (.cells #[.int .i64 0, .int .i64 0] 29)) := hB2.alloc hB2.size _
  generalize w2.alloc (.cells #[.int .i64 0, .int .i64 0] 29) = w3 at *
  go_wp2_with fail
  refine (K3.out w3 hB3).mono ?_
  rintro e w4 ⟨rfl, rfl⟩
  go_wp2_with (at_make; refine wpList_make_full _ rfl _ _ 75 rfl w3.heap.size 22 i0 (.slice none 0 0) 1 Tryz.underlying75 hi0 hz0 hz1 _ _ _ _ n rfl rfl (by omega) (by omega) ?b2 ?b3 (Nat.le_refl _) ?_)
  case b2 => rw [hz2]; omega
  case b3 => unfold maxLen; omega
  intro w5 hown0 hgrow0
  rw [toList_madeCells_one] at hown0
  have hB5 : Below w.heap.size w w5 := hB3.trans ((gnone hgrow0 (Nat.le_refl _)).mono hB3.size)
  have hle := hB3.size
  have hG5 := (own_lt hown0).2
  have hown1 := own_mono hown0 hle
  clear hgrow0 hown0
  generalize w3.heap.size = G at *
  go_wp2
  go_loopg [37] n (fun q s W => ∃ k : Nat, k ≤ n ∧ s = .int .i64 k ∧ n - k ≤ q ∧ (∃ gs : List Nat, Hid (gs.length = k) ∧ Laid W w.heap.size G m gs (R.take k) ∧ W.ownsRow w.heap.size 22 1 (.slice (some ⟨G, 0, none⟩) n n) n (gs.map (sl1 m) ++ List.replicate (n - k) (.slice none 0 0))) ∧ Below w.heap.size w W ∧ G < W.heap.size)
  case atStart => exact ⟨0, Nat.zero_le _, rfl, by omega, ⟨[], rfl, ⟨by simp, fun i hi _ => by simp at hi⟩, by simpa using hown1⟩, hB5, hG5⟩
  case round =>
    obtain ⟨k, hk, rfl, hq, ⟨gs, hgs, hlaid, hown⟩, hbel, hGr⟩ := hrel
    by_cases h0 : k < n
    · obtain ⟨ad, hkl, A1, c1, rfl, hbb, hcell, hlc, hcm, hrd⟩ := (h.below hbel).row h0
      obtain ⟨ad', hkl', rfl, hbb', hcell'⟩ := (h'.below hbel).cellM h0
      have hL := HLEN.out rows[k] (List.getElem_mem hkl)
      have hS := HS.out sk[k] (List.getElem_mem hkl')
      have hge := HGE.out sk[k] (List.getElem_mem hkl')
      have hle2 := HLE.out k hkl hkl'
      have hsu := HSU.out k hkl hkl'
      unfold i64v at hcell'
      obtain ⟨lo, hlo⟩ : ∃ lo : Nat, (lo : Int) = fr + sk[k] := ⟨(fr + sk[k]).toNat, by omega⟩
      obtain ⟨hi, hhi⟩ : ∃ hi : Nat, (hi : Int) = tt + sk[k] := ⟨(tt + sk[k]).toNat, by omega⟩
      have hm2 := HM.out
      have hml : hi - lo = m := by omega
      have hb1' : lo < hi := by omega
      have hb2' : hi ≤ rows[k].length := by omega
      obtain ⟨a1, rfl, ha1, _⟩ := hrd.2 (by omega)
      have hcut := (hrd.dropN (k := lo) (by omega)).take (m := m) (by omega)
      rw [← List.map_drop, ← List.map_take] at hcut
      have he1 : ((rows[k].drop lo).take m).map posz = alg1 fr tt rows[k] sk[k] := by
        unfold alg1
        rw [← hlo, ← hm2]; rfl
      have hT := trn_posz (some (a1.add lo)) m (c1 - lo) ((rows[k].drop lo).take m) wr.drew (hcut.more hbel.size) (by omega)
      rw [he1] at hT
      rw [← he1] at hsu
      have hrl : (((rows[k].drop lo).take m).map posz).length = m := by rw [List.length_map]; exact hcut.lenM
      rw [he1] at hsu hrl
      generalize alg1 fr tt rows[k] sk[k] = r at *
      generalize rows[k].length = L at *
      have hx1 : IntKind.i64.wrap (fr + sk[k]) = (lo : Int) := by rw [← hlo]; exact IntWalk.i64_in _ (by omega)
      have hx2 : IntKind.i64.wrap (tt + sk[k]) = (hi : Int) := by rw [← hhi]; exact IntWalk.i64_in _ (by omega)
      generalize sk[k] = s at *
      have HT := Lib.hid hT
      have HSU2 := Lib.hid hsu
      have HRL := Lib.hid hrl
      have hy1 : (0 : Int) ≤ (lo : Int) := by omega
      have hy2 : (lo : Int) ≤ (hi : Int) := by omega
      have hy3 : (hi : Int) ≤ (c1 : Int) := by omega
      have hy4 : c1 ≠ lo := by omega
      have hy5 : (0 : Int) ≤ (k : Int) := by omega
      have hy6 : (k : Int) < (n : Int) := by omega
      have hne : (⟨G, k, none⟩ : Addr) ≠ ad'.add k := fun e => by
        have := congrArg Addr.block e
        rw [block_of_add] at this
        have : G = ad'.block := this
        omega
      clear hT hsu hrl hlo hhi hm2 he1 hcut
      go_wp2_with fail
      go_region_held3 (fun w' => w'.cell? (ad'.add k) = some (.int .i64 s))
        ((first | exact hcell' | exact y6 | exact (World.cell?_setCell_other _ _ _ _ hne).trans y6))
        ((go_at_call 78; refine (HT.out).mono ?_; rintro e w6 ⟨rfl, ho6, hb6'⟩; have hb6 : Below wr.heap.size wr w6 := ⟨hb6'.os, hb6'.tape, hb6'.output, hb6'.size, hb6'.block⟩; clear hb6'; have hr6 := own_kept hown (only_of_below hb6 none) (by simp); obtain ⟨v6, hc6⟩ := own_cell hr6 k h0; have hf6 := own_free hr6 k; have y6 := (hb6.cell (by rw [block_of_add]; exact Nat.lt_of_lt_of_le hbb' hbel.size)).trans hcell'))
      go_wp2
      go_roundg (n - (k + 1))
      case measure => omega
      case rel =>
        have hlw : w.heap.size ≤ wr.heap.size := hbel.size
        refine ⟨k + 1, by omega, by go_num, Nat.le_refl _, ⟨gs ++ [wr.heap.size], ?_, ?_, ?_⟩, ?_, ?_⟩
        · show (gs ++ [wr.heap.size]).length = k + 1
          rw [List.length_append, hgs.out]; rfl
        · rw [HSU2.out]
          exact ((hlaid.below hb6).snoc hGr HRL.out (own_mono ho6 hlw)).set k _
        · have hq1 := own_set hr6 k (sl1 m wr.heap.size)
          rw [set_gs m gs _ n k wr.heap.size h0 hgs.out] at hq1
          exact hq1
        · exact (hbel.trans (hb6.mono hlw)).setCell (p := ⟨G, k, none⟩) hle _
        · rw [show ∀ (p : Addr) (u : Value), (w6.setCell p u).heap.size = w6.heap.size from fun p u => by simp [World.setCell]]
          exact Nat.lt_of_lt_of_le hGr hb6.size
    · obtain rfl : k = n := by omega
      have e1 : R.take k = R := List.take_of_length_le (by rw [HAL.out]; exact Nat.le_refl _)
      rw [e1] at hlaid
      rw [Nat.sub_self, List.replicate_zero, List.append_nil] at hown
      go_wp2
      go_ret2
      exact ⟨_, gs, rfl, hlaid, hown, hbel⟩

end Go.Proofs.YtboaojkblmddkaaGreatDoor
