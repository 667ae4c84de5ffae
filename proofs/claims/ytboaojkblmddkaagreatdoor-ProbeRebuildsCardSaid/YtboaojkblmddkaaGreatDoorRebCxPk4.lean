/- Blocks of sixteen words: when they are equal; probe's Block of sixteen words. -/
import Derived.Test.YtboaojkblmddkaaGreatDoorRebCxLin
import Derived.Test.YtboaojkblmddkaaGreatDoorCUnp
import Derived.Deep.MidRow
import Derived.ChangeKeysEq
import Derived.Laws.StructEq
import Derived.Laws.ResultCell
import Derived.Test.YtboaojkblmddkaaGreatDoorCAwc
import Derived.Test.YtboaojkblmddkaaGreatDoorCAd2
import Derived.BigQuiet
import Derived.Deep.LoopGhost
import Derived.Test.YtboaojkblmddkaaGreatDoorRebCxReb2
namespace Go.Proofs.YtboaojkblmddkaaGreatDoor
open Go.RowKit Bn

section
variable {P : Program}
theorem res_cell_tmp {fn : Func} {p u : Tmp} {ty : TypeId} (h : fn.results = #[.cell p ty, .tmp u]) (tmps : Array Value) (w : World) (g : Nat) (v r : Value) (hp : tmps.getD p undef = .pointer (some ⟨g, 0, none⟩))
    (hl : (loadVar ty ⟨g, 0, none⟩).run P w = .ok v w) (hr : tmps.getD u undef = r) : (results fn tmps).run P w = .ok (.tuple #[v, r]) w := by
  rw [results_cell_tmp h, hp, hr]
  have ha : (asAddr (.pointer (some ⟨g, 0, none⟩))).run P w = .ok (⟨g, 0, none⟩ : Addr) w := by simp [asAddr]
  rw [ha]
  simp only [Result.andThen_ok, hl]
theorem eqItems_words (d : Nat) (e : TypeId) (he : P.underlying e = some (.int .u16)) (xs ys : List Nat) (w : World) : ∀ is : List Nat, (∀ i ∈ is, i < xs.length ∧ i < ys.length) →
    (Op.eqItems (d + 1) e 1 (xs.map u16v).toArray (ys.map u16v).toArray is).run P w = .ok (is.all fun i => xs.getD i 0 == ys.getD i 0) w
  | [], _ => by simp [Op.eqItems]
  | i :: is, h => by
    obtain ⟨h1, h2⟩ := h i (by simp)
    have ih := eqItems_words d e he xs ys w is (fun j hj => h j (by simp [hj]))
    have px : (part e (xs.map u16v).toArray (i * 1)).run P w = .ok (u16v xs[i]) w := by
      simp [part, isAgg, run_underlying he, h1]
    have py : (part e (ys.map u16v).toArray (i * 1)).run P w = .ok (u16v ys[i]) w := by
      simp [part, isAgg, run_underlying he, h2]
    have pe : (Op.equalIn (d + 1) e (u16v xs[i]) (u16v ys[i])).run P w = .ok (xs[i] == ys[i]) w := by
      unfold u16v
      rw [run_equalIn_int w d e .u16 .u16 _ _ he]
      congr 1
      rw [Bool.eq_iff_iff]
      simp only [beq_iff_eq]
      exact Int.ofNat_inj
    have e1 : xs.getD i 0 = xs[i] := by simp [List.getD, h1]
    have e2 : ys.getD i 0 = ys[i] := by simp [List.getD, h2]
    simp only [Op.eqItems, Sem.run_bind, px, py, pe, Result.andThen_ok, List.all_cons, e1, e2]
    cases hb : (xs[i] == ys[i])
    · simp
    · simp only [Bool.not_true, Bool.false_eq_true, if_false, Bool.true_and]
      exact ih
theorem equalIn_words (d : Nat) (t e : TypeId) (n : Nat) (i : TypeInfo) (hu : P.underlying t = some (.array n e)) (hi : P.info? e = some i) (hc : P.cellsOf e = 1) (he : P.underlying e = some (.int .u16)) (xs ys : List Nat) (hx : xs.length = n) (hy : ys.length = n) (w : World) :
    (Op.equalIn (d + 2) t (.agg (xs.map u16v).toArray) (.agg (ys.map u16v).toArray)).run P w = .ok (xs == ys) w := by
  rw [run_equalIn_array w (d + 1) _ _ hu hi, hc, eqItems_words d e he xs ys w _ (fun i hi => by have := List.mem_range.1 hi; omega)]
  congr 1
  rw [Bool.eq_iff_iff, List.all_eq_true, beq_iff_eq]
  constructor
  · intro h
    apply List.ext_getElem (by omega)
    intro j h1 h2
    have := h j (List.mem_range.2 (by omega))
    simpa [List.getD, h1, h2] using this
  · intro h j _
    rw [h]; simp
end

theorem eq_blk (xs ys : List Nat) (hx : xs.length = 16) (hy : ys.length = 16) (W : World) : (Op.equalIn 10000 64 (.agg (xs.map u16v).toArray) (.agg (ys.map u16v).toArray)).run Tryz.prog W = .ok (xs == ys) W := by
  obtain ⟨i, hi⟩ : ∃ i, Tryz.prog.info? 63 = some i := Option.isSome_iff_exists.1 (by kernel_rfl)
  exact equalIn_words 9998 64 63 16 i Tryz.underlying64 hi (by kernel_rfl) Tryz.underlying63 xs ys hx hy W

theorem arrayAt16 (g c : Nat) (W : World) : (Instr.arrayAt 64 (.slice (some ⟨g, 0, none⟩) 16 c)).run Tryz.prog W = .ok (.pointer (some ⟨g, 0, none⟩)) W := by kernel_rfl

theorem range_setRow (w : World) (t : TypeId) (old : Array Value) (cs : List Value) : ((w.alloc (.cells old t)).setRow w.heap.size cs.toArray).rangeAt w.heap.size 0 cs := by
  intro j v hj
  have h := cell_setRow w t old cs j v hj
  rwa [Addr.add_mid] at h
theorem range_below {B g : Nat} {w w' : World} {cs : List Value} (h : w.rangeAt g 0 cs) (hb : Below B w w') (hg : g < B) : w'.rangeAt g 0 cs := fun j v hj => (hb.cell hg).trans (h j v hj)
theorem load_blk (g : Nat) (cs : List Value) (hl : cs.length = 16) (W : World) (h : W.rangeAt g 0 cs) : (loadVar 64 ⟨g, 0, none⟩).run Tryz.prog W = .ok (.agg cs.toArray) W :=
  run_loadVar_mid W g 0 64 cs _ h Tryz.underlying64 rfl (by rw [hl]; kernel_rfl)

theorem index_blk (ws : List Nat) (k : Nat) (hk : k < ws.length) (hl : ws.length = 16) (W : World) : (Instr.index 64 (.agg (ws.map u16v).toArray) (.int .i64 (k : Int))).run Tryz.prog W = .ok (.int .u16 ((ws[k] : Nat) : Int)) W := by
  have hs : (sizeOf 63).run Tryz.prog W = .ok 1 W := by kernel_rfl
  have hb : (0 : Int) ≤ (k : Int) ∧ (k : Int) < ((16 : Nat) : Int) := by omega
  have hp : (part 63 (ws.map u16v).toArray (k * 1)).run Tryz.prog W = .ok (u16v ws[k]) W := by
    simp [part, isAgg, run_underlying Tryz.underlying63, hk]
  unfold Instr.index
  simp only [asIntOf, Sem.run_bind, Sem.run_pure, Result.andThen_ok, run_underlying Tryz.underlying64]
  rw [if_pos hb]
  simp only [Sem.run_bind, hs, Result.andThen_ok, Int.toNat_natCast]
  exact hp

set_option maxHeartbeats 1000000 in
set_option maxRecDepth 100000 in
theorem block_ok (g c : Nat) (ws : List Nat) (w : World) (h : w.rangeAt g 0 (ws.map u16v)) (hl : ws.length = 16) (hg : g < w.heap.size) :
    Calls Tryz.prog 35 #[.slice (some ⟨g, 0, none⟩) 16 c] w fun e w' => e = .returned (.tuple #[.agg (ws.map u16v).toArray, .int .i64 0]) ∧ Below w.heap.size w w' := by
  have HM := Lib.hid (fun W => catMost_u16 (some ⟨g, 0, none⟩) 16 c 4096 W)
  have har := arrayAt16 g c
  have hone : ∀ v ∈ ws.map u16v, v.oneCell' = true := u16v_one ws
  have hcl : (ws.map u16v).length = 16 := by rw [List.length_map]; exact hl
  generalize ws.map u16v = cs at *
  have HON := Lib.hid hone
  have HRG := Lib.hid (fun (W : World) (hb : Below w.heap.size w W) => range_below h hb hg)
  have hi78 : (Tryz.prog.info? 64).map (·.size) = some cs.toArray.size := by
    rw [List.size_toArray, hcl]; kernel_rfl
  have hi78' : (Tryz.prog.info? 64).map (·.size) = some cs.length := by
    rw [hcl]; kernel_rfl
  have H78 := Lib.hid hi78
  have H78' := Lib.hid hi78'
  have hsz16 : (16 : Nat) = cs.toArray.size := by rw [List.size_toArray, hcl]
  have HSZ := Lib.hid hsz16
  have HLD := Lib.hid (fun W h => load_blk w.heap.size cs hcl W h)
  clear h hone hcl hi78 hi78' hsz16 hl
  go_enter Tryz.func35, Tryz.ntmps35
  go_wp2_with fail
  refine (HM.out _).mono ?_
  rintro e w1 ⟨rfl, rfl⟩
  go_wp2_with (first
    | (refine wpList_load_mid rfl 64 (.tmp 16) rfl g 0 rfl cs _ (HRG.out _ ((Below.refl _ _).alloc (Nat.le_refl _) _)) Tryz.underlying64 rfl H78'.out ?_)
    | (refine wpList_store_row rfl 64 (.tmp 2) (.tmp 17) rfl w.heap.size cs.toArray rfl rfl 64 _ (heap_alloc_new _ _) H78.out HSZ.out (all_oneCell_toArray HON.out) ?_))
  have hld := fun old => HLD.out _ (range_setRow w 64 old cs)
  refine bodyPost_ret (v := .tuple #[.agg cs.toArray, .int .i64 0]) (res_cell_tmp Tryz.results35 _ _ w.heap.size _ _ rfl (hld _) rfl) rfl ⟨rfl, below_setRow_new (Below.refl _ _) (Nat.le_refl _) _ _⟩

end Go.Proofs.YtboaojkblmddkaaGreatDoor

/- What the law of lines needs of numbers: where a record begins, agreement of lines, highs and lows. -/
namespace Go.Proofs.YtboaojkblmddkaaGreatDoor
open Go.RowKit
open Flt

theorem frT_snoc (sk : List Int) (s : Int) : frT (sk ++ [s]) = max (frT sk) (-s) := by
  unfold frT
  rw [List.foldl_append]
  rfl
theorem fold_max_mem : ∀ (l : List Int) (a : Int), l.foldl (fun a s => max a (-s)) a = a ∨ ∃ s ∈ l, l.foldl (fun a s => max a (-s)) a = -s
  | [], a => .inl rfl
  | x :: t, a => by
    rw [List.foldl_cons]
    rcases fold_max_mem t (max a (-x)) with h | ⟨s, hs, h⟩
    · rw [h]
      rcases Int.le_total a (-x) with h1 | h1
      · exact .inr ⟨x, by simp, by omega⟩
      · exact .inl (by omega)
    · exact .inr ⟨s, by simp [hs], h⟩
/-- the first common time is some record's beginning -/
theorem frT_mem (sk : List Int) (hs : ∀ s ∈ sk, -1000 ≤ s ∧ s ≤ 1000) (h0 : 0 < sk.length) : ∃ s ∈ sk, frT sk = -s := by
  rcases fold_max_mem sk (-1000) with h | h
  · have h1 := frT_ge sk sk[0] (List.getElem_mem h0)
    have h2 := hs sk[0] (List.getElem_mem h0)
    have h3 : frT sk = -1000 := h
    exact ⟨sk[0], List.getElem_mem h0, by omega⟩
  · exact h
theorem beg_eq (sk : List Int) (hs : ∀ s ∈ sk, -1000 ≤ s ∧ s ≤ 1000) (h0 : 0 < sk.length) (x b : Int) (h1 : b ≤ frT sk + x) (h2 : ∀ j (h : j < sk.length), x - sk[j] ≤ b) : b = frT sk + x := by
  obtain ⟨s, hm, he⟩ := frT_mem sk hs h0
  obtain ⟨j, hj, rfl⟩ := List.getElem_of_mem hm
  have := h2 j hj
  omega
theorem key_of_fge {lo hi : Nat} (h1 : fin Ieee.single lo = true) (h2 : fin Ieee.single hi = true) (h3 : fge lo hi = false) : key Ieee.single lo < key Ieee.single hi := by
  rw [fge_key h1 h2] at h3
  have := of_decide_eq_false h3
  omega
theorem alg1_fin (fr tt s : Int) (r : List Nat) (h : ∀ x ∈ r, fin Ieee.single x = true) : ∀ x ∈ alg1 fr tt r s, fin Ieee.single x = true := by
  intro x hx
  unfold alg1 at hx
  obtain ⟨y, hy, rfl⟩ := List.mem_map.1 hx
  exact posz_fin (h y (List.mem_of_mem_drop (List.mem_of_mem_take hy)))
/-- once a sample has decided, the line of the whole record is the line of the aligned one -/
theorem lines_agree (lo hi b : Nat) (fr tt s : Int) (R : List Nat) (hR : ∀ x ∈ R, fin Ieee.single x = true) (h1 : fin Ieee.single lo = true) (h2 : fin Ieee.single hi = true) (h3 : fge lo hi = false) (hb : (b : Int) = fr + s) (hft : fr ≤ tt) (hle : tt + s ≤ (R.length : Int))
    (k : Nat) (hk : k < (alg1 fr tt R s).length) :
    b + k < R.length ∧ (decd lo hi ((alg1 fr tt R s).take (k + 1)) = true → digS lo hi false (R.take (b + k + 1)) = digS lo hi false ((alg1 fr tt R s).take (k + 1))) := by
  have hlen : (alg1 fr tt R s).length = (tt - fr).toNat := by
    unfold alg1
    rw [List.length_map, List.length_take, List.length_drop]
    omega
  have hfin := alg1_fin fr tt s R hR
  have hkey := key_of_fge h1 h2 h3
  refine ⟨by omega, fun hd => ?_⟩
  refine dig_agree lo hi false false R (alg1 fr tt R s) b ?_ ?_ k hk hd
  · intro i hi2
    have hlt : b + i < R.length := by omega
    refine ⟨hlt, ?_⟩
    have e : (alg1 fr tt R s)[i] = posz R[b + i] := by
      simp only [alg1, List.getElem_map, List.getElem_take, List.getElem_drop]
      have eb : (fr + s).toNat = b := by omega
      simp only [eb]
    rw [e]
    exact alike_posz (hR _ (List.getElem_mem hlt)) h1 h2
  · intro i hi2 hf
    exact low_not_high (hfin _ (List.getElem_mem hi2)) h1 h2 hkey hf
/-- a true line's sample is not low; a false one's not high -/
theorem line_sound (lo hi : Nat) (l : List Nat) (hl : ∀ x ∈ l, fin Ieee.single x = true) (h1 : fin Ieee.single lo = true) (h2 : fin Ieee.single hi = true) (h3 : fge lo hi = false) (v : Bool) (k : Nat) (hk : k < l.length) :
    (digS lo hi v (l.take (k + 1)) = true → fle l[k] lo = false) ∧ (digS lo hi v (l.take (k + 1)) = false → fge l[k] hi = false) := by
  rw [digS_succ _ _ _ _ _ hk]
  unfold digV
  constructor
  · intro h
    cases hf : fle l[k] lo
    · rfl
    · rw [low_not_high (hl _ (List.getElem_mem hk)) h1 h2 (key_of_fge h1 h2 h3) hf, fle_not_fgt hf] at h
      simp at h
  · intro h
    cases hg : fge l[k] hi
    · rfl
    · rw [hg] at h; simp at h

end Go.Proofs.YtboaojkblmddkaaGreatDoor

/- The words of lines: their number, their size, their bits. Plain. -/
namespace Go.Proofs.YtboaojkblmddkaaGreatDoor

theorem wlist_len (LS : List (List Bool)) (m : Nat) : ((List.range m).map (wd LS)).length = m := by simp
theorem wlist_lt (LS : List (List Bool)) (m : Nat) (h : LS.length ≤ 16) : ∀ x ∈ (List.range m).map (wd LS), x < 65536 := by
  intro x hx
  obtain ⟨i, _, rfl⟩ := List.mem_map.1 hx
  exact Nat.lt_of_lt_of_le (wd_lt LS i) (Nat.le_trans (Nat.pow_le_pow_right (by decide) h) (by decide))
theorem wlist_bit (LS : List (List Bool)) (m : Nat) (hm : ∀ r ∈ LS, r.length = m) (i : Nat) (h : i < LS.length) : bitL ((List.range m).map (wd LS)) i = LS[i] := by
  have hl := hm LS[i] (List.getElem_mem h)
  unfold bitL
  apply List.ext_getElem
  · simp [hl]
  · intro j h1 h2
    have hb := wd_bit LS j i h
    have e1 : LS.getD i [] = LS[i] := by simp [List.getD, List.getElem?_eq_getElem h]
    have e2 : LS[i].getD j false = LS[i][j] := by simp [List.getD, List.getElem?_eq_getElem h2]
    rw [e1, e2] at hb
    simp only [List.getElem_map, List.getElem_range, hb]
    cases LS[i][j] <;> simp
end Go.Proofs.YtboaojkblmddkaaGreatDoor

/- probe's Unpack of no blocks; where a guard of ProbePacks strikes. -/
namespace Go.Proofs.YtboaojkblmddkaaGreatDoor
open Go.RowKit Bn

/-- the chapter's examples answer -/
def AwakeOk : Prop := ∀ W : World, Tabs W → Calls Tryz.prog 12 #[] W fun e w' => e = .returned (.bool true) ∧ Below W.heap.size W w'

set_option maxHeartbeats 1000000 in
set_option maxRecDepth 100000 in
theorem unpack_nil (A : Option Addr) (c : Nat) (w : World) :
    Calls Tryz.prog 37 #[.slice A 0 c, .int .i64 0] w fun e w' => ∃ A', e = .returned (.tuple #[.slice A' 0 0, .int .i64 0]) ∧ Below w.heap.size w w' := by
  obtain ⟨i0, hi0, hz0, hz1, hz2⟩ := info_parts info_u16
  have H1 := catMost_block A 0 c 256 w
  have H2 := cinRange_any 0 0 4096 w
  have hr : rangeE 0 0 4096 = 0 := by decide
  rw [hr] at H2
  have H3 := fun W : World => blocksFor_any 0 W (by omega)
  have K1 := Lib.hid H1
  have K2 := Lib.hid H2
  have K3 := Lib.hid H3
  clear H1 H2 H3 hr
  go_enter Tryz.func37, Tryz.ntmps37
  go_wp2_with fail
  refine K1.out.mono ?_
  rintro e w1 ⟨rfl, rfl⟩
  go_wp2_with fail
  refine K2.out.mono ?_
  rintro e w1 ⟨rfl, rfl⟩
  go_wp2_with fail
  refine (cfirst_two 0 0 w 29 w.heap.size rfl).mono ?_
  rintro e w1 ⟨rfl, rfl⟩
  have hb1 : Below w.heap.size w (w.alloc (.cells #[.int .i64 0, .int .i64 0] 29)) := (Below.refl _ _).alloc (Nat.le_refl _) _
  generalize w.alloc (.cells #[.int .i64 0, .int .i64 0] 29) = w1 at *
  go_wp2_with fail
  refine (K3.out _).mono ?_
  rintro e w2 ⟨rfl, rfl⟩
  go_wp2_with (at_make; refine wpList_make_own _ rfl _ _ 51 rfl w1.heap.size 63 i0 (.int .u16 0) 1 Tryz.underlying51 hi0 hz0 hz1 _ _ _ 0 rfl rfl (by omega) ?b2 ?b3 (Nat.le_refl _) ?_)
  case b2 => rw [hz2]; omega
  case b3 => unfold maxLen; omega
  intro w2 hown0 hgrow0
  have hB2 : Below w.heap.size w w2 := hb1.trans ((gnone hgrow0 (Nat.le_refl _)).mono hb1.size)
  clear hgrow0 hown0
  go_wp2
  go_loopg [7, 30] 0 (fun q v s W => v = .slice (some ⟨w1.heap.size, 0, none⟩) 0 0 ∧ s = .int .i64 0 ∧ W = w2)
  case atStart => exact ⟨rfl, rfl, rfl⟩
  case round =>
    obtain ⟨rfl, rfl, hW⟩ := hrel
    obtain rfl : w2 = wr := hW.symm
    clear hW
    go_wp2_with fail
    refine (containsFunc_zero _ 0 _ w2 ⟨rfl, fun h0 => absurd h0 (by omega)⟩ (by omega)).mono ?_
    rintro e w4 ⟨rfl, rfl⟩
    go_wp2_with fail
    go_ret2
    exact ⟨_, rfl, hB2⟩

theorem unpack_all (g n c : Nat) (ws : List Nat) (F : List Value) (w : World) (hblk : w.heap[g]? = some (.cells F.toArray 64 (0, 0))) (hF : F = ws.map u16v ++ List.replicate (16 * ((n + 15) / 16) - n) (u16v 0)) (hl : ws.length = n) (hn : n ≤ 4096) :
    Calls Tryz.prog 37 #[.slice (some ⟨g, 0, none⟩) ((n + 15) / 16) c, .int .i64 n] w fun e w' => ∃ A', e = .returned (.tuple #[.slice A' n n, .int .i64 0]) ∧ Reads w' w'.heap.size 1 A' n (ws.map u16v) ∧ Below w.heap.size w w' := by
  by_cases h0 : 1 ≤ n
  · exact unpack_ok g n c ws F w hblk hF hl h0 hn
  · obtain rfl : n = 0 := by omega
    refine (unpack_nil (some ⟨g, 0, none⟩) c w).mono ?_
    rintro e w' ⟨A', he, hb⟩
    refine ⟨A', he, ⟨?_, fun h => absurd h (by omega)⟩, hb⟩
    rw [List.length_map, hl]

set_option maxHeartbeats 2000000 in
set_option maxRecDepth 100000 in
/-- a guard of the law turns the input away: the chapter's examples answer -/
theorem pack_turned (A : Option Addr) (n c : Nat) (rows : List (List Bool)) (w : World) (KV : AwakeOk) (hT : Tabs w) (h : RowsR boolv w w.heap.size A n rows) (hn : n ≤ maxLen)
    (hg : 16 < n ∨ linE rows ≠ 0 ∨ ∃ h0 : 0 < rows.length, 40 < rows[0].length) :
    Calls Tryz.prog 9 #[.slice A n c] w fun e w' => e = .returned (.bool true) ∧ Below w.heap.size w w' := by
  have K1 := Lib.hid (rCheckLines_any A n c rows w h hn)
  have KV := Lib.hid KV
  unfold maxLen at hn
  by_cases h1 : 16 < n
  · have d1 : decide ((16 : Int) < (n : Int)) = true := by simpa using (show (16 : Int) < n from by omega)
    clear hg K1 h
    go_enter Tryz.func9, Tryz.ntmps9
    go_wp2_with fail
    refine (KV.out _ hT).mono ?_
    rintro e w2 ⟨rfl, hb2⟩
    go_wp2_with fail
    go_ret
    exact ⟨rfl, hb2⟩
  · have d1 : decide ((16 : Int) < (n : Int)) = false := by simpa using (show ¬ ((16 : Int) < n) from by omega)
    by_cases h2 : linE rows = 0
    · obtain ⟨h3, h4⟩ := (hg.resolve_left h1).resolve_left (fun h => h h2)
      rw [h2] at K1
      have hrl := h.1
      obtain ⟨ad, hr0, A0, c0, rfl, hb0, hc0, _, _, _⟩ := h.row (k := 0) (by omega)
      have hzz : Addr.add ad 0 = ad := rfl
      rw [hzz] at hc0
      generalize rows[0].length = m at *
      have d2 : decide ((40 : Int) < (m : Int)) = true := by simpa using (show (40 : Int) < m from by omega)
      have hp0 : (0 : Int) < (n : Int) := by omega
      have hp1 : 0 < n := by omega
      clear hg h1 h2 hzz h hrl
      go_enter Tryz.func9, Tryz.ntmps9
      go_wp2_with fail
      refine K1.out.mono ?_
      rintro e w1 ⟨rfl, hb1⟩
      have hc1 := (hb1.cell hb0).trans hc0
      go_wp2_with fail
      refine (KV.out _ (hT.later hb1)).mono ?_
      rintro e w2 ⟨rfl, hb2⟩
      go_wp2_with fail
      go_ret
      exact ⟨rfl, hb1.trans (hb2.mono hb1.size)⟩
    · generalize linE rows = r at *
      have d3 : (r != 0) = true := by simpa using h2
      have d4 : (r == 0) = false := by simpa using h2
      have d5 : decide (r = 0) = false := by simpa using h2
      clear hg h1 h2 h
      go_enter Tryz.func9, Tryz.ntmps9
      go_wp2_with fail
      refine K1.out.mono ?_
      rintro e w1 ⟨rfl, hb1⟩
      go_wp2_with fail
      refine (KV.out _ (hT.later hb1)).mono ?_
      rintro e w2 ⟨rfl, hb2⟩
      go_wp2_with fail
      go_ret
      exact ⟨rfl, hb1.trans (hb2.mono hb1.size)⟩

end Go.Proofs.YtboaojkblmddkaaGreatDoor

/- ProbeRebuilds: the law. -/
namespace Go.Proofs.YtboaojkblmddkaaGreatDoor
open Go.RowKit

set_option maxHeartbeats 2000000 in
set_option maxRecDepth 100000 in
theorem reb_turned (A : Option Addr) (N c : Nat) (b : Bool) (n : Int) (w : World) (KV : AwakeOk) (hT : Tabs w) (hg : ¬ ((N : Int) ≤ 64 ∨ 4096 < (N : Int) ∧ (N : Int) ≤ 4098) ∨ (100 < n ∧ n ≤ 4096)) :
    Calls Tryz.prog 4 #[.slice A N c, .bool b, .int .i64 n] w fun e w' => e = .returned (.bool true) ∧ Below w.heap.size w w' := by
  have HLE := Lib.hid (fun W => rLength_any N 64 W)
  have KV := Lib.hid KV
  by_cases hL : (N : Int) ≤ 64 ∨ 4096 < (N : Int) ∧ (N : Int) ≤ 4098
  · rw [decide_eq_true hL] at HLE
    obtain ⟨h1, h2⟩ := hg.resolve_left (fun h => h hL)
    have d1 : decide (100 < n) = true := by simpa using h1
    have d2 : decide (n ≤ 4096) = true := by simpa using h2
    clear hg hL
    go_enter Tryz.func4, Tryz.ntmps4
    go_wp2_with fail
    refine (HLE.out w).mono ?_
    rintro e w1 ⟨rfl, rfl⟩
    go_wp2_with fail
    refine (KV.out w hT).mono ?_
    rintro e w2 ⟨rfl, hb2⟩
    go_wp2_with fail
    go_ret
    exact ⟨rfl, hb2⟩
  · rw [decide_eq_false hL] at HLE
    clear hg hL
    go_enter Tryz.func4, Tryz.ntmps4
    go_wp2_with fail
    refine (HLE.out w).mono ?_
    rintro e w1 ⟨rfl, rfl⟩
    go_wp2_with fail
    refine (KV.out w hT).mono ?_
    rintro e w2 ⟨rfl, hb2⟩
    go_wp2_with fail
    go_ret
    exact ⟨rfl, hb2⟩

end Go.Proofs.YtboaojkblmddkaaGreatDoor
