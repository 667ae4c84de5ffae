/- The reference's power, Bit, Line, Words, Needed. -/
import Derived.Test.YtboaojkblmddkaaGreatDoorPkCxPk1
import Derived.Test.YtboaojkblmddkaaGreatDoorCWds
import Derived.Test.YtboaojkblmddkaaGreatDoorCUnp
import Derived.Deep.MidRow
import Derived.ChangeKeysEq
import Derived.Laws.StructEq
import Derived.Laws.ResultCell
import Derived.Test.YtboaojkblmddkaaGreatDoorCAwc
import Derived.Test.YtboaojkblmddkaaGreatDoorCAd2
namespace Go.Proofs.YtboaojkblmddkaaGreatDoor
open Go.RowKit Bn

theorem pow_step (k : Nat) (hk : k < 16) : wrap64 (2 * ((2 ^ k : Nat) : Int)) = ((2 ^ (k + 1) : Nat) : Int) := by
  have h1 : 2 ^ (k + 1) ≤ 2 ^ 16 := Nat.pow_le_pow_right (by omega) (by omega)
  have e : 2 ^ (k + 1) = 2 * 2 ^ k := by rw [Nat.pow_succ, Nat.mul_comm]
  have e16 : (2 : Nat) ^ 16 = 65536 := by decide
  generalize 2 ^ (k + 1) = q at *
  generalize 2 ^ k = p at *
  rw [IntWalk.wrap64_in _ (by omega)]
  omega

theorem rpower_any (n : Nat) (w : World) (hn : n ≤ 16) : Calls Tryz.prog 69 #[.int .i64 n] w fun e w' => e = .returned (.int .i64 ((2 ^ n : Nat) : Int)) ∧ w = w' := by
  have HP := Lib.hid (fun k hk => pow_step k hk)
  have HV : Hid (∀ (k : Nat) (z : Int), k = n → z = ((2 ^ k : Nat) : Int) → z = ((2 ^ n : Nat) : Int)) := fun k z h1 h2 => by rw [h2, h1]
  generalize hR : ((2 ^ n : Nat) : Int) = R at *
  go_enter Tryz.func69, Tryz.ntmps69
  go_wp2
  go_loopg [3, 4] n (fun q o s W => ∃ k : Nat, ∃ z : Int, k ≤ n ∧ s = .int .i64 k ∧ n - k ≤ q ∧ o = .int .i64 z ∧ Hid (z = ((2 ^ k : Nat) : Int)) ∧ W = w)
  case atStart => exact ⟨0, 1, Nat.zero_le _, rfl, by omega, rfl, rfl, rfl⟩
  case round =>
    obtain ⟨k, z, hk, rfl, hq, rfl, hz, hW⟩ := hrel
    obtain rfl : w = wr := hW.symm
    clear hW
    by_cases h0 : k < n
    · have hs := HP.out k (by omega)
      rw [← hz.out] at hs
      have HS := Lib.hid hs
      clear hs
      go_wp2
      go_roundg (n - (k + 1))
      case measure => omega
      case rel => exact ⟨k + 1, _, by omega, by go_num, Nat.le_refl _, rfl, HS.out, rfl⟩
    · have hv := HV.out k z (by omega) hz.out
      subst hv
      clear hz HV
      go_wp2
      go_ret
      exact ⟨rfl, rfl⟩

theorem rBit_any (x b : Nat) (w : World) (hx : x < 65536) (hb : b < 16) : Calls Tryz.prog 70 #[.int .u16 x, .int .i64 b] w fun e w' => e = .returned (.bool (x / 2 ^ b % 2 == 1)) ∧ w = w' := by
  have HP := Lib.hid (rpower_any b w (by omega))
  have hp : 0 < 2 ^ b := Nat.pow_pos (by omega)
  have hp2 : 2 ^ b ≤ 2 ^ 16 := Nat.pow_le_pow_right (by omega) (by omega)
  have e16 : (2 : Nat) ^ 16 = 65536 := by decide
  rw [e16] at hp2
  generalize 2 ^ b = p at *
  have hv : ((x : Int) / (p : Int) % 2 == 1) = (x / p % 2 == 1) := by
    have : (x : Int) / (p : Int) = ((x / p : Nat) : Int) := by rw [Int.natCast_ediv]
    rw [this, Bool.eq_iff_iff]
    simp only [beq_iff_eq]
    omega
  have HVV := Lib.hid hv
  have hle : x / p ≤ x := Nat.div_le_self _ _
  have hq0 : (0 : Int) ≤ (x : Int) / (p : Int) := Int.ediv_nonneg (by omega) (by omega)
  have hq1 : (x : Int) / (p : Int) < 65536 := by
    have : (x : Int) / (p : Int) = ((x / p : Nat) : Int) := by rw [Int.natCast_ediv]
    omega
  have hp0 : (p : Int) ≠ 0 := by omega
  have hp1 : ((p : Int) == 0) = false := by rw [beq_eq_false_iff_ne]; exact hp0
  clear hv e16
  go_enter Tryz.func70, Tryz.ntmps70
  go_wp2_with fail
  refine HP.out.mono ?_
  rintro e w1 ⟨rfl, rfl⟩
  go_wp2
  go_ret
  exact ⟨by rw [← HVV.out]; rfl, rfl⟩

theorem rNeeded_any (n : Nat) (w : World) (hn : n ≤ 4098) : Calls Tryz.prog 45 #[.int .i64 n] w fun e w' => e = .returned (.int .i64 ((n + 15) / 16 : Nat)) ∧ w = w' := by
  have e1 : ((n : Int) + 16 - 1) / 16 = (((n + 15) / 16 : Nat) : Int) := by omega
  have HE := Lib.hid e1
  clear e1
  go_enter Tryz.func45, Tryz.ntmps45
  go_wp2
  go_ret
  exact ⟨by rw [← HE.out]; rfl, rfl⟩

set_option maxHeartbeats 1000000 in
theorem rLine_ok (A : Option Addr) (N c b : Nat) (ws : List Nat) (w : World) (h : Reads w w.heap.size 1 A N (ws.map u16v)) (hws : ∀ x ∈ ws, x < 65536) (hN : N ≤ 4096) (hb : b < 16) :
    Calls Tryz.prog 33 #[.slice A N c, .int .i64 b] w fun e w' => ∃ v, e = .returned v ∧ w'.ownsRow w.heap.size 4 1 v N ((bitL ws b).map boolv) ∧ Below w.heap.size w w' := by
  obtain ⟨i0, hi0, hz0, hz1, hz2⟩ := info_parts info_bool
  have HL := Lib.hid h.lenM
  have HWS := Lib.hid hws
  clear hws
  go_enter Tryz.func33, Tryz.ntmps33
  go_wp2
  go_loopg [5, 6] N (fun q v s W => ∃ k : Nat, k ≤ N ∧ s = .int .i64 k ∧ N - k ≤ q ∧ W.ownsRow w.heap.size 4 1 v k ((bitL (ws.take k) b).map boolv) ∧ Below w.heap.size w W)
  case atStart => exact ⟨0, Nat.zero_le _, rfl, by omega, World.ownsRow_nil _ _ _ _, Below.refl _ _⟩
  case round =>
    obtain ⟨k, hk, rfl, hq, hown, hbel⟩ := hrel
    by_cases h0 : k < N
    · obtain ⟨ad, hkl, rfl, hbb, hcell⟩ := (h.below hbel).cellM h0
      have hx := HWS.out _ (List.getElem_mem hkl)
      have hts : (bitL (ws.take (k + 1)) b).map boolv = (bitL (ws.take k) b).map boolv ++ [boolv (ws[k] / 2 ^ b % 2 == 1)] := by
        unfold bitL
        rw [List.take_succ_eq_append_getElem hkl, List.map_append, List.map_append]; rfl
      have HTS := Lib.hid hts
      unfold u16v at hcell
      have HB := Lib.hid (fun W => rBit_any ws[k] b W hx (by omega))
      clear hts hx
      generalize (ws[k] / 2 ^ b % 2 == 1) = z at *
      generalize ws[k] = x at *
      go_wp2_with fail
      refine (HB.out _).mono ?_
      rintro e w1 ⟨rfl, rfl⟩
      go_wp2_with (at_builtin; refine wpList_append_own _ rfl _ _ 26 rfl w.heap.size 4 i0 (.bool false) 1 1 Tryz.underlying26 hi0 hz0 hz1 hz2 rfl (by decide) _ _ _ rfl (hown.alloc _) ⟨wr.heap.size, 0, none⟩ 1 1 [.bool z] rfl rfl ?a1 ?a2 ?a3 ?a4 ?a5 ?_)
      case a1 => exact cell_one_new _ _ _
      case a2 => intro u hu; simp at hu; subst hu; rfl
      case a3 => unfold maxLen; omega
      case a4 => omega
      case a5 => have := hbel.size; simp; omega
      intro v' w2 hown' hgrow _
      have hb2 : Below w.heap.size w w2 := (hbel.alloc hbel.size _).grown hgrow (by have := hbel.size; simp; omega) (fun g hg => (World.ownsRow.lt hown g hg).1)
      clear hgrow hown
      go_wp2
      go_roundg (N - (k + 1))
      case measure => omega
      case rel => exact ⟨k + 1, by omega, by go_num, Nat.le_refl _, by rw [HTS.out]; exact hown', hb2⟩
    · obtain rfl : k = N := by omega
      rw [List.take_of_length_le (by have := HL.out; omega)] at hown
      go_wp2
      go_ret
      exact ⟨_, rfl, hown, hbel⟩

end Go.Proofs.YtboaojkblmddkaaGreatDoor

/- The reference's Words of valid lines. -/
namespace Go.Proofs.YtboaojkblmddkaaGreatDoor
open Go.RowKit Bn

theorem wd_lt16 (rows : List (List Bool)) (k : Nat) (h : rows.length ≤ 16) : wd rows k < 65536 := by
  have h1 := wd_lt rows k
  have h2 : 2 ^ rows.length ≤ 2 ^ 16 := Nat.pow_le_pow_right (by omega) h
  have e16 : (2 : Nat) ^ 16 = 65536 := by decide
  omega

set_option maxHeartbeats 4000000 in
set_option maxRecDepth 100000 in
theorem rWords_ok (A : Option Addr) (n c m : Nat) (rows : List (List Bool)) (w : World) (h : RowsR boolv w w.heap.size A n rows) (h0 : 1 ≤ n) (hn : n ≤ 16) (hm : ∀ r ∈ rows, r.length = m) (hm2 : m ≤ 4096) :
    Calls Tryz.prog 32 #[.slice A n c] w fun e w' => ∃ v, e = .returned v ∧ w'.ownsRow w.heap.size 63 1 v m (((List.range m).map (wd rows)).map u16v) ∧ Below w.heap.size w w' := by
  obtain ⟨i0, hi0, hz0, hz1, hz2⟩ := info_parts info_u16
  have hrl := h.1
  have HM := Lib.hid hm
  have HRL := Lib.hid hrl
  clear hm hrl
  have hp0 : (0 : Int) < (n : Int) := by omega
  have hp1 : 0 < n := by omega
  obtain ⟨ad, hr0, A0, c0, rfl, hb0, hc0, _, _, _⟩ := h.row (k := 0) hp1
  have hz : Addr.add ad 0 = ad := rfl
  rw [hz, HM.out rows[0] (List.getElem_mem hr0)] at hc0
  clear hz
  go_enter Tryz.func32, Tryz.ntmps32
  go_wp2
  go_loopg [3, 4] m (fun q v s W => ∃ k : Nat, k ≤ m ∧ s = .int .i64 k ∧ m - k ≤ q ∧ W.ownsRow w.heap.size 63 1 v k (((List.range k).map (wd rows)).map u16v) ∧ Below w.heap.size w W)
  case atStart => exact ⟨0, Nat.zero_le _, rfl, by omega, World.ownsRow_nil _ _ _ _, Below.refl _ _⟩
  case round =>
    obtain ⟨k, hk, rfl, hq, hown, hbel⟩ := hrel
    have hc02 := (hbel.cell hb0).trans hc0
    by_cases hkm : k < m
    · have hts : (((List.range (k + 1)).map (wd rows)).map u16v) = (((List.range k).map (wd rows)).map u16v) ++ [u16v (wd rows k)] := by
        rw [List.range_succ, List.map_append, List.map_append]; rfl
      have HTS := Lib.hid hts
      clear hts
      go_wp2
      obtain ⟨wo, hwo⟩ : ∃ wo : World, wo = wr := ⟨_, rfl⟩
      subst hwo
      go_loopg [5, 6] n (fun q o s W => ∃ i d : Nat, i ≤ n ∧ s = .int .i64 i ∧ n - i ≤ q ∧ o = .int .i64 (d : Int) ∧ Hid (d = wd (rows.take i) k) ∧ W = wo)
      case atStart => exact ⟨0, 0, Nat.zero_le _, rfl, by omega, rfl, rfl, rfl⟩
      case round =>
        obtain ⟨i, d, hi, rfl, hq2, rfl, hd, hW⟩ := hrel
        obtain rfl : wo = wr := hW.symm
        clear hW
        by_cases hin : i < n
        · obtain ⟨ad', hil, A', c', he, hbb, hcl, _, _, hrd⟩ := (h.below hbel).row hin
          injection he with he
          subst he
          have hlen := HM.out rows[i] (List.getElem_mem hil)
          rw [hlen] at hcl hrd
          obtain ⟨ad2, hkl, rfl, hb2, hcell⟩ := hrd.cellM hkm
          have hwt := wd_take rows i k hil
          have hlt := wd_lt16 (rows.take (i + 1)) k (by rw [List.length_take]; omega)
          have hgd : rows[i].getD k false = rows[i][k] := by simp [List.getD, hkl]
          rw [hgd, ← hd.out] at hwt
          unfold boolv at hcell
          generalize rows[i][k] = x at *
          generalize hY : wd (rows.take (i + 1)) k = Y at *
          have HY := Lib.hid hY
          clear hgd hlen hY hrd
          cases x
          · have e : Y = d := by simpa using hwt
            have HE := Lib.hid (e.symm.trans HY.out.symm)
            clear hwt e hlt
            go_wp2
            go_roundg (n - (i + 1))
            case measure => omega
            case rel => exact ⟨i + 1, d, by omega, by go_num, Nat.le_refl _, rfl, HE.out, rfl⟩
          · have HP := Lib.hid (rpower_any i wo (by omega))
            rw [if_pos rfl] at hwt
            generalize 2 ^ i = p at *
            have HE : Hid (((d : Int) + (p : Int)) = ((Y : Nat) : Int)) := by unfold Hid; omega
            have hr1 : wrap64 ((d : Int) + (p : Int)) = (Y : Int) := by rw [IntWalk.wrap64_in _ (by omega)]; omega
            clear hwt
            go_wp2_with fail
            refine HP.out.mono ?_
            rintro e w1 ⟨rfl, rfl⟩
            go_wp2
            go_roundg (n - (i + 1))
            case measure => omega
            case rel => exact ⟨i + 1, Y, by omega, by go_num, Nat.le_refl _, by first | rfl | rw [hr1], HY.out.symm, rfl⟩
        · obtain rfl : i = n := by omega
          have hdv := hd.out
          rw [List.take_of_length_le (by have := HRL.out; omega)] at hdv
          have hlt := wd_lt16 rows k (by have := HRL.out; omega)
          rw [← hdv] at hlt
          rw [← hdv] at HTS
          have hwr : IntKind.u16.wrap (d : Int) = (d : Int) := by rw [u16_mod]; omega
          clear hd hdv
          have hsz := hbel.size
          go_wp2_with (at_builtin; refine wpList_append_own _ rfl _ _ 51 rfl w.heap.size 63 i0 (.int .u16 0) 1 2 Tryz.underlying51 hi0 hz0 hz1 hz2 rfl (by decide) _ _ _ rfl (hown.alloc _) ⟨wo.heap.size, 0, none⟩ 1 1 [.int .u16 (d : Int)] rfl rfl ?a1 ?a2 ?a3 ?a4 ?a5 ?_)
          case a1 => exact cell_one_new _ _ _
          case a2 => intro u hu; simp at hu; subst hu; rfl
          case a3 => unfold maxLen; omega
          case a4 => omega
          case a5 => simp; omega
          intro v' w2 hown' hgrow _
          have hb2 : Below w.heap.size w w2 := (hbel.alloc hbel.size _).grown hgrow (by simp; omega) (fun g hg => (World.ownsRow.lt hown g hg).1)
          clear hgrow hown
          go_wp2
          go_roundg (m - (k + 1))
          case measure => omega
          case rel => exact ⟨k + 1, by omega, by go_num, Nat.le_refl _, by rw [HTS.out, List.map_map]; exact hown', hb2⟩
    · obtain rfl : k = m := by omega
      go_wp2
      go_ret
      exact ⟨_, rfl, hown, hbel⟩

end Go.Proofs.YtboaojkblmddkaaGreatDoor

/- Blocks of sixteen words: when they are equal; probe's Block of sixteen words. -/
namespace Go.Proofs.YtboaojkblmddkaaGreatDoor
open Go.RowKit Bn

section
variable {P : Program}
theorem res_cell_tmp {fn : Func} {p u : Tmp} {ty : TypeId} (h : fn.results = #[.cell p ty, .tmp u]) (tmps : Array Value) (w : World) (g : Nat) (v r : Value) (hp : tmps.getD p undef = .pointer (some ⟨g, 0, none⟩))
    (hl : (loadVar ty ⟨g, 0, none⟩).run P w = .ok v w) (hr : tmps.getD u undef = r) : (results fn tmps).run P w = .ok (.tuple #[v, r]) w := by
  rw [results_cell_tmp h, hp, hr]
  have ha : (asAddr (.pointer (some ⟨g, 0, none⟩))).run P w = .ok (⟨g, 0, none⟩ : Addr) w := by simp [asAddr]
  rw [ha]
  simp only [Result.andThen_ok, hl]
theorem eqItems_words (d : Nat) (e : TypeId) (he : P.underlying e = some (.int .u16)) (xs ys : List Nat) (w : World) : ∀ is : List Nat, (∀ i ∈ is, i < xs.length ∧ i < ys.length) →
    (Op.eqItems (d + 1) e 1 (xs.map u16v).toArray (ys.map u16v).toArray is).run P w = .ok (is.all fun i => xs.getD i 0 == ys.getD i 0) w
  | [], _ => by simp [Op.eqItems]
  | i :: is, h => by
    obtain ⟨h1, h2⟩ := h i (by simp)
    have ih := eqItems_words d e he xs ys w is (fun j hj => h j (by simp [hj]))
    have px : (part e (xs.map u16v).toArray (i * 1)).run P w = .ok (u16v xs[i]) w := by
      simp [part, isAgg, run_underlying he, h1]
    have py : (part e (ys.map u16v).toArray (i * 1)).run P w = .ok (u16v ys[i]) w := by
      simp [part, isAgg, run_underlying he, h2]
    have pe : (Op.equalIn (d + 1) e (u16v xs[i]) (u16v ys[i])).run P w = .ok (xs[i] == ys[i]) w := by
      unfold u16v
      rw [run_equalIn_int w d e .u16 .u16 _ _ he]
      congr 1
      rw [Bool.eq_iff_iff]
      simp only [beq_iff_eq]
      exact Int.ofNat_inj
    have e1 : xs.getD i 0 = xs[i] := by simp [List.getD, h1]
    have e2 : ys.getD i 0 = ys[i] := by simp [List.getD, h2]
    simp only [Op.eqItems, Sem.run_bind, px, py, pe, Result.andThen_ok, List.all_cons, e1, e2]
    cases hb : (xs[i] == ys[i])
    · simp
    · simp only [Bool.not_true, Bool.false_eq_true, if_false, Bool.true_and]
      exact ih
theorem equalIn_words (d : Nat) (t e : TypeId) (n : Nat) (i : TypeInfo) (hu : P.underlying t = some (.array n e)) (hi : P.info? e = some i) (hc : P.cellsOf e = 1) (he : P.underlying e = some (.int .u16)) (xs ys : List Nat) (hx : xs.length = n) (hy : ys.length = n) (w : World) :
    (Op.equalIn (d + 2) t (.agg (xs.map u16v).toArray) (.agg (ys.map u16v).toArray)).run P w = .ok (xs == ys) w := by
  rw [run_equalIn_array w (d + 1) _ _ hu hi, hc, eqItems_words d e he xs ys w _ (fun i hi => by have := List.mem_range.1 hi; omega)]
  congr 1
  rw [Bool.eq_iff_iff, List.all_eq_true, beq_iff_eq]
  constructor
  · intro h
    apply List.ext_getElem (by omega)
    intro j h1 h2
    have := h j (List.mem_range.2 (by omega))
    simpa [List.getD, h1, h2] using this
  · intro h j _
    rw [h]; simp
end

theorem eq_blk (xs ys : List Nat) (hx : xs.length = 16) (hy : ys.length = 16) (W : World) : (Op.equalIn 10000 64 (.agg (xs.map u16v).toArray) (.agg (ys.map u16v).toArray)).run Tryz.prog W = .ok (xs == ys) W := by
  obtain ⟨i, hi⟩ : ∃ i, Tryz.prog.info? 63 = some i := Option.isSome_iff_exists.1 (by kernel_rfl)
  exact equalIn_words 9998 64 63 16 i Tryz.underlying64 hi (by kernel_rfl) Tryz.underlying63 xs ys hx hy W

theorem arrayAt16 (g c : Nat) (W : World) : (Instr.arrayAt 64 (.slice (some ⟨g, 0, none⟩) 16 c)).run Tryz.prog W = .ok (.pointer (some ⟨g, 0, none⟩)) W := by kernel_rfl

theorem range_setRow (w : World) (t : TypeId) (old : Array Value) (cs : List Value) : ((w.alloc (.cells old t)).setRow w.heap.size cs.toArray).rangeAt w.heap.size 0 cs := by
  intro j v hj
  have h := cell_setRow w t old cs j v hj
  rwa [Addr.add_mid] at h
theorem range_below {B g : Nat} {w w' : World} {cs : List Value} (h : w.rangeAt g 0 cs) (hb : Below B w w') (hg : g < B) : w'.rangeAt g 0 cs := fun j v hj => (hb.cell hg).trans (h j v hj)
theorem load_blk (g : Nat) (cs : List Value) (hl : cs.length = 16) (W : World) (h : W.rangeAt g 0 cs) : (loadVar 64 ⟨g, 0, none⟩).run Tryz.prog W = .ok (.agg cs.toArray) W :=
  run_loadVar_mid W g 0 64 cs _ h Tryz.underlying64 rfl (by rw [hl]; kernel_rfl)

theorem index_blk (ws : List Nat) (k : Nat) (hk : k < ws.length) (hl : ws.length = 16) (W : World) : (Instr.index 64 (.agg (ws.map u16v).toArray) (.int .i64 (k : Int))).run Tryz.prog W = .ok (.int .u16 ((ws[k] : Nat) : Int)) W := by
  have hs : (sizeOf 63).run Tryz.prog W = .ok 1 W := by kernel_rfl
  have hb : (0 : Int) ≤ (k : Int) ∧ (k : Int) < ((16 : Nat) : Int) := by omega
  have hp : (part 63 (ws.map u16v).toArray (k * 1)).run Tryz.prog W = .ok (u16v ws[k]) W := by
    simp [part, isAgg, run_underlying Tryz.underlying63, hk]
  unfold Instr.index
  simp only [asIntOf, Sem.run_bind, Sem.run_pure, Result.andThen_ok, run_underlying Tryz.underlying64]
  rw [if_pos hb]
  simp only [Sem.run_bind, hs, Result.andThen_ok, Int.toNat_natCast]
  exact hp

set_option maxHeartbeats 1000000 in
set_option maxRecDepth 100000 in
theorem block_ok (g c : Nat) (ws : List Nat) (w : World) (h : w.rangeAt g 0 (ws.map u16v)) (hl : ws.length = 16) (hg : g < w.heap.size) :
    Calls Tryz.prog 35 #[.slice (some ⟨g, 0, none⟩) 16 c] w fun e w' => e = .returned (.tuple #[.agg (ws.map u16v).toArray, .int .i64 0]) ∧ Below w.heap.size w w' := by
  have HM := Lib.hid (fun W => catMost_u16 (some ⟨g, 0, none⟩) 16 c 4096 W)
  have har := arrayAt16 g c
  have hone : ∀ v ∈ ws.map u16v, v.oneCell' = true := u16v_one ws
  have hcl : (ws.map u16v).length = 16 := by rw [List.length_map]; exact hl
  generalize ws.map u16v = cs at *
  have HON := Lib.hid hone
  have HRG := Lib.hid (fun (W : World) (hb : Below w.heap.size w W) => range_below h hb hg)
  have hi78 : (Tryz.prog.info? 64).map (·.size) = some cs.toArray.size := by
    rw [List.size_toArray, hcl]; kernel_rfl
  have hi78' : (Tryz.prog.info? 64).map (·.size) = some cs.length := by
    rw [hcl]; kernel_rfl
  have H78 := Lib.hid hi78
  have H78' := Lib.hid hi78'
  have hsz16 : (16 : Nat) = cs.toArray.size := by rw [List.size_toArray, hcl]
  have HSZ := Lib.hid hsz16
  have HLD := Lib.hid (fun W h => load_blk w.heap.size cs hcl W h)
  clear h hone hcl hi78 hi78' hsz16 hl
  go_enter Tryz.func35, Tryz.ntmps35
  go_wp2_with fail
  refine (HM.out _).mono ?_
  rintro e w1 ⟨rfl, rfl⟩
  go_wp2_with (first
    | (refine wpList_load_mid rfl 64 (.tmp 16) rfl g 0 rfl cs _ (HRG.out _ ((Below.refl _ _).alloc (Nat.le_refl _) _)) Tryz.underlying64 rfl H78'.out ?_)
    | (refine wpList_store_row rfl 64 (.tmp 2) (.tmp 17) rfl w.heap.size cs.toArray rfl rfl 64 _ (heap_alloc_new _ _) H78.out HSZ.out (all_oneCell_toArray HON.out) ?_))
  have hld := fun old => HLD.out _ (range_setRow w 64 old cs)
  refine bodyPost_ret (v := .tuple #[.agg cs.toArray, .int .i64 0]) (res_cell_tmp Tryz.results35 _ _ w.heap.size _ _ rfl (hld _) rfl) rfl ⟨rfl, below_setRow_new (Below.refl _ _) (Nat.le_refl _) _ _⟩

end Go.Proofs.YtboaojkblmddkaaGreatDoor

/- What the law of lines needs of numbers: where a record begins, agreement of lines, highs and lows. -/
namespace Go.Proofs.YtboaojkblmddkaaGreatDoor
open Go.RowKit
open Flt

theorem frT_snoc (sk : List Int) (s : Int) : frT (sk ++ [s]) = max (frT sk) (-s) := by
  unfold frT
  rw [List.foldl_append]
  rfl
theorem fold_max_mem : ∀ (l : List Int) (a : Int), l.foldl (fun a s => max a (-s)) a = a ∨ ∃ s ∈ l, l.foldl (fun a s => max a (-s)) a = -s
  | [], a => .inl rfl
  | x :: t, a => by
    rw [List.foldl_cons]
    rcases fold_max_mem t (max a (-x)) with h | ⟨s, hs, h⟩
    · rw [h]
      rcases Int.le_total a (-x) with h1 | h1
      · exact .inr ⟨x, by simp, by omega⟩
      · exact .inl (by omega)
    · exact .inr ⟨s, by simp [hs], h⟩
/-- the first common time is some record's beginning -/
theorem frT_mem (sk : List Int) (hs : ∀ s ∈ sk, -1000 ≤ s ∧ s ≤ 1000) (h0 : 0 < sk.length) : ∃ s ∈ sk, frT sk = -s := by
  rcases fold_max_mem sk (-1000) with h | h
  · have h1 := frT_ge sk sk[0] (List.getElem_mem h0)
    have h2 := hs sk[0] (List.getElem_mem h0)
    have h3 : frT sk = -1000 := h
    exact ⟨sk[0], List.getElem_mem h0, by omega⟩
  · exact h
theorem beg_eq (sk : List Int) (hs : ∀ s ∈ sk, -1000 ≤ s ∧ s ≤ 1000) (h0 : 0 < sk.length) (x b : Int) (h1 : b ≤ frT sk + x) (h2 : ∀ j (h : j < sk.length), x - sk[j] ≤ b) : b = frT sk + x := by
  obtain ⟨s, hm, he⟩ := frT_mem sk hs h0
  obtain ⟨j, hj, rfl⟩ := List.getElem_of_mem hm
  have := h2 j hj
  omega
theorem key_of_fge {lo hi : Nat} (h1 : fin Ieee.single lo = true) (h2 : fin Ieee.single hi = true) (h3 : fge lo hi = false) : key Ieee.single lo < key Ieee.single hi := by
  rw [fge_key h1 h2] at h3
  have := of_decide_eq_false h3
  omega
theorem alg1_fin (fr tt s : Int) (r : List Nat) (h : ∀ x ∈ r, fin Ieee.single x = true) : ∀ x ∈ alg1 fr tt r s, fin Ieee.single x = true := by
  intro x hx
  unfold alg1 at hx
  obtain ⟨y, hy, rfl⟩ := List.mem_map.1 hx
  exact posz_fin (h y (List.mem_of_mem_drop (List.mem_of_mem_take hy)))
/-- once a sample has decided, the line of the whole record is the line of the aligned one -/
theorem lines_agree (lo hi b : Nat) (fr tt s : Int) (R : List Nat) (hR : ∀ x ∈ R, fin Ieee.single x = true) (h1 : fin Ieee.single lo = true) (h2 : fin Ieee.single hi = true) (h3 : fge lo hi = false) (hb : (b : Int) = fr + s) (hft : fr ≤ tt) (hle : tt + s ≤ (R.length : Int))
    (k : Nat) (hk : k < (alg1 fr tt R s).length) :
    b + k < R.length ∧ (decd lo hi ((alg1 fr tt R s).take (k + 1)) = true → digS lo hi false (R.take (b + k + 1)) = digS lo hi false ((alg1 fr tt R s).take (k + 1))) := by
  have hlen : (alg1 fr tt R s).length = (tt - fr).toNat := by
    unfold alg1
    rw [List.length_map, List.length_take, List.length_drop]
    omega
  have hfin := alg1_fin fr tt s R hR
  have hkey := key_of_fge h1 h2 h3
  refine ⟨by omega, fun hd => ?_⟩
  refine dig_agree lo hi false false R (alg1 fr tt R s) b ?_ ?_ k hk hd
  · intro i hi2
    have hlt : b + i < R.length := by omega
    refine ⟨hlt, ?_⟩
    have e : (alg1 fr tt R s)[i] = posz R[b + i] := by
      simp only [alg1, List.getElem_map, List.getElem_take, List.getElem_drop]
      have eb : (fr + s).toNat = b := by omega
      simp only [eb]
    rw [e]
    exact alike_posz (hR _ (List.getElem_mem hlt)) h1 h2
  · intro i hi2 hf
    exact low_not_high (hfin _ (List.getElem_mem hi2)) h1 h2 hkey hf
/-- a true line's sample is not low; a false one's not high -/
theorem line_sound (lo hi : Nat) (l : List Nat) (hl : ∀ x ∈ l, fin Ieee.single x = true) (h1 : fin Ieee.single lo = true) (h2 : fin Ieee.single hi = true) (h3 : fge lo hi = false) (v : Bool) (k : Nat) (hk : k < l.length) :
    (digS lo hi v (l.take (k + 1)) = true → fle l[k] lo = false) ∧ (digS lo hi v (l.take (k + 1)) = false → fge l[k] hi = false) := by
  rw [digS_succ _ _ _ _ _ hk]
  unfold digV
  constructor
  · intro h
    cases hf : fle l[k] lo
    · rfl
    · rw [low_not_high (hl _ (List.getElem_mem hk)) h1 h2 (key_of_fge h1 h2 h3) hf, fle_not_fgt hf] at h
      simp at h
  · intro h
    cases hg : fge l[k] hi
    · rfl
    · rw [hg] at h; simp at h

end Go.Proofs.YtboaojkblmddkaaGreatDoor

/- The words of lines: their number, their size, their bits. Plain. -/
namespace Go.Proofs.YtboaojkblmddkaaGreatDoor

theorem wlist_len (LS : List (List Bool)) (m : Nat) : ((List.range m).map (wd LS)).length = m := by simp
theorem wlist_lt (LS : List (List Bool)) (m : Nat) (h : LS.length ≤ 16) : ∀ x ∈ (List.range m).map (wd LS), x < 65536 := by
  intro x hx
  obtain ⟨i, _, rfl⟩ := List.mem_map.1 hx
  exact Nat.lt_of_lt_of_le (wd_lt LS i) (Nat.le_trans (Nat.pow_le_pow_right (by decide) h) (by decide))
theorem wlist_bit (LS : List (List Bool)) (m : Nat) (hm : ∀ r ∈ LS, r.length = m) (i : Nat) (h : i < LS.length) : bitL ((List.range m).map (wd LS)) i = LS[i] := by
  have hl := hm LS[i] (List.getElem_mem h)
  unfold bitL
  apply List.ext_getElem
  · simp [hl]
  · intro j h1 h2
    have hb := wd_bit LS j i h
    have e1 : LS.getD i [] = LS[i] := by simp [List.getD, List.getElem?_eq_getElem h]
    have e2 : LS[i].getD j false = LS[i][j] := by simp [List.getD, List.getElem?_eq_getElem h2]
    rw [e1, e2] at hb
    simp only [List.getElem_map, List.getElem_range, hb]
    cases LS[i][j] <;> simp
end Go.Proofs.YtboaojkblmddkaaGreatDoor
