/- Contracts of probe's valuesOf and Line: a range over a function. -/
import Derived.Test.YtboaojkblmddkaaGreatDoorCWds
import Derived.RangeFuncBox
import Derived.RangeFuncLeaves
import Derived.Shelf.Abstract
import Derived.OwnWalkIn
import Derived.TacticsInMore
import Derived.LoopNIn
import Derived.LoopIn
import Derived.Maps.AppendAt
import Derived.Test.YtboaojkblmddkaaGreatDoorRebCxReb2
namespace Go.Proofs.YtboaojkblmddkaaGreatDoor
open Go.RowKit Go.Shelf

attribute [local go_sem] Oper.semAt_some

/-- the line b of words -/
def bitL (ws : List Nat) (b : Nat) : List Bool := ws.map fun x => x / 2 ^ b % 2 == 1

theorem bit_val (x b : Nat) (hx : x < 65536) : (bits BinOp.and IntKind.u16 ((x : Int) / 2 ^ b) 1 == 1) = (x / 2 ^ b % 2 == 1) := by
  have h1 : (x : Int) / 2 ^ b = ((x / 2 ^ b : Nat) : Int) := by rw [Int.natCast_ediv, Int.natCast_pow]; rfl
  have h2 : x / 2 ^ b ≤ x := Nat.div_le_self _ _
  have h3 := u16_and_nat (x / 2 ^ b) 1 (by omega) (by omega)
  rw [h1]
  have e1 : ((1 : Nat) : Int) = 1 := rfl
  rw [e1] at h3
  rw [h3, Nat.and_one_is_mod]
  rw [Bool.eq_iff_iff, beq_iff_eq, beq_iff_eq]
  omega

/-- below B nothing has turned, nor has block g -/
def KpL (B g : Nat) (W W' : World) : Prop := Below B W W' ∧ (g < W.heap.size → W'.heap[g]? = W.heap[g]?)
theorem KpL.trans_ {B g : Nat} {X Y Z : World} (h : KpL B g X Y) (k : KpL B g Y Z) : KpL B g X Z :=
  ⟨h.1.trans k.1, fun hg => (k.2 (Nat.lt_of_lt_of_le hg h.1.size)).trans (h.2 hg)⟩
theorem KpL.put {B g : Nat} {w : World} (hB : B ≤ w.heap.size) (hg : g < w.heap.size) (W : World) (l : Nat) (o o' : Obj) (hl : w.heap.size ≤ l) (h : W.heap[l]? = some o) (h1 : o.isCells = false) (h2 : o.isWalk = false) : KpL B g W (W.putObj l o') :=
  ⟨belowK_b hB W l o o' hl h h1 h2, fun _ => World.putObj_heap_other (by omega)⟩

set_option maxRecDepth 100000 in
set_option maxHeartbeats 2000000 in
theorem vals1_in (F : Fence) (n : Nat) (hf : F.fn 109) (hro : F.round = none) (hn : 1 ≤ n) (l Bw Bl B0 : Nat) (A : Option Addr) (N c b : Nat) (ws : List Nat) (hb : b < 16) (hN : N ≤ 4096) (hws : ∀ x ∈ ws, x < 65536) (J Jx : List Bool → World → Prop)
    (hY : ∀ pre x W, J pre W → pre.length < N → YieldAt F (n - 1) Tryz.prog l #[.bool x] W fun e W' =>
      (e = .returned (.bool true) ∧ J (pre ++ [x]) W' ∧ KpL B0 Bl W W') ∨ (e = .returned (.bool false) ∧ Jx (pre ++ [x]) W'))
    (W : World) (hBw : W.cell? ⟨Bw, 0, none⟩ = some (.slice A N c)) (hBl : CBlk W Bl #[.int .i64 b] 3) (hr : Reads W B0 1 A N (ws.map u16v)) (h0 : J [] W) :
    CallsIn F n Tryz.prog 109 #[.func (.yield l) #[] #[], .pointer (some ⟨Bw, 0, none⟩), .pointer (some ⟨Bl, 0, none⟩)] W fun e W' => (∃ v, e = .returned v) ∧
      ((∃ ys, ys = bitL ws b ∧ J ys W') ∨ (∃ pre, pre <+: bitL ws b ∧ Jx pre W')) := by
  refine callsIn_of_wp Tryz.func109 rfl hf ?_ hro
  simp only [Tryz.ntmps109, List.size_toArray, List.length_cons, List.length_nil, Nat.reduceAdd, Nat.reduceSub, Array.replicate_succ, Array.replicate_zero, List.push_toArray, List.append_toArray, List.nil_append, List.cons_append]
  have hwl := hr.lenM
  have HWL := Lib.hid hwl
  clear hwl
  gi_wp2
  gi_loopw [8] (fun i wr => ∃ k : Nat, k ≤ N ∧ i = .int .i64 k ∧ J ((bitL ws b).take k) wr ∧ Below B0 W wr ∧ CBlk wr Bl #[.int .i64 b] 3) (fun i _ => N - (intOf i).toNat)
  case atStart => exact ⟨0, Nat.zero_le _, rfl, by simpa using h0, Below.refl _ _, hBl⟩
  case round =>
    obtain ⟨k, hk, rfl, hJs, hnx, hbl⟩ := hrel
    by_cases hlt : k < N
    · obtain ⟨ad, hkl, rfl, hbb, hcell⟩ := (hr.below hnx).cellM hlt
      have hcl := hbl.cell 0
      have hkb : k < (bitL ws b).length := by unfold bitL; rw [List.length_map]; exact hkl
      obtain ⟨fn, tmps, assign, body, hy, hR⟩ := hY _ (bitL ws b)[k] wr hJs (by rw [List.length_take]; omega)
      have hts : (bitL ws b).take (k + 1) = (bitL ws b).take k ++ [(bitL ws b)[k]] := List.take_succ_eq_append_getElem hkb
      have hval : (bits BinOp.and IntKind.u16 ((ws[k] : Int) / 2 ^ b) 1 == 1) = (bitL ws b)[k] := by
        rw [bit_val _ _ (hws _ (List.getElem_mem hkl))]
        simp [bitL]
      unfold u16v at hcell
      generalize (bitL ws b)[k] = y at *
      generalize ws[k] = x at *
      have HTS := Lib.hid hts
      clear hts hws
      gi_wp2
      refine hR.mono ?_
      rintro e W3 (⟨rfl, hJ3, hk3⟩ | ⟨rfl, hJx3⟩)
      · have hbl3 : CBlk W3 Bl #[.int .i64 b] 3 := (hk3.2 hbl.lt).trans hbl
        gi_wp2
        go_roundw
        case rel => exact ⟨k + 1, by omega, by simp, by rw [HTS.out]; exact hJ3, hnx.trans hk3.1, hbl3⟩
        case measure => simp [intOf]; omega
      · gi_wp2
        refine bodyPost_ret (results_none rfl _ _ _) rfl ?_
        exact ⟨⟨_, rfl⟩, .inr ⟨(bitL ws b).take (k + 1), List.take_prefix _ _, by rw [HTS.out]; exact hJx3⟩⟩
    · obtain rfl : k = N := by omega
      rw [List.take_of_length_le (by unfold bitL; rw [List.length_map, HWL.out]; exact Nat.le_refl _)] at hJs
      gi_wp2
      go_end0
      exact ⟨⟨_, rfl⟩, .inl ⟨_, rfl, hJs⟩⟩

theorem valuesOf_any (A : Option Addr) (N c b : Nat) (w : World) : Calls Tryz.prog 68 #[.slice A N c, .int .i64 b] w fun e w' =>
    e = .returned (.func (.func 109) #[] #[.pointer (some ⟨w.heap.size, 0, none⟩), .pointer (some ⟨w.heap.size + 1, 0, none⟩)]) ∧ (w.alloc (.cells #[.slice A N c] 51)).alloc (.cells #[.int .i64 b] 3) = w' := by
  have hmf : ∀ (fn : Fn) (first cap : Array Value) (w : World), (Instr.makeFunc fn first cap).run Tryz.prog w = .ok (.func fn first cap) w := fun _ _ _ _ => rfl
  go_enter Tryz.func68, Tryz.ntmps68
  go_wp2
  go_ret
  exact ⟨rfl, rfl⟩

theorem vals_stops (n : Nat) (hn : 1 ≤ n) (Bw Bl B0 : Nat) (A : Option Addr) (N c b : Nat) (ws : List Nat) (hb : b < 16) (hN : N ≤ 4096) (hws : ∀ x ∈ ws, x < 65536) (w : World) (hBw0 : Bw < w.heap.size) (hB0 : B0 ≤ w.heap.size)
    (hBw : w.cell? ⟨Bw, 0, none⟩ = some (.slice A N c)) (hBl : CBlk w Bl #[.int .i64 b] 3) (hr : Reads w B0 1 A N (ws.map u16v)) :
    SeqStopsK Fence.wide n Tryz.prog 109 #[.pointer (some ⟨Bw, 0, none⟩), .pointer (some ⟨Bl, 0, none⟩)] (fun x : Bool => #[Value.bool x]) (KpL B0 Bl) (fun ys => ys = bitL ws b) (fun pre => pre <+: bitL ws b) N w := fun l J Jx W hW _ _ hY h0 =>
  vals1_in Fence.wide n trivial rfl hn l Bw Bl B0 A N c b ws hb hN hws J Jx hY W ((hW.cell (p := ⟨Bw, 0, none⟩) hBw0).trans hBw) (hBl.below hW hBl.lt) (hr.below (hW.mono hB0)) h0

end Go.Proofs.YtboaojkblmddkaaGreatDoor

/- Contract of probe's Line. -/
namespace Go.Proofs.YtboaojkblmddkaaGreatDoor
open Go.RowKit Go.Shelf

attribute [local go_sem] Oper.semAt_some

set_option maxRecDepth 100000 in
set_option maxHeartbeats 2000000 in
theorem line_in (A : Option Addr) (N c b : Nat) (ws : List Nat) (w : World) (h : Reads w w.heap.size 1 A N (ws.map u16v)) (hws : ∀ x ∈ ws, x < 65536) (hN : N ≤ 4096) (hb : b < 16) :
    CallsIn Fence.wide 5 Tryz.prog 29 #[.slice A N c, .int .i64 b] w fun e W' => ∃ v, e = .returned (.tuple #[v, .int .i64 0]) ∧ W'.ownsRow w.heap.size 4 1 v N ((bitL ws b).map boolv) ∧ Below w.heap.size w W' := by
  have h1 : 1 ≤ 5 := by omega
  obtain ⟨i0, hi, hz0, hz1, hz2⟩ := info_parts info_bool
  have e1 : (if (4096 : Int) < (N : Int) then (5 : Int) else 0) = 0 := if_neg (by omega)
  have H1 := catMost_u16 A N c 4096 w
  rw [e1] at H1
  have hr : rangeE (b : Int) 0 15 = 0 := by unfold rangeE; rw [if_neg (by omega)]
  have H2 := cinRange_any (b : Int) 0 15 w
  rw [hr] at H2
  have K1 := Lib.hid H1
  have K2 := Lib.hid H2
  clear H1 H2 e1 hr
  refine callsIn_of_wp_marks Tryz.func29 rfl trivial ?_ rfl
  simp only [Tryz.ntmps29, List.size_toArray, List.length_cons, List.length_nil, Nat.reduceAdd, Nat.reduceSub, Array.replicate_succ, Array.replicate_zero, List.push_toArray, List.append_toArray, List.nil_append, List.cons_append]
  gi_wp2_with fail
  refine ⟨trivial, (callsIn_wide.2 K1.out).mono ?_⟩
  rintro e w1 ⟨rfl, rfl⟩
  gi_wp2_with fail
  refine ⟨trivial, (callsIn_wide.2 K2.out).mono ?_⟩
  rintro e w1 ⟨rfl, rfl⟩
  gi_wp2_with fail
  refine ⟨trivial, (callsIn_wide.2 (cfirst_two 0 0 w 29 w.heap.size rfl)).mono ?_⟩
  rintro e w1 ⟨rfl, rfl⟩
  have hb1 : Below w.heap.size w (w.alloc (.cells #[.int .i64 0, .int .i64 0] 29)) := (Below.refl _ _).alloc (Nat.le_refl _) _
  generalize w.alloc (.cells #[.int .i64 0, .int .i64 0] 29) = w1 at *
  have hle := hb1.size
  gi_wp2_with (gi_at_make; refine wpListIn_make_own _ rfl _ _ 26 rfl w.heap.size 4 i0 (.bool false) 1 Tryz.underlying26 hi hz0 hz1 _ _ _ N rfl rfl rfl ?b2 ?b3 hle ?_)
  case b2 => rw [hz2]; omega
  case b3 => unfold maxLen; omega
  intro w2 hown0 hgrow0
  have hB2 : Below w.heap.size w w2 := hb1.trans ((gnone hgrow0 (Nat.le_refl _)).mono hb1.size)
  generalize w1.heap.size = G at *
  gi_wp2_with fail
  refine ⟨trivial, (callsIn_wide.2 (valuesOf_any A N c b _)).mono ?_⟩
  rintro e w3 ⟨rfl, rfl⟩
  gi_wp2_with fail
  have hG2 := hgrow0.size
  have bV := Boxed.new w2 26 (.slice (some ⟨G, 0, none⟩) 0 N)
  have bW := Boxed.new (w2.alloc (.cells #[.slice (some ⟨G, 0, none⟩) 0 N] 26)) 51 (.slice A N c)
  have bL := Boxed.new ((w2.alloc (.cells #[.slice (some ⟨G, 0, none⟩) 0 N] 26)).alloc (.cells #[.slice A N c] 51)) 3 (.int .i64 b)
  have hW0 : Below w2.heap.size w2 (((w2.alloc (.cells #[.slice (some ⟨G, 0, none⟩) 0 N] 26)).alloc (.cells #[.slice A N c] 51)).alloc (.cells #[.int .i64 b] 3)) := (((Below.refl _ _).alloc (Nat.le_refl _) _).alloc (by simp) _).alloc (by simp; omega) _
  have bV0 := (bV.alloc (.cells #[.slice A N c] 51)).alloc (.cells #[.int .i64 b] 3)
  have bW0 := bW.alloc (.cells #[.int .i64 b] 3)
  have hown1 := ((hown0.alloc (.cells #[.slice (some ⟨G, 0, none⟩) 0 N] 26)).alloc (.cells #[.slice A N c] 51)).alloc (.cells #[.int .i64 b] 3)
  simp only [World.size_alloc] at bW0 bL
  have hszW : (((w2.alloc (.cells #[.slice (some ⟨G, 0, none⟩) 0 N] 26)).alloc (.cells #[.slice A N c] 51)).alloc (.cells #[.int .i64 b] 3)).heap.size = w2.heap.size + 3 := by simp
  have hBW : Below w.heap.size w (((w2.alloc (.cells #[.slice (some ⟨G, 0, none⟩) 0 N] 26)).alloc (.cells #[.slice A N c] 51)).alloc (.cells #[.int .i64 b] 3)) := hB2.trans (hW0.mono hB2.size)
  have hsz2 := hB2.size
  clear bV bW hW0 hown0 hgrow0
  generalize (((w2.alloc (.cells #[.slice (some ⟨G, 0, none⟩) 0 N] 26)).alloc (.cells #[.slice A N c] 51)).alloc (.cells #[.int .i64 b] 3)) = W0 at *
  generalize w2.heap.size = V at *
  refine wpIn_rangeFunc_ownG rfl h1 (gf := 109) (lb := #[.pointer (some ⟨V + 1, 0, none⟩), .pointer (some ⟨V + 1 + 1, 0, none⟩)]) rfl trivial (enters_of Tryz.func109 (by kernel_rfl) rfl)
    (vals_stops (5 - 1) (by omega) (V + 1) (V + 1 + 1) w.heap.size A N c b ws hb hN hws W0 (by omega) hBW.size bW0.cell bL (h.below hBW)) KpL.trans_ (KpL.put hBW.size (by omega)) (Below.refl _ _) (fun _ => rfl)
    (fun (pre : List Bool) W => (∃ v, Boxed W V 26 v ∧ W.ownsRow w.heap.size 4 1 v pre.length (pre.map boolv) ∧ True) ∧ (Below w.heap.size w W ∧ Boxed W (V + 1 + 1) 3 (.int .i64 b)))
    (fun _ _ _ => False)
    (OwnFrom.and (Own.from (holdsRow_own w.heap.size V 26 4 1 (fun pre : List Bool => pre.length) (fun pre : List Bool => pre.map boolv) (fun _ _ => True)) _) (OwnFrom.and (ownFrom_below (Nat.le_refl _) hBW.size) (fun s X Y row hs hg hr => hs.kept hg (fun e' => by
      obtain ⟨_, o, ho, hc⟩ := hr _ e'.symm
      rw [show X.heap[V + 1 + 1]? = _ from hs] at ho; cases ho; cases hc))))
    (fun _ _ _ _ _ hs _ _ => hs)
    ⟨⟨_, bV0, hown1, trivial⟩, hBW, bL⟩
    (fun x => { tmps := #[.slice A N c, .int .i64 b, undef, undef, .slice none 0 0, .int .i64 0, .int .i64 0, .pointer (some ⟨V, 0, none⟩), .bool x, .slice A N c, .int .i64 0, .int .i64 b, .int .i64 0, .slice (some ⟨w.heap.size, 0, none⟩) 2 2, .int .i64 0, .int .i64 0, .bool false, undef, .slice A N c, .int .i64 N, .slice (some ⟨G, 0, none⟩) 0 N, .slice A N c, .int .i64 b, .func (.func 109) #[] #[.pointer (some ⟨V + 1, 0, none⟩), .pointer (some ⟨V + 1 + 1, 0, none⟩)], .bool x, undef, undef, undef, undef, undef], defers := [] }) ?assign ?body ?done ?stop
  case assign =>
    intro l x W K hK
    gi_wp2
    exact hK
  case body =>
    rintro l pre x W ⟨⟨v, hv, hrow, _⟩, hB, hbl⟩ hlt
    have hc := hv.cell
    gi_wp2_with (gi_at_builtin; refine wpListIn_append_own _ rfl _ _ 26 rfl w.heap.size 4 i0 (.bool false) 1 1 Tryz.underlying26 hi hz0 hz1 hz2 rfl (by decide) _ _ _ rfl (hrow.alloc _) ⟨W.heap.size, 0, none⟩ 1 1 [.bool x] rfl rfl (cell_one_new _ _ _) (by simp [Value.oneCell']) (by unfold maxLen; omega) (by omega) (by have := hB.size; simp; omega) ?_; intro v' w1 hown' hgrow _; obtain ⟨g', cap', rfl⟩ := ownsRow_succ hown'; obtain ⟨hv1, hv2, hr2, hk2, hb2⟩ := hv.appended (by decide) hrow hB.size hsz2 hown' hgrow; have hbl1 := (hbl.alloc (.cells #[.bool x] 4)).kept hgrow (hbl.not_row (by decide) hrow); have hc1 := hv1.cell; have hf1 := hv1.frozen)
    have hbl2 := hbl1.kept (grownBy_setCell' w1 V (.slice (some ⟨g', 0, none⟩) (pre.length + 1) cap')) (by intro e; injection e with e; omega)
    exact ⟨hk2.from _, ⟨hb2, fun _ => hbl2.trans hbl.symm⟩, ⟨_, hv2, by simpa [boolv] using hr2, trivial⟩, hB.trans hb2, hbl2⟩
  case done =>
    rintro D ys W hD rfl ⟨⟨v, hv, hrow, _⟩, hB, hbl⟩ hK
    have hc := hv.cell
    have hlN : (bitL ws b).length = N := by unfold bitL; rw [List.length_map]; exact h.lenM
    rw [hlN] at hrow
    clear hlN
    gi_wp2
    refine ⟨by simp, .inl ⟨_, _, rfl, run_takeDeferred hK, ?_⟩⟩
    exact ⟨_, results_tmp2 rfl _ _ _, v, rfl, ownsRow_putObj hrow _ hK rfl, hB.trans (belowK_b (w := W0) hBW.size W D _ _ hD hK rfl rfl)⟩
  case stop =>
    rintro D c pre W _ _ h _
    exact h.elim

theorem line_ok (A : Option Addr) (N c b : Nat) (ws : List Nat) (w : World) (h : Reads w w.heap.size 1 A N (ws.map u16v)) (hws : ∀ x ∈ ws, x < 65536) (hN : N ≤ 4096) (hb : b < 16) :
    Calls Tryz.prog 29 #[.slice A N c, .int .i64 b] w fun e W' => ∃ v, e = .returned (.tuple #[v, .int .i64 0]) ∧ W'.ownsRow w.heap.size 4 1 v N ((bitL ws b).map boolv) ∧ Below w.heap.size w W' :=
  callsIn_wide.1 (line_in A N c b ws w h hws hN hb)

end Go.Proofs.YtboaojkblmddkaaGreatDoor

/- The reference's power, Bit, Line, Words, Needed. -/
namespace Go.Proofs.YtboaojkblmddkaaGreatDoor
open Go.RowKit Bn

theorem pow_step (k : Nat) (hk : k < 16) : wrap64 (2 * ((2 ^ k : Nat) : Int)) = ((2 ^ (k + 1) : Nat) : Int) := by
  have h1 : 2 ^ (k + 1) ≤ 2 ^ 16 := Nat.pow_le_pow_right (by omega) (by omega)
  have e : 2 ^ (k + 1) = 2 * 2 ^ k := by rw [Nat.pow_succ, Nat.mul_comm]
  have e16 : (2 : Nat) ^ 16 = 65536 := by decide
  generalize 2 ^ (k + 1) = q at *
  generalize 2 ^ k = p at *
  rw [IntWalk.wrap64_in _ (by omega)]
  omega

theorem rpower_any (n : Nat) (w : World) (hn : n ≤ 16) : Calls Tryz.prog 69 #[.int .i64 n] w fun e w' => e = .returned (.int .i64 ((2 ^ n : Nat) : Int)) ∧ w = w' := by
  have HP := Lib.hid (fun k hk => pow_step k hk)
  have HV : Hid (∀ (k : Nat) (z : Int), k = n → z = ((2 ^ k : Nat) : Int) → z = ((2 ^ n : Nat) : Int)) := fun k z h1 h2 => by rw [h2, h1]
  generalize hR : ((2 ^ n : Nat) : Int) = R at *
  go_enter Tryz.func69, Tryz.ntmps69
  go_wp2
  go_loopg [3, 4] n (fun q o s W => ∃ k : Nat, ∃ z : Int, k ≤ n ∧ s = .int .i64 k ∧ n - k ≤ q ∧ o = .int .i64 z ∧ Hid (z = ((2 ^ k : Nat) : Int)) ∧ W = w)
  case atStart => exact ⟨0, 1, Nat.zero_le _, rfl, by omega, rfl, rfl, rfl⟩
  case round =>
    obtain ⟨k, z, hk, rfl, hq, rfl, hz, hW⟩ := hrel
    obtain rfl : w = wr := hW.symm
    clear hW
    by_cases h0 : k < n
    · have hs := HP.out k (by omega)
      rw [← hz.out] at hs
      have HS := Lib.hid hs
      clear hs
      go_wp2
      go_roundg (n - (k + 1))
      case measure => omega
      case rel => exact ⟨k + 1, _, by omega, by go_num, Nat.le_refl _, rfl, HS.out, rfl⟩
    · have hv := HV.out k z (by omega) hz.out
      subst hv
      clear hz HV
      go_wp2
      go_ret
      exact ⟨rfl, rfl⟩

theorem rBit_any (x b : Nat) (w : World) (hx : x < 65536) (hb : b < 16) : Calls Tryz.prog 70 #[.int .u16 x, .int .i64 b] w fun e w' => e = .returned (.bool (x / 2 ^ b % 2 == 1)) ∧ w = w' := by
  have HP := Lib.hid (rpower_any b w (by omega))
  have hp : 0 < 2 ^ b := Nat.pow_pos (by omega)
  have hp2 : 2 ^ b ≤ 2 ^ 16 := Nat.pow_le_pow_right (by omega) (by omega)
  have e16 : (2 : Nat) ^ 16 = 65536 := by decide
  rw [e16] at hp2
  generalize 2 ^ b = p at *
  have hv : ((x : Int) / (p : Int) % 2 == 1) = (x / p % 2 == 1) := by
    have : (x : Int) / (p : Int) = ((x / p : Nat) : Int) := by rw [Int.natCast_ediv]
    rw [this, Bool.eq_iff_iff]
    simp only [beq_iff_eq]
    omega
  have HVV := Lib.hid hv
  have hle : x / p ≤ x := Nat.div_le_self _ _
  have hq0 : (0 : Int) ≤ (x : Int) / (p : Int) := Int.ediv_nonneg (by omega) (by omega)
  have hq1 : (x : Int) / (p : Int) < 65536 := by
    have : (x : Int) / (p : Int) = ((x / p : Nat) : Int) := by rw [Int.natCast_ediv]
    omega
  have hp0 : (p : Int) ≠ 0 := by omega
  have hp1 : ((p : Int) == 0) = false := by rw [beq_eq_false_iff_ne]; exact hp0
  clear hv e16
  go_enter Tryz.func70, Tryz.ntmps70
  go_wp2_with fail
  refine HP.out.mono ?_
  rintro e w1 ⟨rfl, rfl⟩
  go_wp2
  go_ret
  exact ⟨by rw [← HVV.out]; rfl, rfl⟩

theorem rNeeded_any (n : Nat) (w : World) (hn : n ≤ 4098) : Calls Tryz.prog 45 #[.int .i64 n] w fun e w' => e = .returned (.int .i64 ((n + 15) / 16 : Nat)) ∧ w = w' := by
  have e1 : ((n : Int) + 16 - 1) / 16 = (((n + 15) / 16 : Nat) : Int) := by omega
  have HE := Lib.hid e1
  clear e1
  go_enter Tryz.func45, Tryz.ntmps45
  go_wp2
  go_ret
  exact ⟨by rw [← HE.out]; rfl, rfl⟩

set_option maxHeartbeats 1000000 in
theorem rLine_ok (A : Option Addr) (N c b : Nat) (ws : List Nat) (w : World) (h : Reads w w.heap.size 1 A N (ws.map u16v)) (hws : ∀ x ∈ ws, x < 65536) (hN : N ≤ 4096) (hb : b < 16) :
    Calls Tryz.prog 33 #[.slice A N c, .int .i64 b] w fun e w' => ∃ v, e = .returned v ∧ w'.ownsRow w.heap.size 4 1 v N ((bitL ws b).map boolv) ∧ Below w.heap.size w w' := by
  obtain ⟨i0, hi0, hz0, hz1, hz2⟩ := info_parts info_bool
  have HL := Lib.hid h.lenM
  have HWS := Lib.hid hws
  clear hws
  go_enter Tryz.func33, Tryz.ntmps33
  go_wp2
  go_loopg [5, 6] N (fun q v s W => ∃ k : Nat, k ≤ N ∧ s = .int .i64 k ∧ N - k ≤ q ∧ W.ownsRow w.heap.size 4 1 v k ((bitL (ws.take k) b).map boolv) ∧ Below w.heap.size w W)
  case atStart => exact ⟨0, Nat.zero_le _, rfl, by omega, World.ownsRow_nil _ _ _ _, Below.refl _ _⟩
  case round =>
    obtain ⟨k, hk, rfl, hq, hown, hbel⟩ := hrel
    by_cases h0 : k < N
    · obtain ⟨ad, hkl, rfl, hbb, hcell⟩ := (h.below hbel).cellM h0
      have hx := HWS.out _ (List.getElem_mem hkl)
      have hts : (bitL (ws.take (k + 1)) b).map boolv = (bitL (ws.take k) b).map boolv ++ [boolv (ws[k] / 2 ^ b % 2 == 1)] := by
        unfold bitL
        rw [List.take_succ_eq_append_getElem hkl, List.map_append, List.map_append]; rfl
      have HTS := Lib.hid hts
      unfold u16v at hcell
      have HB := Lib.hid (fun W => rBit_any ws[k] b W hx (by omega))
      clear hts hx
      generalize (ws[k] / 2 ^ b % 2 == 1) = z at *
      generalize ws[k] = x at *
      go_wp2_with fail
      refine (HB.out _).mono ?_
      rintro e w1 ⟨rfl, rfl⟩
      go_wp2_with (at_builtin; refine wpList_append_own _ rfl _ _ 26 rfl w.heap.size 4 i0 (.bool false) 1 1 Tryz.underlying26 hi0 hz0 hz1 hz2 rfl (by decide) _ _ _ rfl (hown.alloc _) ⟨wr.heap.size, 0, none⟩ 1 1 [.bool z] rfl rfl ?a1 ?a2 ?a3 ?a4 ?a5 ?_)
      case a1 => exact cell_one_new _ _ _
      case a2 => intro u hu; simp at hu; subst hu; rfl
      case a3 => unfold maxLen; omega
      case a4 => omega
      case a5 => have := hbel.size; simp; omega
      intro v' w2 hown' hgrow _
      have hb2 : Below w.heap.size w w2 := (hbel.alloc hbel.size _).grown hgrow (by have := hbel.size; simp; omega) (fun g hg => (World.ownsRow.lt hown g hg).1)
      clear hgrow hown
      go_wp2
      go_roundg (N - (k + 1))
      case measure => omega
      case rel => exact ⟨k + 1, by omega, by go_num, Nat.le_refl _, by rw [HTS.out]; exact hown', hb2⟩
    · obtain rfl : k = N := by omega
      rw [List.take_of_length_le (by have := HL.out; omega)] at hown
      go_wp2
      go_ret
      exact ⟨_, rfl, hown, hbel⟩

end Go.Proofs.YtboaojkblmddkaaGreatDoor

/- The reference's Words of valid lines. -/
namespace Go.Proofs.YtboaojkblmddkaaGreatDoor
open Go.RowKit Bn

theorem wd_lt16 (rows : List (List Bool)) (k : Nat) (h : rows.length ≤ 16) : wd rows k < 65536 := by
  have h1 := wd_lt rows k
  have h2 : 2 ^ rows.length ≤ 2 ^ 16 := Nat.pow_le_pow_right (by omega) h
  have e16 : (2 : Nat) ^ 16 = 65536 := by decide
  omega

set_option maxHeartbeats 4000000 in
set_option maxRecDepth 100000 in
theorem rWords_ok (A : Option Addr) (n c m : Nat) (rows : List (List Bool)) (w : World) (h : RowsR boolv w w.heap.size A n rows) (h0 : 1 ≤ n) (hn : n ≤ 16) (hm : ∀ r ∈ rows, r.length = m) (hm2 : m ≤ 4096) :
    Calls Tryz.prog 32 #[.slice A n c] w fun e w' => ∃ v, e = .returned v ∧ w'.ownsRow w.heap.size 63 1 v m (((List.range m).map (wd rows)).map u16v) ∧ Below w.heap.size w w' := by
  obtain ⟨i0, hi0, hz0, hz1, hz2⟩ := info_parts info_u16
  have hrl := h.1
  have HM := Lib.hid hm
  have HRL := Lib.hid hrl
  clear hm hrl
  have hp0 : (0 : Int) < (n : Int) := by omega
  have hp1 : 0 < n := by omega
  obtain ⟨ad, hr0, A0, c0, rfl, hb0, hc0, _, _, _⟩ := h.row (k := 0) hp1
  have hz : Addr.add ad 0 = ad := rfl
  rw [hz, HM.out rows[0] (List.getElem_mem hr0)] at hc0
  clear hz
  go_enter Tryz.func32, Tryz.ntmps32
  go_wp2
  go_loopg [3, 4] m (fun q v s W => ∃ k : Nat, k ≤ m ∧ s = .int .i64 k ∧ m - k ≤ q ∧ W.ownsRow w.heap.size 63 1 v k (((List.range k).map (wd rows)).map u16v) ∧ Below w.heap.size w W)
  case atStart => exact ⟨0, Nat.zero_le _, rfl, by omega, World.ownsRow_nil _ _ _ _, Below.refl _ _⟩
  case round =>
    obtain ⟨k, hk, rfl, hq, hown, hbel⟩ := hrel
    have hc02 := (hbel.cell hb0).trans hc0
    by_cases hkm : k < m
    · have hts : (((List.range (k + 1)).map (wd rows)).map u16v) = (((List.range k).map (wd rows)).map u16v) ++ [u16v (wd rows k)] := by
        rw [List.range_succ, List.map_append, List.map_append]; rfl
      have HTS := Lib.hid hts
      clear hts
      go_wp2
      obtain ⟨wo, hwo⟩ : ∃ wo : World, wo = wr := ⟨_, rfl⟩
      subst hwo
      go_loopg [5, 6] n (fun q o s W => ∃ i d : Nat, i ≤ n ∧ s = .int .i64 i ∧ n - i ≤ q ∧ o = .int .i64 (d : Int) ∧ Hid (d = wd (rows.take i) k) ∧ W = wo)
      case atStart => exact ⟨0, 0, Nat.zero_le _, rfl, by omega, rfl, rfl, rfl⟩
      case round =>
        obtain ⟨i, d, hi, rfl, hq2, rfl, hd, hW⟩ := hrel
        obtain rfl : wo = wr := hW.symm
        clear hW
        by_cases hin : i < n
        · obtain ⟨ad', hil, A', c', he, hbb, hcl, _, _, hrd⟩ := (h.below hbel).row hin
          injection he with he
          subst he
          have hlen := HM.out rows[i] (List.getElem_mem hil)
          rw [hlen] at hcl hrd
          obtain ⟨ad2, hkl, rfl, hb2, hcell⟩ := hrd.cellM hkm
          have hwt := wd_take rows i k hil
          have hlt := wd_lt16 (rows.take (i + 1)) k (by rw [List.length_take]; omega)
          have hgd : rows[i].getD k false = rows[i][k] := by simp [List.getD, hkl]
          rw [hgd, ← hd.out] at hwt
          unfold boolv at hcell
          generalize rows[i][k] = x at *
          generalize hY : wd (rows.take (i + 1)) k = Y at *
          have HY := Lib.hid hY
          clear hgd hlen hY hrd
          cases x
          · have e : Y = d := by simpa using hwt
            have HE := Lib.hid (e.symm.trans HY.out.symm)
            clear hwt e hlt
            go_wp2
            go_roundg (n - (i + 1))
            case measure => omega
            case rel => exact ⟨i + 1, d, by omega, by go_num, Nat.le_refl _, rfl, HE.out, rfl⟩
          · have HP := Lib.hid (rpower_any i wo (by omega))
            rw [if_pos rfl] at hwt
            generalize 2 ^ i = p at *
            have HE : Hid (((d : Int) + (p : Int)) = ((Y : Nat) : Int)) := by unfold Hid; omega
            have hr1 : wrap64 ((d : Int) + (p : Int)) = (Y : Int) := by rw [IntWalk.wrap64_in _ (by omega)]; omega
            clear hwt
            go_wp2_with fail
            refine HP.out.mono ?_
            rintro e w1 ⟨rfl, rfl⟩
            go_wp2
            go_roundg (n - (i + 1))
            case measure => omega
            case rel => exact ⟨i + 1, Y, by omega, by go_num, Nat.le_refl _, by first | rfl | rw [hr1], HY.out.symm, rfl⟩
        · obtain rfl : i = n := by omega
          have hdv := hd.out
          rw [List.take_of_length_le (by have := HRL.out; omega)] at hdv
          have hlt := wd_lt16 rows k (by have := HRL.out; omega)
          rw [← hdv] at hlt
          rw [← hdv] at HTS
          have hwr : IntKind.u16.wrap (d : Int) = (d : Int) := by rw [u16_mod]; omega
          clear hd hdv
          have hsz := hbel.size
          go_wp2_with (at_builtin; refine wpList_append_own _ rfl _ _ 51 rfl w.heap.size 63 i0 (.int .u16 0) 1 2 Tryz.underlying51 hi0 hz0 hz1 hz2 rfl (by decide) _ _ _ rfl (hown.alloc _) ⟨wo.heap.size, 0, none⟩ 1 1 [.int .u16 (d : Int)] rfl rfl ?a1 ?a2 ?a3 ?a4 ?a5 ?_)
          case a1 => exact cell_one_new _ _ _
          case a2 => intro u hu; simp at hu; subst hu; rfl
          case a3 => unfold maxLen; omega
          case a4 => omega
          case a5 => simp; omega
          intro v' w2 hown' hgrow _
          have hb2 : Below w.heap.size w w2 := (hbel.alloc hbel.size _).grown hgrow (by simp; omega) (fun g hg => (World.ownsRow.lt hown g hg).1)
          clear hgrow hown
          go_wp2
          go_roundg (m - (k + 1))
          case measure => omega
          case rel => exact ⟨k + 1, by omega, by go_num, Nat.le_refl _, by rw [HTS.out, List.map_map]; exact hown', hb2⟩
    · obtain rfl : k = m := by omega
      go_wp2
      go_ret
      exact ⟨_, rfl, hown, hbel⟩

end Go.Proofs.YtboaojkblmddkaaGreatDoor
