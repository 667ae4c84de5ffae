/- Contracts of probe's valuesOf and Line: a range over a function. -/
import Derived.Test.YthmiamppfncfoaaGreatDoorCWd2
import Derived.RangeFuncBox
import Derived.RangeFuncLeaves
import Derived.Shelf.Abstract
import Derived.OwnWalkIn
import Derived.TacticsInMore
import Derived.LoopNIn
import Derived.LoopIn
import Derived.Maps.AppendAt
import Derived.Test.YthmiamppfncfoaaGreatDoorCAlg
namespace Go.Proofs.YthmiamppfncfoaaGreatDoor
open Go.RowKit Go.Shelf

attribute [local go_sem] Oper.semAt_some

/-- the line b of words -/
def bitL (ws : List Nat) (b : Nat) : List Bool := ws.map fun x => x / 2 ^ b % 2 == 1

theorem bit_val (x b : Nat) (hx : x < 65536) : (bits BinOp.and IntKind.u16 ((x : Int) / 2 ^ b) 1 == 1) = (x / 2 ^ b % 2 == 1) := by
  have h1 : (x : Int) / 2 ^ b = ((x / 2 ^ b : Nat) : Int) := by rw [Int.natCast_ediv, Int.natCast_pow]; rfl
  have h2 : x / 2 ^ b ≤ x := Nat.div_le_self _ _
  have h3 := u16_and_nat (x / 2 ^ b) 1 (by omega) (by omega)
  rw [h1]
  have e1 : ((1 : Nat) : Int) = 1 := rfl
  rw [e1] at h3
  rw [h3, Nat.and_one_is_mod]
  rw [Bool.eq_iff_iff, beq_iff_eq, beq_iff_eq]
  omega

/-- below B nothing has turned, nor has block g -/
def KpL (B g : Nat) (W W' : World) : Prop := Below B W W' ∧ (g < W.heap.size → W'.heap[g]? = W.heap[g]?)
theorem KpL.trans_ {B g : Nat} {X Y Z : World} (h : KpL B g X Y) (k : KpL B g Y Z) : KpL B g X Z :=
  ⟨h.1.trans k.1, fun hg => (k.2 (Nat.lt_of_lt_of_le hg h.1.size)).trans (h.2 hg)⟩
theorem KpL.put {B g : Nat} {w : World} (hB : B ≤ w.heap.size) (hg : g < w.heap.size) (W : World) (l : Nat) (o o' : Obj) (hl : w.heap.size ≤ l) (h : W.heap[l]? = some o) (h1 : o.isCells = false) (h2 : o.isWalk = false) : KpL B g W (W.putObj l o') :=
  ⟨belowK_b hB W l o o' hl h h1 h2, fun _ => World.putObj_heap_other (by omega)⟩

set_option maxRecDepth 100000 in
set_option maxHeartbeats 2000000 in
theorem vals1_in (F : Fence) (n : Nat) (hf : F.fn 63) (hro : F.round = none) (hn : 1 ≤ n) (l Bw Bl B0 : Nat) (A : Option Addr) (N c b : Nat) (ws : List Nat) (hb : b < 16) (hN : N ≤ 4096) (hws : ∀ x ∈ ws, x < 65536) (J Jx : List Bool → World → Prop)
    (hY : ∀ pre x W, J pre W → pre.length < N → YieldAt F (n - 1) Tryz.prog l #[.bool x] W fun e W' =>
      (e = .returned (.bool true) ∧ J (pre ++ [x]) W' ∧ KpL B0 Bl W W') ∨ (e = .returned (.bool false) ∧ Jx (pre ++ [x]) W'))
    (W : World) (hBw : W.cell? ⟨Bw, 0, none⟩ = some (.slice A N c)) (hBl : CBlk W Bl #[.int .i64 b] 3) (hr : Reads W B0 1 A N (ws.map u16v)) (h0 : J [] W) :
    CallsIn F n Tryz.prog 63 #[.func (.yield l) #[] #[], .pointer (some ⟨Bw, 0, none⟩), .pointer (some ⟨Bl, 0, none⟩)] W fun e W' => (∃ v, e = .returned v) ∧
      ((∃ ys, ys = bitL ws b ∧ J ys W') ∨ (∃ pre, pre <+: bitL ws b ∧ Jx pre W')) := by
  refine callsIn_of_wp Tryz.func63 rfl hf ?_ hro
  simp only [Tryz.ntmps63, List.size_toArray, List.length_cons, List.length_nil, Nat.reduceAdd, Nat.reduceSub, Array.replicate_succ, Array.replicate_zero, List.push_toArray, List.append_toArray, List.nil_append, List.cons_append]
  have hwl := hr.lenM
  have HWL := Lib.hid hwl
  clear hwl
  gi_wp2
  gi_loopw [8] (fun i wr => ∃ k : Nat, k ≤ N ∧ i = .int .i64 k ∧ J ((bitL ws b).take k) wr ∧ Below B0 W wr ∧ CBlk wr Bl #[.int .i64 b] 3) (fun i _ => N - (intOf i).toNat)
  case atStart => exact ⟨0, Nat.zero_le _, rfl, by simpa using h0, Below.refl _ _, hBl⟩
  case round =>
    obtain ⟨k, hk, rfl, hJs, hnx, hbl⟩ := hrel
    by_cases hlt : k < N
    · obtain ⟨ad, hkl, rfl, hbb, hcell⟩ := (hr.below hnx).cellM hlt
      have hcl := hbl.cell 0
      have hkb : k < (bitL ws b).length := by unfold bitL; rw [List.length_map]; exact hkl
      obtain ⟨fn, tmps, assign, body, hy, hR⟩ := hY _ (bitL ws b)[k] wr hJs (by rw [List.length_take]; omega)
      have hts : (bitL ws b).take (k + 1) = (bitL ws b).take k ++ [(bitL ws b)[k]] := List.take_succ_eq_append_getElem hkb
      have hval : (bits BinOp.and IntKind.u16 ((ws[k] : Int) / 2 ^ b) 1 == 1) = (bitL ws b)[k] := by
        rw [bit_val _ _ (hws _ (List.getElem_mem hkl))]
        simp [bitL]
      unfold u16v at hcell
      generalize (bitL ws b)[k] = y at *
      generalize ws[k] = x at *
      have HTS := Lib.hid hts
      clear hts hws
      gi_wp2
      refine hR.mono ?_
      rintro e W3 (⟨rfl, hJ3, hk3⟩ | ⟨rfl, hJx3⟩)
      · have hbl3 : CBlk W3 Bl #[.int .i64 b] 3 := (hk3.2 hbl.lt).trans hbl
        gi_wp2
        go_roundw
        case rel => exact ⟨k + 1, by omega, by simp, by rw [HTS.out]; exact hJ3, hnx.trans hk3.1, hbl3⟩
        case measure => simp [intOf]; omega
      · gi_wp2
        refine bodyPost_ret (results_none rfl _ _ _) rfl ?_
        exact ⟨⟨_, rfl⟩, .inr ⟨(bitL ws b).take (k + 1), List.take_prefix _ _, by rw [HTS.out]; exact hJx3⟩⟩
    · obtain rfl : k = N := by omega
      rw [List.take_of_length_le (by unfold bitL; rw [List.length_map, HWL.out]; exact Nat.le_refl _)] at hJs
      gi_wp2
      go_end0
      exact ⟨⟨_, rfl⟩, .inl ⟨_, rfl, hJs⟩⟩

theorem valuesOf_any (A : Option Addr) (N c b : Nat) (w : World) : Calls Tryz.prog 39 #[.slice A N c, .int .i64 b] w fun e w' =>
    e = .returned (.func (.func 63) #[] #[.pointer (some ⟨w.heap.size, 0, none⟩), .pointer (some ⟨w.heap.size + 1, 0, none⟩)]) ∧ (w.alloc (.cells #[.slice A N c] 39)).alloc (.cells #[.int .i64 b] 3) = w' := by
  have hmf : ∀ (fn : Fn) (first cap : Array Value) (w : World), (Instr.makeFunc fn first cap).run Tryz.prog w = .ok (.func fn first cap) w := fun _ _ _ _ => rfl
  go_enter Tryz.func39, Tryz.ntmps39
  go_wp2
  go_ret
  exact ⟨rfl, rfl⟩

theorem vals_stops (n : Nat) (hn : 1 ≤ n) (Bw Bl B0 : Nat) (A : Option Addr) (N c b : Nat) (ws : List Nat) (hb : b < 16) (hN : N ≤ 4096) (hws : ∀ x ∈ ws, x < 65536) (w : World) (hBw0 : Bw < w.heap.size) (hB0 : B0 ≤ w.heap.size)
    (hBw : w.cell? ⟨Bw, 0, none⟩ = some (.slice A N c)) (hBl : CBlk w Bl #[.int .i64 b] 3) (hr : Reads w B0 1 A N (ws.map u16v)) :
    SeqStopsK Fence.wide n Tryz.prog 63 #[.pointer (some ⟨Bw, 0, none⟩), .pointer (some ⟨Bl, 0, none⟩)] (fun x : Bool => #[Value.bool x]) (KpL B0 Bl) (fun ys => ys = bitL ws b) (fun pre => pre <+: bitL ws b) N w := fun l J Jx W hW _ _ hY h0 =>
  vals1_in Fence.wide n trivial rfl hn l Bw Bl B0 A N c b ws hb hN hws J Jx hY W ((hW.cell (p := ⟨Bw, 0, none⟩) hBw0).trans hBw) (hBl.below hW hBl.lt) (hr.below (hW.mono hB0)) h0

end Go.Proofs.YthmiamppfncfoaaGreatDoor

/- The words of lines: their number, their size, their bits. Plain. -/
namespace Go.Proofs.YthmiamppfncfoaaGreatDoor

theorem wlist_len (LS : List (List Bool)) (m : Nat) : ((List.range m).map (wd LS)).length = m := by simp
theorem wlist_lt (LS : List (List Bool)) (m : Nat) (h : LS.length ≤ 16) : ∀ x ∈ (List.range m).map (wd LS), x < 65536 := by
  intro x hx
  obtain ⟨i, _, rfl⟩ := List.mem_map.1 hx
  exact Nat.lt_of_lt_of_le (wd_lt LS i) (Nat.le_trans (Nat.pow_le_pow_right (by decide) h) (by decide))
theorem wlist_bit (LS : List (List Bool)) (m : Nat) (hm : ∀ r ∈ LS, r.length = m) (i : Nat) (h : i < LS.length) : bitL ((List.range m).map (wd LS)) i = LS[i] := by
  have hl := hm LS[i] (List.getElem_mem h)
  unfold bitL
  apply List.ext_getElem
  · simp [hl]
  · intro j h1 h2
    have hb := wd_bit LS j i h
    have e1 : LS.getD i [] = LS[i] := by simp [List.getD, List.getElem?_eq_getElem h]
    have e2 : LS[i].getD j false = LS[i][j] := by simp [List.getD, List.getElem?_eq_getElem h2]
    rw [e1, e2] at hb
    simp only [List.getElem_map, List.getElem_range, hb]
    cases LS[i][j] <;> simp
end Go.Proofs.YthmiamppfncfoaaGreatDoor

/- Contract of probe's Line. -/
namespace Go.Proofs.YthmiamppfncfoaaGreatDoor
open Go.RowKit Go.Shelf

attribute [local go_sem] Oper.semAt_some

set_option maxRecDepth 100000 in
set_option maxHeartbeats 2000000 in
theorem line_in (A : Option Addr) (N c b : Nat) (ws : List Nat) (w : World) (h : Reads w w.heap.size 1 A N (ws.map u16v)) (hws : ∀ x ∈ ws, x < 65536) (hN : N ≤ 4096) (hb : b < 16) :
    CallsIn Fence.wide 5 Tryz.prog 13 #[.slice A N c, .int .i64 b] w fun e W' => ∃ v, e = .returned (.tuple #[v, .int .i64 0]) ∧ W'.ownsRow w.heap.size 4 1 v N ((bitL ws b).map boolv) ∧ Below w.heap.size w W' := by
  have h1 : 1 ≤ 5 := by omega
  obtain ⟨i0, hi, hz0, hz1, hz2⟩ := info_parts info_bool
  have e1 : (if (4096 : Int) < (N : Int) then (5 : Int) else 0) = 0 := if_neg (by omega)
  have H1 := catMost_u16 A N c 4096 w
  rw [e1] at H1
  have hr : rangeE (b : Int) 0 15 = 0 := by unfold rangeE; rw [if_neg (by omega)]
  have H2 := cinRange_any (b : Int) 0 15 w
  rw [hr] at H2
  have K1 := Lib.hid H1
  have K2 := Lib.hid H2
  clear H1 H2 e1 hr
  refine callsIn_of_wp_marks Tryz.func13 rfl trivial ?_ rfl
  simp only [Tryz.ntmps13, List.size_toArray, List.length_cons, List.length_nil, Nat.reduceAdd, Nat.reduceSub, Array.replicate_succ, Array.replicate_zero, List.push_toArray, List.append_toArray, List.nil_append, List.cons_append]
  gi_wp2_with fail
  refine ⟨trivial, (callsIn_wide.2 K1.out).mono ?_⟩
  rintro e w1 ⟨rfl, rfl⟩
  gi_wp2_with fail
  refine ⟨trivial, (callsIn_wide.2 K2.out).mono ?_⟩
  rintro e w1 ⟨rfl, rfl⟩
  gi_wp2_with fail
  refine ⟨trivial, (callsIn_wide.2 (cfirst_two 0 0 w 31 w.heap.size rfl)).mono ?_⟩
  rintro e w1 ⟨rfl, rfl⟩
  have hb1 : Below w.heap.size w (w.alloc (.cells #[.int .i64 0, .int .i64 0] 31)) := (Below.refl _ _).alloc (Nat.le_refl _) _
  generalize w.alloc (.cells #[.int .i64 0, .int .i64 0] 31) = w1 at *
  have hle := hb1.size
  gi_wp2_with (gi_at_make; refine wpListIn_make_own _ rfl _ _ 35 rfl w.heap.size 4 i0 (.bool false) 1 Tryz.underlying35 hi hz0 hz1 _ _ _ N rfl rfl rfl ?b2 ?b3 hle ?_)
  case b2 => rw [hz2]; omega
  case b3 => unfold maxLen; omega
  intro w2 hown0 hgrow0
  have hB2 : Below w.heap.size w w2 := hb1.trans ((gnone hgrow0 (Nat.le_refl _)).mono hb1.size)
  generalize w1.heap.size = G at *
  gi_wp2_with fail
  refine ⟨trivial, (callsIn_wide.2 (valuesOf_any A N c b _)).mono ?_⟩
  rintro e w3 ⟨rfl, rfl⟩
  gi_wp2_with fail
  have hG2 := hgrow0.size
  have bV := Boxed.new w2 35 (.slice (some ⟨G, 0, none⟩) 0 N)
  have bW := Boxed.new (w2.alloc (.cells #[.slice (some ⟨G, 0, none⟩) 0 N] 35)) 39 (.slice A N c)
  have bL := Boxed.new ((w2.alloc (.cells #[.slice (some ⟨G, 0, none⟩) 0 N] 35)).alloc (.cells #[.slice A N c] 39)) 3 (.int .i64 b)
  have hW0 : Below w2.heap.size w2 (((w2.alloc (.cells #[.slice (some ⟨G, 0, none⟩) 0 N] 35)).alloc (.cells #[.slice A N c] 39)).alloc (.cells #[.int .i64 b] 3)) := (((Below.refl _ _).alloc (Nat.le_refl _) _).alloc (by simp) _).alloc (by simp; omega) _
  have bV0 := (bV.alloc (.cells #[.slice A N c] 39)).alloc (.cells #[.int .i64 b] 3)
  have bW0 := bW.alloc (.cells #[.int .i64 b] 3)
  have hown1 := ((hown0.alloc (.cells #[.slice (some ⟨G, 0, none⟩) 0 N] 35)).alloc (.cells #[.slice A N c] 39)).alloc (.cells #[.int .i64 b] 3)
  simp only [World.size_alloc] at bW0 bL
  have hszW : (((w2.alloc (.cells #[.slice (some ⟨G, 0, none⟩) 0 N] 35)).alloc (.cells #[.slice A N c] 39)).alloc (.cells #[.int .i64 b] 3)).heap.size = w2.heap.size + 3 := by simp
  have hBW : Below w.heap.size w (((w2.alloc (.cells #[.slice (some ⟨G, 0, none⟩) 0 N] 35)).alloc (.cells #[.slice A N c] 39)).alloc (.cells #[.int .i64 b] 3)) := hB2.trans (hW0.mono hB2.size)
  have hsz2 := hB2.size
  clear bV bW hW0 hown0 hgrow0
  generalize (((w2.alloc (.cells #[.slice (some ⟨G, 0, none⟩) 0 N] 35)).alloc (.cells #[.slice A N c] 39)).alloc (.cells #[.int .i64 b] 3)) = W0 at *
  generalize w2.heap.size = V at *
  refine wpIn_rangeFunc_ownG rfl h1 (gf := 63) (lb := #[.pointer (some ⟨V + 1, 0, none⟩), .pointer (some ⟨V + 1 + 1, 0, none⟩)]) rfl trivial (enters_of Tryz.func63 (by kernel_rfl) rfl)
    (vals_stops (5 - 1) (by omega) (V + 1) (V + 1 + 1) w.heap.size A N c b ws hb hN hws W0 (by omega) hBW.size bW0.cell bL (h.below hBW)) KpL.trans_ (KpL.put hBW.size (by omega)) (Below.refl _ _) (fun _ => rfl)
    (fun (pre : List Bool) W => (∃ v, Boxed W V 35 v ∧ W.ownsRow w.heap.size 4 1 v pre.length (pre.map boolv) ∧ True) ∧ (Below w.heap.size w W ∧ Boxed W (V + 1 + 1) 3 (.int .i64 b)))
    (fun _ _ _ => False)
    (OwnFrom.and (Own.from (holdsRow_own w.heap.size V 35 4 1 (fun pre : List Bool => pre.length) (fun pre : List Bool => pre.map boolv) (fun _ _ => True)) _) (OwnFrom.and (ownFrom_below (Nat.le_refl _) hBW.size) (fun s X Y row hs hg hr => hs.kept hg (fun e' => by
      obtain ⟨_, o, ho, hc⟩ := hr _ e'.symm
      rw [show X.heap[V + 1 + 1]? = _ from hs] at ho; cases ho; cases hc))))
    (fun _ _ _ _ _ hs _ _ => hs)
    ⟨⟨_, bV0, hown1, trivial⟩, hBW, bL⟩
    (fun x => { tmps := #[.slice A N c, .int .i64 b, undef, undef, .slice none 0 0, .int .i64 0, .int .i64 0, .pointer (some ⟨V, 0, none⟩), .bool x, .slice A N c, .int .i64 0, .int .i64 b, .int .i64 0, .slice (some ⟨w.heap.size, 0, none⟩) 2 2, .int .i64 0, .int .i64 0, .bool false, undef, .slice A N c, .int .i64 N, .slice (some ⟨G, 0, none⟩) 0 N, .slice A N c, .int .i64 b, .func (.func 63) #[] #[.pointer (some ⟨V + 1, 0, none⟩), .pointer (some ⟨V + 1 + 1, 0, none⟩)], .bool x, undef, undef, undef, undef, undef], defers := [] }) ?assign ?body ?done ?stop
  case assign =>
    intro l x W K hK
    gi_wp2
    exact hK
  case body =>
    rintro l pre x W ⟨⟨v, hv, hrow, _⟩, hB, hbl⟩ hlt
    have hc := hv.cell
    gi_wp2_with (gi_at_builtin; refine wpListIn_append_own _ rfl _ _ 35 rfl w.heap.size 4 i0 (.bool false) 1 1 Tryz.underlying35 hi hz0 hz1 hz2 rfl (by decide) _ _ _ rfl (hrow.alloc _) ⟨W.heap.size, 0, none⟩ 1 1 [.bool x] rfl rfl (cell_one_new _ _ _) (by simp [Value.oneCell']) (by unfold maxLen; omega) (by omega) (by have := hB.size; simp; omega) ?_; intro v' w1 hown' hgrow _; obtain ⟨g', cap', rfl⟩ := ownsRow_succ hown'; obtain ⟨hv1, hv2, hr2, hk2, hb2⟩ := hv.appended (by decide) hrow hB.size hsz2 hown' hgrow; have hbl1 := (hbl.alloc (.cells #[.bool x] 4)).kept hgrow (hbl.not_row (by decide) hrow); have hc1 := hv1.cell; have hf1 := hv1.frozen)
    have hbl2 := hbl1.kept (grownBy_setCell' w1 V (.slice (some ⟨g', 0, none⟩) (pre.length + 1) cap')) (by intro e; injection e with e; omega)
    exact ⟨hk2.from _, ⟨hb2, fun _ => hbl2.trans hbl.symm⟩, ⟨_, hv2, by simpa [boolv] using hr2, trivial⟩, hB.trans hb2, hbl2⟩
  case done =>
    rintro D ys W hD rfl ⟨⟨v, hv, hrow, _⟩, hB, hbl⟩ hK
    have hc := hv.cell
    have hlN : (bitL ws b).length = N := by unfold bitL; rw [List.length_map]; exact h.lenM
    rw [hlN] at hrow
    clear hlN
    gi_wp2
    refine ⟨by simp, .inl ⟨_, _, rfl, run_takeDeferred hK, ?_⟩⟩
    exact ⟨_, results_tmp2 rfl _ _ _, v, rfl, ownsRow_putObj hrow _ hK rfl, hB.trans (belowK_b (w := W0) hBW.size W D _ _ hD hK rfl rfl)⟩
  case stop =>
    rintro D c pre W _ _ h _
    exact h.elim

theorem line_ok (A : Option Addr) (N c b : Nat) (ws : List Nat) (w : World) (h : Reads w w.heap.size 1 A N (ws.map u16v)) (hws : ∀ x ∈ ws, x < 65536) (hN : N ≤ 4096) (hb : b < 16) :
    Calls Tryz.prog 13 #[.slice A N c, .int .i64 b] w fun e W' => ∃ v, e = .returned (.tuple #[v, .int .i64 0]) ∧ W'.ownsRow w.heap.size 4 1 v N ((bitL ws b).map boolv) ∧ Below w.heap.size w W' :=
  callsIn_wide.1 (line_in A N c b ws w h hws hN hb)

end Go.Proofs.YthmiamppfncfoaaGreatDoor
