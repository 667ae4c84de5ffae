/- The law of blocks: for all words, blocks and numbers it returns true. -/
import Derived.Test.YtboaojkblmddkaaGreatDoorBkCxBk8
import Derived.Test.YtboaojkblmddkaaGreatDoorCAwj
import Derived.Test.YtboaojkblmddkaaGreatDoorCTog3
import Derived.OpenShut
import Derived.Test.YtboaojkblmddkaaGreatDoorCards
import Derived.Test.YtboaojkblmddkaaGreatDoorTie
import Derived.WalkKit
import Derived.ProofKit
import Derived.Deep.DeepHandedRow
import Derived.Lib.LaidTab
import Derived.Lib.SmallJoins
import Derived.Stop.LaidErr
import Derived.WideKeyArgs
namespace Go.Proofs.YtboaojkblmddkaaGreatDoor
open Go.RowKit

/-- every input: true; nothing that was there has changed -/
theorem blocksLaw_any (A A' : Option Addr) (N c k c' : Nat) (n : Int) (ws WS : List Nat) (w : World) (hT : Tabs w)
    (hw : Reads w w.heap.size 1 A N (ws.map u16v)) (hac : A = none → c = 0)
    (hb : Reads w w.heap.size 16 A' k (WS.map u16v)) (hac' : A' = none → c' = 0) (hk : k ≤ maxLen) :
    Calls Tryz.prog 6 #[.slice A N c, .slice A' k c', .int .i64 n] w fun e w' => e = .returned (.bool true) ∧ Below w.heap.size w w' := by
  by_cases h1 : LenOk N 64
  · cases A' with
    | none =>
      have hl := hb.1
      have h0 : k = 0 := by
        rcases Nat.eq_zero_or_pos k with h | h
        · exact h
        · obtain ⟨ad, e, _⟩ := hb.2 h
          cases e
      subst h0
      obtain rfl := hac' rfl
      exact blocks_none A N c n ws w awake_ok hT hw hac h1
    | some a1 =>
      by_cases h2 : k ≤ 6
      · exact blocks_small A a1 N c k c' n ws WS w awake_ok hT hw hac h1 hb h2
      · by_cases h3 : 256 < k ∧ k ≤ 258
        · exact blocks_large A a1 N c k c' n ws WS w awake_ok hT hw hac h1 hb h3
        · exact blocks_turned A (some a1) N c k c' n w awake_ok hT hk (.inr (by omega))
  · exact blocks_turned A A' N c k c' n w awake_ok hT hk (.inl h1)
end Go.Proofs.YtboaojkblmddkaaGreatDoor

/- Arguments opened: slices of bools and of words, slices of slices of bools. -/
namespace Go.Proofs.YtboaojkblmddkaaGreatDoor
open Go.RowKit Go.WideShapes Go.ChangeShapes Go.Deep

section
variable {H : Type} {enc : TypeId × Value → H} {P : Program} {w : World} {base fuel : Nat} {held : Bool} {t e q : TypeId} {cs : List Value} {x : DataW H × List MemPlace}

theorem trod_bol {spare : Nat → Bool} (ht : P.underlying t = some .bool) (h : DataW.trod enc P w base spare held fuel t cs = some x) : ∃ b : Bool, cs = [.bool b] := by
  cases fuel with
  | zero => simp [DataW.trod] at h
  | succ n =>
    unfold DataW.trod at h
    rw [ht] at h
    split at h <;> simp_all

/-- a slice of bools, read with its spare -/
theorem open_bols (ht : P.underlying t = some (.slice e)) (he : P.underlying e = some .bool) (hc : P.cellsOf e = 1) (h : DataW.trod enc P w base (fun _ => true) held fuel t cs = some x) :
    ∃ (A : Option Addr) (n c : Nat) (l : List Bool), cs = [.slice A n c] ∧ n ≤ c ∧ c ≤ maxLen ∧ (A = none → c = 0) ∧ l.length = n ∧ Reads w w.heap.size 1 A n (l.map boolv) := by
  rcases open_slice1 ht hc h with ⟨rfl, _⟩ | ⟨a, len, cap, m, n, V, D, Pl, rfl, _, hl, hm, hmm, _, hx⟩
  · exact ⟨none, 0, 0, [], rfl, Nat.le_refl _, Nat.zero_le _, fun _ => rfl, rfl, Reads.none_⟩
  · simp only [if_true] at hmm
    subst hmm
    obtain ⟨B, hB⟩ := choose_lt (α := Bool) (p := fun i b => V i = .bool b) (n := m) (fun i hi => by
      obtain ⟨b, hb⟩ := trod_bol he (hx i hi).2
      exact ⟨b, by simpa using hb⟩)
    refine ⟨some a, len, m, (List.range len).map B, rfl, hl, hm, (fun e => by cases e), by simp, by simp, fun hp => ⟨a, rfl, ?_, fun j u hu => ?_⟩⟩
    · have h0 := (hx 0 (by omega)).1
      have := World.block_lt_of_cell? w _ h0
      simpa [block_of_add] using this
    · have hj : j < len := by
        rcases Nat.lt_or_ge j len with h1 | h1
        · exact h1
        · rw [List.getElem?_eq_none (by simpa using h1)] at hu; cases hu
      have e1 := (hx j (by omega)).1
      rw [hB j (by omega)] at e1
      rw [List.getElem?_eq_getElem (by simpa using hj)] at hu
      injection hu with hu
      rw [e1, ← hu]
      simp [boolv]

/-- a slice of slices of bools -/
theorem open_bol_rows (ht : P.underlying t = some (.slice e)) (he : P.underlying e = some (.slice q)) (hq : P.underlying q = some .bool) (ce : P.cellsOf e = 1) (cq : P.cellsOf q = 1)
    (h : DataW.trod enc P w base (fun _ => true) held fuel t cs = some x) :
    ∃ (A : Option Addr) (n c : Nat) (rows : List (List Bool)), cs = [.slice A n c] ∧ n ≤ c ∧ c ≤ maxLen ∧ RowsR boolv w w.heap.size A n rows ∧
      ∀ (ad : Addr) (k L c2 : Nat), A = some ad → k < n → w.cell? (ad.add k) = some (.slice none L c2) → c2 = 0 := by
  rcases open_slice1 ht ce h with ⟨rfl, _⟩ | ⟨a, len, cap, m, n, V, D, Pl, rfl, _, hl, hm, hmm, _, hx⟩
  · exact ⟨none, 0, 0, [], rfl, Nat.le_refl _, Nat.zero_le _, ⟨rfl, [], Reads.none_, fun i hi => absurd hi (by simp)⟩, fun ad k L c2 e => by cases e⟩
  · simp only [if_true] at hmm
    subst hmm
    obtain ⟨y, hy⟩ := choose_lt (α := Option Addr × Nat × Nat × List Bool) (p := fun i y => V i = .slice y.1 y.2.1 y.2.2.1 ∧ y.2.1 ≤ y.2.2.1 ∧ y.2.2.1 ≤ maxLen ∧ (y.1 = none → y.2.2.1 = 0) ∧ y.2.2.2.length = y.2.1 ∧ Reads w w.heap.size 1 y.1 y.2.1 (y.2.2.2.map boolv)) (n := m) (fun i hi => by
      obtain ⟨A, n1, c1, l, h1, h2, h3, h4, h5, h6⟩ := open_bols he hq cq (hx i hi).2
      exact ⟨(A, n1, c1, l), by simpa using h1, h2, h3, h4, h5, h6⟩)
    have hcell : ∀ i, i < len → w.cell? (a.add i) = some (.slice (y i).1 (y i).2.1 (y i).2.2.1) := fun i hi => by
      have e1 := (hx i (by omega)).1
      rw [(hy i (by omega)).1] at e1
      exact e1
    refine ⟨some a, len, m, (List.range len).map fun i => (y i).2.2.2, rfl, hl, hm, ⟨by simp, (List.range len).map fun i => .slice (y i).1 (y i).2.1 (y i).2.2.1, ⟨by simp, fun hp => ⟨a, rfl, ?_, fun j u hu => ?_⟩⟩, fun i hi => ?_⟩, fun ad k L c2 e hk hc2 => ?_⟩
    · have := World.block_lt_of_cell? w _ (hcell 0 (by omega))
      simpa [block_of_add] using this
    · have hj : j < len := by
        rcases Nat.lt_or_ge j len with h1 | h1
        · exact h1
        · rw [List.getElem?_eq_none (by simpa using h1)] at hu; cases hu
      rw [List.getElem?_eq_getElem (by simpa using hj)] at hu
      injection hu with hu
      rw [hcell j hj, ← hu]
      simp
    · have hi' : i < len := by simpa using hi
      obtain ⟨_, h2, h3, _, h5, h6⟩ := hy i (by omega)
      refine ⟨(y i).1, (y i).2.2.1, ?_, ?_, h3, ?_⟩
      · rw [List.getElem?_eq_getElem (by simpa using hi')]
        simp [h5]
      · simpa [h5] using h2
      · simpa [h5] using h6
    · injection e with e
      subst e
      rw [hcell k hk] at hc2
      injection hc2 with hc2
      injection hc2 with h7 h8 h9
      have := (hy k (by omega)).2.2.2.1 h7
      omega

end
end Go.Proofs.YtboaojkblmddkaaGreatDoor

/- Arguments opened: a slice of words. -/
namespace Go.Proofs.YtboaojkblmddkaaGreatDoor
open Go.RowKit Go.WideShapes Go.ChangeShapes Go.Deep

section
variable {H : Type} {enc : TypeId × Value → H} {P : Program} {w : World} {base fuel : Nat} {held : Bool} {t e q : TypeId} {cs : List Value} {x : DataW H × List MemPlace}

theorem trod_u16 {spare : Nat → Bool} (ht : P.underlying t = some (.int .u16)) (h : DataW.trod enc P w base spare held fuel t cs = some x) : ∃ b : Nat, b < 65536 ∧ cs = [.int .u16 (b : Int)] := by
  obtain ⟨n0, hc, _, hwf⟩ := DataW.trod_int ht h
  have hw : (decide (IntKind.u16.min ≤ n0) && decide (n0 ≤ IntKind.u16.max)) = true := hwf
  have h1 : IntKind.u16.min = 0 := by decide
  have h2 : IntKind.u16.max = 65535 := by decide
  rw [h1, h2] at hw
  simp only [Bool.and_eq_true, decide_eq_true_eq] at hw
  exact ⟨n0.toNat, by omega, by rw [hc]; congr 2; omega⟩

/-- a slice of words, read with its spare -/
theorem open_u16s (ht : P.underlying t = some (.slice e)) (he : P.underlying e = some (.int .u16)) (hc : P.cellsOf e = 1) (h : DataW.trod enc P w base (fun _ => true) held fuel t cs = some x) :
    ∃ (A : Option Addr) (n c : Nat) (l : List Nat), cs = [.slice A n c] ∧ n ≤ c ∧ c ≤ maxLen ∧ (A = none → c = 0) ∧ l.length = n ∧ (∀ x ∈ l, x < 65536) ∧ Reads w w.heap.size 1 A n (l.map u16v) := by
  rcases open_slice1 ht hc h with ⟨rfl, _⟩ | ⟨a, len, cap, m, n, V, D, Pl, rfl, _, hl, hm, hmm, _, hx⟩
  · exact ⟨none, 0, 0, [], rfl, Nat.le_refl _, Nat.zero_le _, fun _ => rfl, rfl, (fun x h => by cases h), Reads.none_⟩
  · simp only [if_true] at hmm
    subst hmm
    obtain ⟨B, hB⟩ := choose_lt (α := Nat) (p := fun i b => V i = .int .u16 (b : Int) ∧ b < 65536) (n := m) (fun i hi => by
      obtain ⟨b, hlt, hb⟩ := trod_u16 he (hx i hi).2
      exact ⟨b, by simpa using hb, hlt⟩)
    refine ⟨some a, len, m, (List.range len).map B, rfl, hl, hm, (fun e => by cases e), by simp, (fun x h => by obtain ⟨i, hi, rfl⟩ := List.mem_map.1 h; exact (hB i (by have := List.mem_range.1 hi; omega)).2), by simp, fun hp => ⟨a, rfl, ?_, fun j u hu => ?_⟩⟩
    · have h0 := (hx 0 (by omega)).1
      have := World.block_lt_of_cell? w _ h0
      simpa [block_of_add] using this
    · have hj : j < len := by
        rcases Nat.lt_or_ge j len with h1 | h1
        · exact h1
        · rw [List.getElem?_eq_none (by simpa using h1)] at hu; cases hu
      have e1 := (hx j (by omega)).1
      rw [(hB j (by omega)).1] at e1
      rw [List.getElem?_eq_getElem (by simpa using hj)] at hu
      injection hu with hu
      rw [e1, ← hu]
      simp [u16v]

end
end Go.Proofs.YtboaojkblmddkaaGreatDoor

/- Arguments opened: a slice of blocks of sixteen words. -/
namespace Go.Proofs.YtboaojkblmddkaaGreatDoor
open Go.RowKit Go.WideShapes Go.ChangeShapes Go.Deep

section
variable {H : Type} {enc : TypeId × Value → H} {P : Program} {w : World} {base fuel : Nat} {held : Bool} {t e q : TypeId} {cs : List Value} {x : DataW H × List MemPlace}

/-- a slice of blocks of words, read with its spare -/
theorem open_blks (ht : P.underlying t = some (.slice e)) (he : P.underlying e = some (.array 16 q)) (hq : P.underlying q = some (.int .u16)) (ce : P.cellsOf e = 16) (cq : P.cellsOf q = 1)
    (h : DataW.trod enc P w base (fun _ => true) held fuel t cs = some x) :
    ∃ (A : Option Addr) (n c : Nat) (WS : List Nat), cs = [.slice A n c] ∧ n ≤ c ∧ c ≤ maxLen ∧ (A = none → c = 0) ∧ Reads w w.heap.size 16 A n (WS.map u16v) := by
  rcases open_slice ht h with ⟨rfl, _⟩ | ⟨a, len, cap, m, f, D, Pl, rfl, _, hl, hm, hmm, _, hx⟩
  · exact ⟨none, 0, 0, [], rfl, Nat.le_refl _, Nat.zero_le _, fun _ => rfl, Reads.none_⟩
  · simp only [if_true] at hmm
    subst hmm
    rw [ce] at hx
    obtain ⟨Y, hY⟩ := choose_lt (α := Nat → Nat) (p := fun i y => ∀ j, j < 16 → w.cell? ((a.add (i * 16)).add j) = some (u16v (y j))) (n := m) (fun i hi => by
      obtain ⟨cs', h1, h2⟩ := hx i hi
      obtain ⟨_, hlen, hcell⟩ := World.cells?_some h1
      obtain ⟨xs, k, _, _, _, hxl, hat⟩ := DataW.trod_array he h2
      obtain ⟨y, hy⟩ := choose_lt (α := Nat) (p := fun j b => cs'[j]? = some (u16v b)) (n := 16) (fun j hj => by
        have h3 := hat j hj
        rw [List.getElem?_eq_getElem (by omega)] at h3
        obtain ⟨b, _, hb⟩ := trod_u16 hq h3
        rw [cq, Nat.mul_one] at hb
        refine ⟨b, ?_⟩
        have h4 : ((cs'.drop j).take 1)[0]? = some (u16v b) := by rw [hb]; rfl
        rw [List.getElem?_take, if_pos (by decide), List.getElem?_drop, Nat.add_zero] at h4
        exact h4)
      exact ⟨y, fun j hj => (hcell j hj).trans (hy j hj)⟩)
    refine ⟨some a, len, m, (List.range (len * 16)).map fun p => Y (p / 16) (p % 16), rfl, hl, hm, (fun e => by cases e), by simp, fun hp => ⟨a, rfl, ?_, fun j u hu => ?_⟩⟩
    · have h0 := hY 0 (by omega) 0 (by omega)
      have := World.block_lt_of_cell? w _ h0
      simpa [block_of_add] using this
    · have hj : j < len * 16 := by
        rcases Nat.lt_or_ge j (len * 16) with h1 | h1
        · exact h1
        · rw [List.getElem?_eq_none (by simpa using h1)] at hu; cases hu
      rw [List.getElem?_eq_getElem (by simpa using hj)] at hu
      injection hu with hu
      have h1 := hY (j / 16) (by omega) (j % 16) (Nat.mod_lt _ (by omega))
      rw [add_of_add, show j / 16 * 16 + j % 16 = j from by omega] at h1
      rw [h1, ← hu]
      simp
end
end Go.Proofs.YtboaojkblmddkaaGreatDoor

/- For every input ProbeBlocks returns true and leaves its arguments as they were, in every world in which the five package-level variables that its row lists (three tables, two errors) hold what the program's text lays in them. Said, and its tied card. -/
namespace Go.Proofs.YtboaojkblmddkaaGreatDoor.blockslaw
open Go.ChangeShapes Go.WideShapes Go.ChangeAt Go.RowKit Go.Deep

theorem own : ownKnob Tryz.prog.godebug = none := by kernel_rfl
theorem laidOut : laidOutB Tryz.prog = true := by kernel_rfl
theorem cellsR : Tryz.prog.cellsOf 22 = 1 := by kernel_rfl
theorem cellsUs : Tryz.prog.cellsOf 63 = 1 := by kernel_rfl
theorem cellsBk : Tryz.prog.cellsOf 64 = 16 := by kernel_rfl
theorem cellsF : Tryz.prog.cellsOf 23 = 1 := by kernel_rfl
theorem cellsB : Tryz.prog.cellsOf 5 = 1 := by kernel_rfl
theorem cellsU : Tryz.prog.cellsOf 199 = 1 := by kernel_rfl
theorem gTz : Tryz.prog.globalNamed "math/bits.deBruijn64tab" = some 2 := by kernel_rfl
theorem gPow : Tryz.prog.globalNamed "internal/strconv.uint64pow10" = some 5 := by kernel_rfl

set_option maxRecDepth 100000 in
theorem tabs {W : World} (h : laidMetH Tryz.prog Rows.probeBlocksRow.laid W) (hs : W.ShapedOpen Tryz.prog) : Tabs W := by
  have h1 : laidMet Tryz.prog Rows.probeBlocksRow.laid W := h
  have h2 := laidMet.tail h1
  have h3 := laidMet.tail h2
  have t2 : Lib.TabIs Tryz.prog W "math/bits.deBruijn64tab" .u8 (Lib.deBruijn64tab.map fun (n : Nat) => (n : Int)) :=
    Lib.tabIs_of_head gTz (by kernel_rfl) Tryz.underlying263 Tryz.underlying5 cellsB (by kernel_rfl) h2
  have t3 : Lib.TabIs Tryz.prog W "internal/strconv.uint64pow10" .u64 Lib.pow10Tab :=
    Lib.tabIs_of_head gPow (by kernel_rfl) Tryz.underlying272 Tryz.underlying199 cellsU (by kernel_rfl) h3
  refine ⟨fun j hj => ?_, t3, ?_⟩
  · have := t2.cell gTz j (by simpa using hj)
    rw [this]
    simp [List.getD, List.getElem?_map, List.getElem?_eq_getElem hj]
  · exact cell_of_shapedOpen_int (zero := #[.int .i64 0]) (t := 3) hs (of_decide_eq_true (by kernel_rfl)) (by kernel_rfl) rfl (by kernel_rfl) (by kernel_rfl) Tryz.underlying3

set_option maxRecDepth 100000 in
theorem contract (H : Type) (enc : TypeId × Value → H) (W : World) (base : Nat) (args : Array Value) (ds gs : List (DataW H)) (before : List MemPlace)
    (hval : ∀ (j : Nat) t v, Tryz.f6.params[j]? = some t → args[j]? = some v → Value.okWide Tryz.prog W .any base t v)
    (hW : DataW.Whole enc Tryz.prog Tryz.f6.params.toList Rows.probeBlocksSpec.vars false W args.toList ds gs before) (hL : laidMetH Tryz.prog Rows.probeBlocksRow.laid W) (hS : W.ShapedOpen Tryz.prog) :
    Calls Tryz.prog 6 args W fun e W' => ∃ v, e = .returned v ∧ Rows.probeBlocksSpec.post enc Tryz.prog Tryz.f6 false true false false W args v W' := by
  have hW' := hW
  obtain ⟨p, q, hA0, hV, rfl, hfz, hnd⟩ := hW
  have hA : DataW.TrodAll enc Tryz.prog W 0 (fun _ => true) true Tryz.f6.params.toList args.toList ds p := hA0
  rw [Tryz.params6] at hA hval
  obtain ⟨v0, vs0, d0, ds0, p0, q0, hargs, rfl, rfl, h0, r0⟩ := trodAll_cons hA
  obtain ⟨v1, vs1, d1, ds1, p1, q1, rfl, rfl, rfl, h1, r1⟩ := trodAll_cons r0
  obtain ⟨v2, vs2, d2, ds2, p2, q2, rfl, rfl, rfl, h2, r2⟩ := trodAll_cons r1
  obtain ⟨rfl, rfl, rfl⟩ := trodAll_nil r2
  obtain rfl : args = #[v0, v1, v2] := by cases args; simp_all
  obtain ⟨rfl, rfl⟩ := trodVars_none hV
  obtain ⟨A, n, c, rfl⟩ := okWide_slice Tryz.underlying51 (hval 0 51 v0 rfl rfl)
  obtain ⟨A', N, c', rfl⟩ := okWide_slice Tryz.underlying62 (hval 1 62 v1 rfl rfl)
  obtain ⟨k, rfl⟩ := okWide_int Tryz.underlying3 (hval 2 3 v2 rfl rfl)
  obtain ⟨m0, hf0⟩ := id h0
  obtain ⟨B0, k0, e0, ws, he0, hke, hm0, hnc, _, _, hrd⟩ := open_u16s Tryz.underlying51 Tryz.underlying63 cellsUs hf0
  simp only [Value.cells, List.cons.injEq, Value.slice.injEq, and_true] at he0
  obtain ⟨rfl, rfl, rfl⟩ := he0
  obtain ⟨m1, hf1⟩ := id h1
  obtain ⟨B1, k1, e1, WS, he1, hke1, hm1, hnc1, hrd1⟩ := open_blks Tryz.underlying62 Tryz.underlying64 Tryz.underlying63 cellsBk cellsUs hf1
  simp only [Value.cells, List.cons.injEq, Value.slice.injEq, and_true] at he1
  obtain ⟨rfl, rfl, rfl⟩ := he1
  have walk := blocksLaw_any A A' n c N c' k ws WS W (tabs hL hS) hrd hnc hrd1 hnc1 (by omega)
  have hlt : ∀ x ∈ p0 ++ (p1 ++ (p2 ++ [])) ++ [], x.block < W.heap.size := fun x hx => hW'.lt x hx
  refine walk.mono fun e W' ⟨he, hb⟩ => ?_
  subst he
  have st : ∀ (t : TypeId) (v : Value) (d : DataW H) (ps : List MemPlace) (sp : Nat → Bool), Tryz.prog.readableRec t = true → t < Tryz.prog.types.size → DataW.Trod enc Tryz.prog W 0 (fun _ => true) true t v d ps →
      (∀ x ∈ ps, x.block < W.heap.size) → (∀ x ∈ ps, sp x.block = true) → DataW.Trod enc Tryz.prog W' 0 sp true t v d ps := fun t v d ps sp hr hrow h hl hs =>
    WideElems.Trod_stays laidOut hr hrow h (fun x hx => hb.same (hl x hx)) hs
  refine ⟨_, rfl, post_below (pa := p0 ++ (p1 ++ (p2 ++ []))) (pv := []) hW' (fun _ _ _ => trodAll_cons_mk (shut_bool Tryz.underlying4 _) trodAll_mk0) (fun sp hsp => ?_) (fun _ _ => rfl) rfl hb (ok_one (by kernel_rfl) rfl (okWide_bool_mk Tryz.underlying4 _))⟩
  refine trodAll_cons_mk (st _ _ _ _ sp (by kernel_rfl) (of_decide_eq_true (by kernel_rfl)) h0 (fun x hx => hlt x (by simp [hx])) (fun x hx => hsp x (by simp [hx]))) ?_
  refine trodAll_cons_mk (st _ _ _ _ sp (by kernel_rfl) (of_decide_eq_true (by kernel_rfl)) h1 (fun x hx => hlt x (by simp [hx])) (fun x hx => hsp x (by simp [hx]))) ?_
  exact trodAll_cons_mk (st _ _ _ _ sp (by kernel_rfl) (of_decide_eq_true (by kernel_rfl)) h2 (fun x hx => hlt x (by simp [hx])) (fun x hx => hsp x (by simp [hx]))) trodAll_mk0

/-- a world for the witness: the settled one, the three tables as their initialisers lay them -/
def cellsOver (cs : Array Value) : Obj → Obj
  | .cells _ t frozen => .cells cs t frozen
  | o => o
def tab32 : List Nat := [0, 1, 28, 2, 29, 14, 24, 3, 30, 22, 20, 15, 25, 17, 4, 8, 31, 27, 13, 23, 21, 19, 16, 7, 26, 12, 18, 6, 11, 5, 10, 9]
noncomputable def low : Nat := (World.holding Tryz.prog default ⟨#[], #[], []⟩).heap.size
noncomputable def laidWorld (os : Os) : World :=
  { (World.holding Tryz.prog os ⟨#[.cells #[.string { data := #[118, 97, 108, 117, 101, 32, 111, 117, 116, 32, 111, 102, 32, 114, 97, 110, 103, 101] }] 286, .cells #[.string { data := #[105, 110, 118, 97, 108, 105, 100, 32, 115, 121, 110, 116, 97, 120] }] 286], #[], []⟩) with heap := ((((((World.holding Tryz.prog os ⟨#[.cells #[.string { data := #[118, 97, 108, 117, 101, 32, 111, 117, 116, 32, 111, 102, 32, 114, 97, 110, 103, 101] }] 286, .cells #[.string { data := #[105, 110, 118, 97, 108, 105, 100, 32, 115, 121, 110, 116, 97, 120] }] 286], #[], []⟩).heap.modify 8 (cellsOver (tab32.map fun (n : Nat) => Value.int .u8 (n : Int)).toArray)).modify 2 (cellsOver (Lib.deBruijn64tab.map fun (n : Nat) => Value.int .u8 (n : Int)).toArray)).modify 5 (cellsOver (Lib.pow10Tab.map fun n => Value.int .u64 n).toArray)).modify 7 (cellsOver #[.iface 284 (.pointer (some ⟨low, 0, none⟩))])).modify 6 (cellsOver #[.iface 284 (.pointer (some ⟨low + 1, 0, none⟩))])) }
def wargs : Array Value := #[.slice none 0 0, .slice none 0 0, .int .i64 0]
set_option maxRecDepth 100000 in
theorem laid_met (os : Os) : laidMet Tryz.prog Rows.probeBlocksRow.laid ((laidWorld os).forCall (fun _ _ => 0) ⟨#[], wargs, []⟩).memory :=
  laidMet_of_run' 8 (by kernel_rfl) (by kernel_rfl)
set_option maxRecDepth 100000 in
theorem reads (os : Os) {H : Type} (enc : TypeId × Value → H) : ∃ places, DataW.whole enc Tryz.prog ((laidWorld os).forCall (fun _ _ => 0) ⟨#[], wargs, []⟩).memory Tryz.f6.params.toList Rows.probeBlocksSpec.vars false wargs.toList 8 = some ([.nil, .nil, .lit (.int .i64 0)], [], places) :=
  ⟨[], by kernel_rfl⟩

set_option maxRecDepth 100000 in
theorem lifted (os : Os) (started : os.Started) (H : Type) (enc : TypeId × Value → H) (F : Stop.Interp) :
    ReturnsInHanded {} Tryz.checked os 6 .any ((OpenSpec.ofChange Rows.probeBlocksSpec).preRow enc Tryz.prog Tryz.f6 Rows.probeBlocksRow.domain false Rows.probeBlocksRow.laid) (((OpenSpec.ofChange Rows.probeBlocksSpec).at F).post enc Tryz.prog Tryz.f6 false true false false) := by
  obtain ⟨places, hx⟩ := reads os enc
  refine returnsInHanded_of_row (C := Tryz.checked) (s := OpenSpec.ofChange Rows.probeBlocksSpec) own started (by kernel_rfl) Tryz.func6
    (witness_row_at (enc := enc) (C := Tryz.checked) false (laidWorld os) wargs rfl (by kernel_rfl) (by kernel_rfl) (by kernel_rfl)
      (OpenSpec.preRow_of_cond 8 hx (by kernel_rfl) (fun k hk => by cases hk) (by kernel_rfl) (laid_met os))) ?_
  intro W base args ds gs before hval hW _ _ _ hL hS _
  exact contract H enc W base args ds gs before hval hW hL hS

theorem said : Rows.ProbeBlocksSaid :=
  OpenClaim.holds_of_cond 6 Tryz.f6 rfl rfl rfl rfl rfl rfl rfl ⟨rfl, rfl, rfl, rfl, rfl⟩ rfl rfl rfl rfl rfl (by kernel_rfl) Tryz.func6 (by kernel_rfl)
    (of_decide_eq_true (by kernel_rfl)) (by unfold Func.isWrapper; first | (rw [if_pos (by decide +kernel)]; kernel_rfl) | (rw [if_neg (by decide +kernel)]; exact ⟨rfl, rfl⟩))
    (fun os started H enc _ F => by rw [OpenClaim.pre_eq_preRow]; exact lifted os started H enc F)

theorem plain (f : FuncId) (fn : Func) (hf : Tryz.pinned.checked.prog.funcNamed "strobe/strobelaw02.ProbeBlocks" = some f) (hfn : Tryz.pinned.checked.prog.funcs[f]? = some fn) :
    true = Tryz.pinned.checked.prog.looks [] ∧ ∀ (j : Nat) t, fn.params[j]? = some t → Tryz.pinned.checked.prog.wantsStandIn t = false := by
  obtain rfl : f = 6 := Option.some.inj ((show Tryz.prog.funcNamed "strobe/strobelaw02.ProbeBlocks" = some 6 by kernel_rfl).symm.trans hf) |>.symm
  obtain rfl : fn = Tryz.f6 := (Option.some.inj (Tryz.func6.symm.trans hfn)).symm
  refine ⟨by kernel_rfl, fun j t ht => ?_⟩
  rw [Tryz.params6] at ht
  have hm := Array.mem_of_getElem? ht
  simp at hm
  rcases hm with rfl | rfl | rfl
  · exact (show Tryz.prog.wantsStandIn 51 = false by kernel_rfl)
  · exact (show Tryz.prog.wantsStandIn 62 = false by kernel_rfl)
  · exact (show Tryz.prog.wantsStandIn 3 = false by kernel_rfl)

/-- THE CARD -/
theorem card : Rows.ProbeBlocksCardSaid :=
  Claim7.holds_tied_plain_at .later [] _ _ _ _ said (fun _ h => by cases h) (by kernel_rfl) (fun _ h => by cases h) probeBlocks_row_tie rfl ⟨rfl, rfl⟩ (by kernel_rfl) rfl plain (by kernel_rfl)
end Go.Proofs.YtboaojkblmddkaaGreatDoor.blockslaw
