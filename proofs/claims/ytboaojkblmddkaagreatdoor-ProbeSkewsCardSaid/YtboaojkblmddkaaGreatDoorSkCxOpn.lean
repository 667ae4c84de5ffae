/- Arguments opened: a slice of ints, a slice of slices of singles, a struct of two singles. -/
import Derived.Test.YtboaojkblmddkaaGreatDoorCCode
import Derived.Deep.Slices
import Derived.ChangeArms
import Derived.ChangeSlices
import Derived.ChangeSame
import Derived.OpenShut
import Derived.Deep.MidRow
import Derived.Test.YtboaojkblmddkaaGreatDoorCRf1
import Derived.Test.YtboaojkblmddkaaGreatDoorCAwb
import Derived.Test.YtboaojkblmddkaaGreatDoorCAw8
import Derived.Test.YtboaojkblmddkaaGreatDoorCEx2
import Derived.Deep.LoopGhost
import Derived.Test.YtboaojkblmddkaaGreatDoorCUnp
import Derived.Test.YtboaojkblmddkaaGreatDoorCAwc
import Derived.Test.YtboaojkblmddkaaGreatDoorCAd2
namespace Go.Proofs.YtboaojkblmddkaaGreatDoor
open Go.RowKit Go.WideShapes Go.ChangeShapes Go.Deep

section
variable {H : Type} {enc : TypeId × Value → H} {P : Program} {w : World} {base fuel : Nat} {held : Bool} {t e q : TypeId} {cs : List Value} {x : DataW H × List MemPlace}

theorem trod_f32 {spare : Nat → Bool} (ht : P.underlying t = some (.float .f32)) (h : DataW.trod enc P w base spare held fuel t cs = some x) : ∃ b : Nat, cs = [.float .f32 b] := by
  cases fuel with
  | zero => simp [DataW.trod] at h
  | succ n =>
    unfold DataW.trod at h
    rw [ht] at h
    split at h <;> simp_all

/-- a slice of singles, read with its spare -/
theorem open_f32s (ht : P.underlying t = some (.slice e)) (he : P.underlying e = some (.float .f32)) (hc : P.cellsOf e = 1) (h : DataW.trod enc P w base (fun _ => true) held fuel t cs = some x) :
    ∃ (A : Option Addr) (n c : Nat) (l : List Nat), cs = [.slice A n c] ∧ n ≤ c ∧ c ≤ maxLen ∧ (A = none → c = 0) ∧ l.length = n ∧ Reads w w.heap.size 1 A n (l.map f32v) := by
  rcases open_slice1 ht hc h with ⟨rfl, _⟩ | ⟨a, len, cap, m, n, V, D, Pl, rfl, _, hl, hm, hmm, _, hx⟩
  · exact ⟨none, 0, 0, [], rfl, Nat.le_refl _, Nat.zero_le _, fun _ => rfl, rfl, Reads.none_⟩
  · simp only [if_true] at hmm
    subst hmm
    obtain ⟨B, hB⟩ := choose_lt (α := Nat) (p := fun i b => V i = .float .f32 b) (n := m) (fun i hi => by
      obtain ⟨b, hb⟩ := trod_f32 he (hx i hi).2
      exact ⟨b, by simpa using hb⟩)
    refine ⟨some a, len, m, (List.range len).map B, rfl, hl, hm, (fun e => by cases e), by simp, by simp, fun hp => ⟨a, rfl, ?_, fun j u hu => ?_⟩⟩
    · have h0 := (hx 0 (by omega)).1
      have := World.block_lt_of_cell? w _ h0
      simpa [block_of_add] using this
    · have hj : j < len := by
        rcases Nat.lt_or_ge j len with h1 | h1
        · exact h1
        · rw [List.getElem?_eq_none (by simpa using h1)] at hu; cases hu
      have e1 := (hx j (by omega)).1
      rw [hB j (by omega)] at e1
      rw [List.getElem?_eq_getElem (by simpa using hj)] at hu
      injection hu with hu
      rw [e1, ← hu]
      simp [f32v]

/-- a slice of slices of singles -/
theorem open_f32_rows (ht : P.underlying t = some (.slice e)) (he : P.underlying e = some (.slice q)) (hq : P.underlying q = some (.float .f32)) (ce : P.cellsOf e = 1) (cq : P.cellsOf q = 1)
    (h : DataW.trod enc P w base (fun _ => true) held fuel t cs = some x) :
    ∃ (A : Option Addr) (n c : Nat) (rows : List (List Nat)), cs = [.slice A n c] ∧ n ≤ c ∧ c ≤ maxLen ∧ RowsR f32v w w.heap.size A n rows ∧
      ∀ (ad : Addr) (k L c2 : Nat), A = some ad → k < n → w.cell? (ad.add k) = some (.slice none L c2) → c2 = 0 := by
  rcases open_slice1 ht ce h with ⟨rfl, _⟩ | ⟨a, len, cap, m, n, V, D, Pl, rfl, _, hl, hm, hmm, _, hx⟩
  · exact ⟨none, 0, 0, [], rfl, Nat.le_refl _, Nat.zero_le _, ⟨rfl, [], Reads.none_, fun i hi => absurd hi (by simp)⟩, fun ad k L c2 e => by cases e⟩
  · simp only [if_true] at hmm
    subst hmm
    obtain ⟨y, hy⟩ := choose_lt (α := Option Addr × Nat × Nat × List Nat) (p := fun i y => V i = .slice y.1 y.2.1 y.2.2.1 ∧ y.2.1 ≤ y.2.2.1 ∧ y.2.2.1 ≤ maxLen ∧ (y.1 = none → y.2.2.1 = 0) ∧ y.2.2.2.length = y.2.1 ∧ Reads w w.heap.size 1 y.1 y.2.1 (y.2.2.2.map f32v)) (n := m) (fun i hi => by
      obtain ⟨A, n1, c1, l, h1, h2, h3, h4, h5, h6⟩ := open_f32s he hq cq (hx i hi).2
      exact ⟨(A, n1, c1, l), by simpa using h1, h2, h3, h4, h5, h6⟩)
    have hcell : ∀ i, i < len → w.cell? (a.add i) = some (.slice (y i).1 (y i).2.1 (y i).2.2.1) := fun i hi => by
      have e1 := (hx i (by omega)).1
      rw [(hy i (by omega)).1] at e1
      exact e1
    refine ⟨some a, len, m, (List.range len).map fun i => (y i).2.2.2, rfl, hl, hm, ⟨by simp, (List.range len).map fun i => .slice (y i).1 (y i).2.1 (y i).2.2.1, ⟨by simp, fun hp => ⟨a, rfl, ?_, fun j u hu => ?_⟩⟩, fun i hi => ?_⟩, fun ad k L c2 e hk hc2 => ?_⟩
    · have := World.block_lt_of_cell? w _ (hcell 0 (by omega))
      simpa [block_of_add] using this
    · have hj : j < len := by
        rcases Nat.lt_or_ge j len with h1 | h1
        · exact h1
        · rw [List.getElem?_eq_none (by simpa using h1)] at hu; cases hu
      rw [List.getElem?_eq_getElem (by simpa using hj)] at hu
      injection hu with hu
      rw [hcell j hj, ← hu]
      simp
    · have hi' : i < len := by simpa using hi
      obtain ⟨_, h2, h3, _, h5, h6⟩ := hy i (by omega)
      refine ⟨(y i).1, (y i).2.2.1, ?_, ?_, h3, ?_⟩
      · rw [List.getElem?_eq_getElem (by simpa using hi')]
        simp [h5]
      · simpa [h5] using h2
      · simpa [h5] using h6
    · injection e with e
      subst e
      rw [hcell k hk] at hc2
      injection hc2 with hc2
      injection hc2 with h7 h8 h9
      have := (hy k (by omega)).2.2.2.1 h7
      omega

/-- a slice of ints -/
theorem open_i64s (ht : P.underlying t = some (.slice e)) (he : P.underlying e = some (.int .i64)) (hc : P.cellsOf e = 1) (h : DataW.trod enc P w base (fun _ => true) held fuel t cs = some x) :
    ∃ (A : Option Addr) (n c : Nat) (l : List Int), cs = [.slice A n c] ∧ n ≤ c ∧ c ≤ maxLen ∧ Reads w w.heap.size 1 A n (l.map i64v) := by
  rcases open_ints ht he hc h with ⟨rfl, _⟩ | ⟨a, len, cap, zs, rfl, _, hl, hm, hz, _, hcell, _⟩
  · exact ⟨none, 0, 0, [], rfl, Nat.le_refl _, Nat.zero_le _, Reads.none_⟩
  · simp only [if_true] at hz
    refine ⟨some a, len, cap, zs.take len, rfl, hl, hm, by simp; omega, fun hp => ⟨a, rfl, ?_, fun j u hu => ?_⟩⟩
    · have := World.block_lt_of_cell? w _ (hcell 0 (by omega))
      simpa [block_of_add] using this
    · have hj : j < len := by
        rcases Nat.lt_or_ge j len with h1 | h1
        · exact h1
        · rw [List.getElem?_eq_none (by simp; omega)] at hu; cases hu
      rw [List.getElem?_eq_getElem (by simp; omega)] at hu
      injection hu with hu
      rw [hcell j (by omega), ← hu]
      simp [i64v, List.getD, List.getElem?_eq_getElem (show j < zs.length by omega)]
end

section
variable {H : Type} {enc : TypeId × Value → H} {P : Program}
/-- what a row's post asks, of a call that returns plain data and changes nothing that was there -/
theorem post_below {f : Func} {s : ChangeSpec} {apart fresh handsOn again : Bool} {W W' : World} {args : Array Value} {v : Value} {ds gs : List (DataW H)} {before pa pv : List MemPlace}
    (hW : DataW.Whole enc P f.params.toList s.vars apart W args.toList ds gs before)
    (hres : ∀ (b : Nat) (sp : Nat → Bool) (hd : Bool), DataW.TrodAll enc P W' b sp hd f.resultTypes.toList (v.resultList f.resultTypes.size) (s.fn H (ds ++ gs)).results [])
    (hargs : ∀ sp : Nat → Bool, (∀ p ∈ before, sp p.block = true) → DataW.TrodAll enc P W' 0 sp true f.params.toList args.toList (s.fn H (ds ++ gs)).args pa)
    (hvars : ∀ sp : Nat → Bool, (∀ p ∈ before, sp p.block = true) → DataW.TrodVars enc P W' sp s.vars (s.fn H (ds ++ gs)).vars pv)
    (hps : before = pa ++ pv) (hb : Below W.heap.size W W')
    (hok : ∀ (j : Nat) (t : TypeId) (r : Value), f.resultTypes[j]? = some t → (v.resultList f.resultTypes.size)[j]? = some r → Value.okWide P W' .any 0 t r) :
    s.post enc P f apart fresh handsOn again W args v W' := by
  have lt : ∀ p ∈ before, p.block < W.heap.size := fun p hp => hW.lt p hp
  obtain ⟨_, _, _, _, _, hz, hn⟩ := id hW
  refine ⟨ds, gs, before, [], pa, pv, hW, hres _ _ _, hargs _ (fun p hp => by simpa using lt p hp), hvars _ (fun p hp => by simpa using lt p hp), World.keptBut_mono (fun p hp => ⟨hp, ?_⟩) (hb.frame (· ∈ before)), fun _ => ⟨hok, _, _, ([] ++ pa) ++ pv, ⟨[] ++ pa, pv, trodAll_append (hargs _ (fun _ _ => rfl)) (hres _ _ _), hvars _ (fun _ _ => rfl), rfl, ?_, ?_⟩, ?_⟩⟩
  · exact Or.inr (by rw [hps, List.mem_append] at hp; exact hp)
  · intro b off hp
    have hin : MemPlace.cell b off ∈ before := by rw [hps]; simpa using hp
    rw [hb.frozen (lt _ hin)]
    exact hz b off hin
  · intro ha
    have h1 := hn ha
    rw [hps] at h1
    simpa using h1
  · intro p hp _
    rw [hps]
    simpa using hp
end
end Go.Proofs.YtboaojkblmddkaaGreatDoor

/- Arguments opened: slices of bools and of words, slices of slices of bools. -/
namespace Go.Proofs.YtboaojkblmddkaaGreatDoor
open Go.RowKit Go.WideShapes Go.ChangeShapes Go.Deep

section
variable {H : Type} {enc : TypeId × Value → H} {P : Program} {w : World} {base fuel : Nat} {held : Bool} {t e q : TypeId} {cs : List Value} {x : DataW H × List MemPlace}

theorem trod_bol {spare : Nat → Bool} (ht : P.underlying t = some .bool) (h : DataW.trod enc P w base spare held fuel t cs = some x) : ∃ b : Bool, cs = [.bool b] := by
  cases fuel with
  | zero => simp [DataW.trod] at h
  | succ n =>
    unfold DataW.trod at h
    rw [ht] at h
    split at h <;> simp_all

/-- a slice of bools, read with its spare -/
theorem open_bols (ht : P.underlying t = some (.slice e)) (he : P.underlying e = some .bool) (hc : P.cellsOf e = 1) (h : DataW.trod enc P w base (fun _ => true) held fuel t cs = some x) :
    ∃ (A : Option Addr) (n c : Nat) (l : List Bool), cs = [.slice A n c] ∧ n ≤ c ∧ c ≤ maxLen ∧ (A = none → c = 0) ∧ l.length = n ∧ Reads w w.heap.size 1 A n (l.map boolv) := by
  rcases open_slice1 ht hc h with ⟨rfl, _⟩ | ⟨a, len, cap, m, n, V, D, Pl, rfl, _, hl, hm, hmm, _, hx⟩
  · exact ⟨none, 0, 0, [], rfl, Nat.le_refl _, Nat.zero_le _, fun _ => rfl, rfl, Reads.none_⟩
  · simp only [if_true] at hmm
    subst hmm
    obtain ⟨B, hB⟩ := choose_lt (α := Bool) (p := fun i b => V i = .bool b) (n := m) (fun i hi => by
      obtain ⟨b, hb⟩ := trod_bol he (hx i hi).2
      exact ⟨b, by simpa using hb⟩)
    refine ⟨some a, len, m, (List.range len).map B, rfl, hl, hm, (fun e => by cases e), by simp, by simp, fun hp => ⟨a, rfl, ?_, fun j u hu => ?_⟩⟩
    · have h0 := (hx 0 (by omega)).1
      have := World.block_lt_of_cell? w _ h0
      simpa [block_of_add] using this
    · have hj : j < len := by
        rcases Nat.lt_or_ge j len with h1 | h1
        · exact h1
        · rw [List.getElem?_eq_none (by simpa using h1)] at hu; cases hu
      have e1 := (hx j (by omega)).1
      rw [hB j (by omega)] at e1
      rw [List.getElem?_eq_getElem (by simpa using hj)] at hu
      injection hu with hu
      rw [e1, ← hu]
      simp [boolv]

/-- a slice of slices of bools -/
theorem open_bol_rows (ht : P.underlying t = some (.slice e)) (he : P.underlying e = some (.slice q)) (hq : P.underlying q = some .bool) (ce : P.cellsOf e = 1) (cq : P.cellsOf q = 1)
    (h : DataW.trod enc P w base (fun _ => true) held fuel t cs = some x) :
    ∃ (A : Option Addr) (n c : Nat) (rows : List (List Bool)), cs = [.slice A n c] ∧ n ≤ c ∧ c ≤ maxLen ∧ RowsR boolv w w.heap.size A n rows ∧
      ∀ (ad : Addr) (k L c2 : Nat), A = some ad → k < n → w.cell? (ad.add k) = some (.slice none L c2) → c2 = 0 := by
  rcases open_slice1 ht ce h with ⟨rfl, _⟩ | ⟨a, len, cap, m, n, V, D, Pl, rfl, _, hl, hm, hmm, _, hx⟩
  · exact ⟨none, 0, 0, [], rfl, Nat.le_refl _, Nat.zero_le _, ⟨rfl, [], Reads.none_, fun i hi => absurd hi (by simp)⟩, fun ad k L c2 e => by cases e⟩
  · simp only [if_true] at hmm
    subst hmm
    obtain ⟨y, hy⟩ := choose_lt (α := Option Addr × Nat × Nat × List Bool) (p := fun i y => V i = .slice y.1 y.2.1 y.2.2.1 ∧ y.2.1 ≤ y.2.2.1 ∧ y.2.2.1 ≤ maxLen ∧ (y.1 = none → y.2.2.1 = 0) ∧ y.2.2.2.length = y.2.1 ∧ Reads w w.heap.size 1 y.1 y.2.1 (y.2.2.2.map boolv)) (n := m) (fun i hi => by
      obtain ⟨A, n1, c1, l, h1, h2, h3, h4, h5, h6⟩ := open_bols he hq cq (hx i hi).2
      exact ⟨(A, n1, c1, l), by simpa using h1, h2, h3, h4, h5, h6⟩)
    have hcell : ∀ i, i < len → w.cell? (a.add i) = some (.slice (y i).1 (y i).2.1 (y i).2.2.1) := fun i hi => by
      have e1 := (hx i (by omega)).1
      rw [(hy i (by omega)).1] at e1
      exact e1
    refine ⟨some a, len, m, (List.range len).map fun i => (y i).2.2.2, rfl, hl, hm, ⟨by simp, (List.range len).map fun i => .slice (y i).1 (y i).2.1 (y i).2.2.1, ⟨by simp, fun hp => ⟨a, rfl, ?_, fun j u hu => ?_⟩⟩, fun i hi => ?_⟩, fun ad k L c2 e hk hc2 => ?_⟩
    · have := World.block_lt_of_cell? w _ (hcell 0 (by omega))
      simpa [block_of_add] using this
    · have hj : j < len := by
        rcases Nat.lt_or_ge j len with h1 | h1
        · exact h1
        · rw [List.getElem?_eq_none (by simpa using h1)] at hu; cases hu
      rw [List.getElem?_eq_getElem (by simpa using hj)] at hu
      injection hu with hu
      rw [hcell j hj, ← hu]
      simp
    · have hi' : i < len := by simpa using hi
      obtain ⟨_, h2, h3, _, h5, h6⟩ := hy i (by omega)
      refine ⟨(y i).1, (y i).2.2.1, ?_, ?_, h3, ?_⟩
      · rw [List.getElem?_eq_getElem (by simpa using hi')]
        simp [h5]
      · simpa [h5] using h2
      · simpa [h5] using h6
    · injection e with e
      subst e
      rw [hcell k hk] at hc2
      injection hc2 with hc2
      injection hc2 with h7 h8 h9
      have := (hy k (by omega)).2.2.2.1 h7
      omega

end
end Go.Proofs.YtboaojkblmddkaaGreatDoor

/- Arguments opened: a slice of words. -/
namespace Go.Proofs.YtboaojkblmddkaaGreatDoor
open Go.RowKit Go.WideShapes Go.ChangeShapes Go.Deep

section
variable {H : Type} {enc : TypeId × Value → H} {P : Program} {w : World} {base fuel : Nat} {held : Bool} {t e q : TypeId} {cs : List Value} {x : DataW H × List MemPlace}

theorem trod_u16 {spare : Nat → Bool} (ht : P.underlying t = some (.int .u16)) (h : DataW.trod enc P w base spare held fuel t cs = some x) : ∃ b : Nat, b < 65536 ∧ cs = [.int .u16 (b : Int)] := by
  obtain ⟨n0, hc, _, hwf⟩ := DataW.trod_int ht h
  have hw : (decide (IntKind.u16.min ≤ n0) && decide (n0 ≤ IntKind.u16.max)) = true := hwf
  have h1 : IntKind.u16.min = 0 := by decide
  have h2 : IntKind.u16.max = 65535 := by decide
  rw [h1, h2] at hw
  simp only [Bool.and_eq_true, decide_eq_true_eq] at hw
  exact ⟨n0.toNat, by omega, by rw [hc]; congr 2; omega⟩

/-- a slice of words, read with its spare -/
theorem open_u16s (ht : P.underlying t = some (.slice e)) (he : P.underlying e = some (.int .u16)) (hc : P.cellsOf e = 1) (h : DataW.trod enc P w base (fun _ => true) held fuel t cs = some x) :
    ∃ (A : Option Addr) (n c : Nat) (l : List Nat), cs = [.slice A n c] ∧ n ≤ c ∧ c ≤ maxLen ∧ (A = none → c = 0) ∧ l.length = n ∧ (∀ x ∈ l, x < 65536) ∧ Reads w w.heap.size 1 A n (l.map u16v) := by
  rcases open_slice1 ht hc h with ⟨rfl, _⟩ | ⟨a, len, cap, m, n, V, D, Pl, rfl, _, hl, hm, hmm, _, hx⟩
  · exact ⟨none, 0, 0, [], rfl, Nat.le_refl _, Nat.zero_le _, fun _ => rfl, rfl, (fun x h => by cases h), Reads.none_⟩
  · simp only [if_true] at hmm
    subst hmm
    obtain ⟨B, hB⟩ := choose_lt (α := Nat) (p := fun i b => V i = .int .u16 (b : Int) ∧ b < 65536) (n := m) (fun i hi => by
      obtain ⟨b, hlt, hb⟩ := trod_u16 he (hx i hi).2
      exact ⟨b, by simpa using hb, hlt⟩)
    refine ⟨some a, len, m, (List.range len).map B, rfl, hl, hm, (fun e => by cases e), by simp, (fun x h => by obtain ⟨i, hi, rfl⟩ := List.mem_map.1 h; exact (hB i (by have := List.mem_range.1 hi; omega)).2), by simp, fun hp => ⟨a, rfl, ?_, fun j u hu => ?_⟩⟩
    · have h0 := (hx 0 (by omega)).1
      have := World.block_lt_of_cell? w _ h0
      simpa [block_of_add] using this
    · have hj : j < len := by
        rcases Nat.lt_or_ge j len with h1 | h1
        · exact h1
        · rw [List.getElem?_eq_none (by simpa using h1)] at hu; cases hu
      have e1 := (hx j (by omega)).1
      rw [(hB j (by omega)).1] at e1
      rw [List.getElem?_eq_getElem (by simpa using hj)] at hu
      injection hu with hu
      rw [e1, ← hu]
      simp [u16v]

end
end Go.Proofs.YtboaojkblmddkaaGreatDoor

/- Arguments opened: a slice of blocks of sixteen words. -/
namespace Go.Proofs.YtboaojkblmddkaaGreatDoor
open Go.RowKit Go.WideShapes Go.ChangeShapes Go.Deep

section
variable {H : Type} {enc : TypeId × Value → H} {P : Program} {w : World} {base fuel : Nat} {held : Bool} {t e q : TypeId} {cs : List Value} {x : DataW H × List MemPlace}

/-- a slice of blocks of words, read with its spare -/
theorem open_blks (ht : P.underlying t = some (.slice e)) (he : P.underlying e = some (.array 16 q)) (hq : P.underlying q = some (.int .u16)) (ce : P.cellsOf e = 16) (cq : P.cellsOf q = 1)
    (h : DataW.trod enc P w base (fun _ => true) held fuel t cs = some x) :
    ∃ (A : Option Addr) (n c : Nat) (WS : List Nat), cs = [.slice A n c] ∧ n ≤ c ∧ c ≤ maxLen ∧ (A = none → c = 0) ∧ Reads w w.heap.size 16 A n (WS.map u16v) := by
  rcases open_slice ht h with ⟨rfl, _⟩ | ⟨a, len, cap, m, f, D, Pl, rfl, _, hl, hm, hmm, _, hx⟩
  · exact ⟨none, 0, 0, [], rfl, Nat.le_refl _, Nat.zero_le _, fun _ => rfl, Reads.none_⟩
  · simp only [if_true] at hmm
    subst hmm
    rw [ce] at hx
    obtain ⟨Y, hY⟩ := choose_lt (α := Nat → Nat) (p := fun i y => ∀ j, j < 16 → w.cell? ((a.add (i * 16)).add j) = some (u16v (y j))) (n := m) (fun i hi => by
      obtain ⟨cs', h1, h2⟩ := hx i hi
      obtain ⟨_, hlen, hcell⟩ := World.cells?_some h1
      obtain ⟨xs, k, _, _, _, hxl, hat⟩ := DataW.trod_array he h2
      obtain ⟨y, hy⟩ := choose_lt (α := Nat) (p := fun j b => cs'[j]? = some (u16v b)) (n := 16) (fun j hj => by
        have h3 := hat j hj
        rw [List.getElem?_eq_getElem (by omega)] at h3
        obtain ⟨b, _, hb⟩ := trod_u16 hq h3
        rw [cq, Nat.mul_one] at hb
        refine ⟨b, ?_⟩
        have h4 : ((cs'.drop j).take 1)[0]? = some (u16v b) := by rw [hb]; rfl
        rw [List.getElem?_take, if_pos (by decide), List.getElem?_drop, Nat.add_zero] at h4
        exact h4)
      exact ⟨y, fun j hj => (hcell j hj).trans (hy j hj)⟩)
    refine ⟨some a, len, m, (List.range (len * 16)).map fun p => Y (p / 16) (p % 16), rfl, hl, hm, (fun e => by cases e), by simp, fun hp => ⟨a, rfl, ?_, fun j u hu => ?_⟩⟩
    · have h0 := hY 0 (by omega) 0 (by omega)
      have := World.block_lt_of_cell? w _ h0
      simpa [block_of_add] using this
    · have hj : j < len * 16 := by
        rcases Nat.lt_or_ge j (len * 16) with h1 | h1
        · exact h1
        · rw [List.getElem?_eq_none (by simpa using h1)] at hu; cases hu
      rw [List.getElem?_eq_getElem (by simpa using hj)] at hu
      injection hu with hu
      have h1 := hY (j / 16) (by omega) (j % 16) (Nat.mod_lt _ (by omega))
      rw [add_of_add, show j / 16 * 16 + j % 16 = j from by omega] at h1
      rw [h1, ← hu]
      simp
end
end Go.Proofs.YtboaojkblmddkaaGreatDoor

/- Arguments opened: a slice of pairs of ints; a load of a pair. -/
namespace Go.Proofs.YtboaojkblmddkaaGreatDoor
open Go.RowKit Go.WideShapes Go.ChangeShapes Go.Deep

/-- a slice of pairs reads as these -/
def PairsR (w : World) (B : Nat) (A : Option Addr) (n : Nat) (C : List (Int × Int)) : Prop :=
  C.length = n ∧ (0 < n → ∃ ad, A = some ad ∧ ad.block < B ∧ ∀ i (h : i < C.length), w.cell? ((ad.add (i * 2)).add 0) = some (.int .i64 C[i].1) ∧ w.cell? ((ad.add (i * 2)).add 1) = some (.int .i64 C[i].2))

theorem PairsR.later {w w' : World} {A : Option Addr} {n : Nat} {C : List (Int × Int)} (h : PairsR w w.heap.size A n C) (hb : Below w.heap.size w w') : PairsR w' w'.heap.size A n C := by
  refine ⟨h.1, fun h0 => ?_⟩
  obtain ⟨ad, e, hbl, hc⟩ := h.2 h0
  refine ⟨ad, e, Nat.lt_of_lt_of_le hbl hb.size, fun i hi => ?_⟩
  have hx : ∀ p q : Nat, ((ad.add p).add q).block < w.heap.size := fun p q => by rw [block_of_add, block_of_add]; exact hbl
  exact ⟨(hb.cell (hx _ _)).trans (hc i hi).1, (hb.cell (hx _ _)).trans (hc i hi).2⟩

section
variable {H : Type} {enc : TypeId × Value → H} {P : Program} {w : World} {base fuel : Nat} {held : Bool} {t e q : TypeId} {cs : List Value} {x : DataW H × List MemPlace}

/-- a slice of pairs of ints, read with its spare -/
theorem open_pairs (ht : P.underlying t = some (.slice e)) (he : P.underlying e = some (.array 2 q)) (hq : P.underlying q = some (.int .i64)) (ce : P.cellsOf e = 2) (cq : P.cellsOf q = 1)
    (h : DataW.trod enc P w base (fun _ => true) held fuel t cs = some x) :
    ∃ (A : Option Addr) (n c : Nat) (C : List (Int × Int)), cs = [.slice A n c] ∧ n ≤ c ∧ c ≤ maxLen ∧ (A = none → c = 0) ∧ PairsR w w.heap.size A n C := by
  rcases open_slice ht h with ⟨rfl, _⟩ | ⟨a, len, cap, m, f, D, Pl, rfl, _, hl, hm, hmm, _, hx⟩
  · exact ⟨none, 0, 0, [], rfl, Nat.le_refl _, Nat.zero_le _, fun _ => rfl, rfl, fun h => absurd h (Nat.lt_irrefl _)⟩
  · simp only [if_true] at hmm
    subst hmm
    rw [ce] at hx
    obtain ⟨Y, hY⟩ := choose_lt (α := Nat → Int) (p := fun i y => ∀ j, j < 2 → w.cell? ((a.add (i * 2)).add j) = some (.int .i64 (y j))) (n := m) (fun i hi => by
      obtain ⟨cs', h1, h2⟩ := hx i hi
      obtain ⟨_, hlen, hcell⟩ := World.cells?_some h1
      obtain ⟨xs, k, _, _, _, hxl, hat⟩ := DataW.trod_array he h2
      obtain ⟨y, hy⟩ := choose_lt (α := Int) (p := fun j b => cs'[j]? = some (.int .i64 b)) (n := 2) (fun j hj => by
        have h3 := hat j hj
        rw [List.getElem?_eq_getElem (by omega)] at h3
        obtain ⟨b, hb, _⟩ := DataW.trod_int hq h3
        rw [cq, Nat.mul_one] at hb
        refine ⟨b, ?_⟩
        have h4 : ((cs'.drop j).take 1)[0]? = some (.int .i64 b) := by rw [hb]; rfl
        rw [List.getElem?_take, if_pos (by decide), List.getElem?_drop, Nat.add_zero] at h4
        exact h4)
      exact ⟨y, fun j hj => (hcell j hj).trans (hy j hj)⟩)
    refine ⟨some a, len, m, (List.range len).map fun i => (Y i 0, Y i 1), rfl, hl, hm, (fun e => by cases e), by simp, fun hp => ⟨a, rfl, ?_, fun i hi => ?_⟩⟩
    · have h0 := hY 0 (by omega) 0 (by omega)
      have := World.block_lt_of_cell? w _ h0
      simpa [block_of_add] using this
    · have hi' : i < len := by simpa using hi
      simp only [List.getElem_map, List.getElem_range]
      exact ⟨hY i (by omega) 0 (by omega), hY i (by omega) 1 (by omega)⟩
end

/-- a load of an array at any address -/
theorem wpList_load_ad {P : Program} {ops : Array Oper} {rest : List Oper} {op : Oper} {a : Act} {w : World} {Q : Exit → Act → World → Prop} (hgd : op.guard = none) (ty : TypeId) (x : Operand) (ho : op.op = .load ty x)
    (ad : Addr) (hx : a.eval x = .pointer (some ad)) (cs : List Value) (d : TypeDesc) (hc : ∀ j v, cs[j]? = some v → w.cell? (ad.add j) = some v)
    (hu : P.underlying ty = some d) (hd : d.isRow = true) (hi : (P.info? ty).map (·.size) = some cs.length)
    (h : wpList P ops Q rest (a.put op.dst (.agg cs.toArray)) w) : wpList P ops Q (op :: rest) a w := by
  have hl : (loadCells ad cs.length).run P w = .ok cs.toArray w := run_loadCells_list (P := P) w ad cs hc
  have hv : (loadVar ty ad).run P w = .ok (.agg cs.toArray) w := by
    cases hq : P.info? ty with
    | none => simp [hq] at hi
    | some i =>
      have hs : i.size = cs.length := by simpa [hq] using hi
      have hagg : (isAgg ty).run P w = .ok true w := by
        unfold isAgg
        rw [Sem.run_bind, run_underlying hu w]
        cases d <;> simp_all
      simp [loadVar, Sem.run_bind, hagg, sizeOf, typeInfo, hq, hs, hl]
  refine wpList_plain hgd fun _ hK => ?_
  unfold Oper.wp execOp
  simp only [ho, hx, Instr.loadAt, Instr.sureAddr, Sem.run_bind, Sem.run_pure, Result.andThen_ok, hv]
  exact hK _ _ h
end Go.Proofs.YtboaojkblmddkaaGreatDoor

/- The reference's CheckRecords. -/
namespace Go.Proofs.YtboaojkblmddkaaGreatDoor
open Go.RowKit
open Flt

def smallS (s : Int) : Bool := decide (-1000 ≤ s) && decide (s ≤ 1000)
/-- the error of records and skews by themselves -/
def recE (rows : List (List Nat)) (sk : List Int) : Int :=
  if rows.length = 0 then 12 else if 8 < rows.length then 5 else if firstE (rows.map smpE) ≠ 0 then firstE (rows.map smpE) else if sk.length ≠ rows.length then 2 else if sk.all smallS = true then 0 else 3

set_option maxHeartbeats 2000000 in
set_option maxRecDepth 100000 in
theorem rCheckRecords_any (A A' : Option Addr) (n c n' c' : Nat) (rows : List (List Nat)) (sk : List Int) (w : World) (h : RowsR f32v w w.heap.size A n rows) (h' : Reads w w.heap.size 1 A' n' (sk.map i64v)) (hn : n ≤ maxLen) (hn' : n' ≤ maxLen) :
    Calls Tryz.prog 42 #[.slice A n c, .slice A' n' c'] w fun e w' => e = .returned (.int .i64 (recE rows sk)) ∧ Below w.heap.size w w' := by
  unfold maxLen at hn hn'
  have hl := h.1
  have hl' := h'.lenM
  by_cases hz : n = 0
  · have hv : Hid (recE rows sk = 12) := by unfold Hid recE; rw [if_pos (by omega)]
    have hd : ((n : Int) == 0) = true := by rw [beq_iff_eq]; omega
    clear hl hl' hz
    go_enter Tryz.func42, Tryz.ntmps42
    go_wp2
    go_ret
    exact ⟨by rw [hv.out]; rfl, Below.refl _ _⟩
  · have hd0 : ((n : Int) == 0) = false := by rw [beq_eq_false_iff_ne]; omega
    by_cases h8 : 8 < n
    · have hv : Hid (recE rows sk = 5) := by unfold Hid recE; rw [if_neg (by omega), if_pos (by omega)]
      have hd : decide (8 < n) = true := by simpa using h8
      clear hl hl' hz
      go_enter Tryz.func42, Tryz.ntmps42
      go_wp2
      go_ret
      exact ⟨by rw [hv.out]; rfl, Below.refl _ _⟩
    · have hd8 : decide (8 < n) = false := by simpa using h8
      have HL := Lib.hid hl
      have HL' := Lib.hid hl'
      clear hl hl'
      go_enter Tryz.func42, Tryz.ntmps42
      go_wp2
      go_loopg [5] n (fun m s W => ∃ k : Nat, k ≤ n ∧ s = .int .i64 k ∧ n - k ≤ m ∧ Hid (firstE (rows.map smpE) = firstE ((rows.map smpE).drop k)) ∧ Below w.heap.size w W)
      case atStart => exact ⟨0, Nat.zero_le _, rfl, by omega, rfl, Below.refl _ _⟩
      case round =>
        obtain ⟨k, hk, rfl, hm, hf, hbel⟩ := hrel
        by_cases h0 : k < n
        · obtain ⟨ad, hkl, A1, c1, rfl, hbb, hcell, hlc, hcm, hrd⟩ := (h.below hbel).row h0
          have hkm : k < (rows.map smpE).length := by rw [List.length_map]; exact hkl
          have hf2 := hf.out
          rw [List.drop_eq_getElem_cons hkm, List.getElem_map] at hf2
          have hC := rCheckSamples_any A1 rows[k].length c1 rows[k] wr (hrd.more hbel.size) (by unfold maxLen at *; omega)
          generalize rows[k].length = L at *
          generalize smpE rows[k] = x at *
          have HC := Lib.hid hC
          by_cases hx : x = 0
          · subst hx
            have hf3 : Hid (firstE (rows.map smpE) = firstE ((rows.map smpE).drop (k + 1))) := by unfold Hid; rw [hf2]; rfl
            clear hf2 hC
            go_wp2_with fail
            refine HC.out.mono ?_
            rintro e w1 ⟨rfl, hb1⟩
            go_wp2_with fail
            go_roundg (n - (k + 1))
            case measure => omega
            case rel => exact ⟨k + 1, by omega, by go_num, Nat.le_refl _, hf3, hbel.trans (hb1.mono hbel.size)⟩
          · have hv : Hid (recE rows sk = x) := by
              have e : firstE (rows.map smpE) = x := by rw [hf2]; unfold firstE; rw [if_pos hx]
              unfold Hid recE
              rw [if_neg (by have := HL.out; omega), if_neg (by have := HL.out; omega), if_pos (by rw [e]; exact hx), e]
            have hx1 : (x != 0) = true := by simpa using hx
            clear hf2 hC hx
            go_wp2_with fail
            refine HC.out.mono ?_
            rintro e w1 ⟨rfl, hb1⟩
            go_wp2_with fail
            go_ret
            exact ⟨by rw [hv.out]; rfl, hbel.trans (hb1.mono hbel.size)⟩
        · have hff : firstE (rows.map smpE) = 0 := by
            rw [hf.out, List.drop_eq_nil_of_le (by rw [List.length_map]; have := HL.out; omega)]; rfl
          have HFF := Lib.hid hff
          clear hff
          by_cases hnn : n' = n
          · have hde : ((n' : Int) != (n : Int)) = false := by rw [hnn]; simp
            have hrE : recE rows sk = if sk.all smallS = true then 0 else 3 := by
              unfold recE
              rw [if_neg (by have := HL.out; omega), if_neg (by have := HL.out; omega), if_neg (by rw [HFF.out]; exact fun h => h rfl), if_neg (by have := HL.out; have := HL'.out; omega)]
            have HRE := Lib.hid hrE
            clear hrE hnn
            go_wp2
            go_loopg [7] n' (fun m s W => ∃ j : Nat, j ≤ n' ∧ s = .int .i64 j ∧ n' - j ≤ m ∧ Hid ((sk.take j).all smallS = true) ∧ Below w.heap.size w W)
            case atStart => exact ⟨0, Nat.zero_le _, rfl, by omega, by simp [Hid], hbel⟩
            case round =>
              obtain ⟨j, hj, rfl, hm2, ha, hbel2⟩ := hrel
              by_cases hjn : j < n'
              · obtain ⟨ad, hjl, rfl, hbb, hcell⟩ := (h'.below hbel2).cellM hjn
                have hs : (sk.take (j + 1)).all smallS = ((sk.take j).all smallS && smallS sk[j]) := by
                  rw [List.take_succ_eq_append_getElem hjl, List.all_append]; simp
                have hsa : sk.all smallS = true → smallS sk[j] = true := fun hal => List.all_eq_true.1 hal _ (List.getElem_mem hjl)
                unfold i64v at hcell
                generalize sk[j] = x at *
                rw [ha.out, Bool.true_and] at hs
                by_cases hx1 : x < -1000
                · have hv : Hid (recE rows sk = 3) := by
                    unfold Hid
                    rw [HRE.out, if_neg (fun h => by have := hsa h; unfold smallS at this; simp at this; omega)]
                  have hd : decide (x < -1000) = true := by simpa using hx1
                  clear hs hsa
                  go_wp2
                  go_ret
                  exact ⟨by rw [hv.out]; rfl, hbel2⟩
                · have hd1 : decide (x < -1000) = false := by simpa using hx1
                  by_cases hx2 : 1000 < x
                  · have hv : Hid (recE rows sk = 3) := by
                      unfold Hid
                      rw [HRE.out, if_neg (fun h => by have := hsa h; unfold smallS at this; simp at this; omega)]
                    have hd : decide (1000 < x) = true := by simpa using hx2
                    clear hs hsa
                    go_wp2
                    go_ret
                    exact ⟨by rw [hv.out]; rfl, hbel2⟩
                  · have hd2 : decide (1000 < x) = false := by simpa using hx2
                    have hs2 : Hid ((sk.take (j + 1)).all smallS = true) := by
                      unfold Hid
                      rw [hs]; unfold smallS; simp; omega
                    clear hs hsa
                    go_wp2
                    go_roundg (n' - (j + 1))
                    case measure => omega
                    case rel => exact ⟨j + 1, by omega, by go_num, Nat.le_refl _, hs2, hbel2⟩
              · have hv : Hid (recE rows sk = 0) := by
                  have ha2 := ha.out
                  rw [List.take_of_length_le (by have := HL'.out; omega)] at ha2
                  unfold Hid
                  rw [HRE.out, if_pos ha2]
                go_wp2
                go_ret
                exact ⟨by rw [hv.out]; rfl, hbel2⟩
          · have hde : ((n' : Int) != (n : Int)) = true := by rw [bne_iff_ne]; omega
            have hv : Hid (recE rows sk = 2) := by
              unfold Hid recE
              rw [if_neg (by have := HL.out; omega), if_neg (by have := HL.out; omega), if_neg (by rw [HFF.out]; exact fun h => h rfl), if_pos (by have := HL.out; have := HL'.out; omega)]
            clear hnn
            go_wp2
            go_ret
            exact ⟨by rw [hv.out]; rfl, hbel⟩

end Go.Proofs.YtboaojkblmddkaaGreatDoor

/- number.CheckSamples of any samples; probe's CheckLevels, Digital and Changes of any arguments. -/
namespace Go.Proofs.YtboaojkblmddkaaGreatDoor
open Go.RowKit Bn
open Flt

theorem ncheck1_any (b : Nat) (i : Int) (w : World) : Calls Tryz.prog 105 #[.int .i64 i, .float .f32 b] w fun e w' => e = .returned (.int .i64 (if fin Ieee.single b = true then 0 else 1)) ∧ Below w.heap.size w w' := by
  by_cases h : fin Ieee.single b = true
  · rw [if_pos h]
    refine (ncheck1_ok b i w h).mono ?_
    rintro e w' ⟨rfl, rfl⟩
    exact ⟨rfl, Below.refl _ _⟩
  · rw [if_neg h]
    have h' : fin Ieee.single b = false := by simpa using h
    have H := isFinite_any b w
    rw [h'] at H
    have H := Lib.hid H
    clear h h'
    go_enter Tryz.func105, Tryz.ntmps105
    go_wp2_with fail
    refine H.out.mono ?_
    rintro e w1 ⟨rfl, hb⟩
    go_wp2_with fail
    go_ret
    exact ⟨rfl, hb⟩

set_option maxHeartbeats 1000000 in
theorem ncheckList_any (A : Option Addr) (n c : Nat) (l : List Nat) (w : World) (h : Reads w w.heap.size 1 A n (l.map f32v)) (hn : n ≤ maxLen) :
    Calls Tryz.prog 104 #[.slice A n c, .int .i64 0, .int .i64 4096, .func (.func 105) #[] #[]] w fun e w' => e = .returned (.int .i64 (smpE l)) ∧ Below w.heap.size w w' := by
  unfold maxLen at hn
  have hl := h.lenM
  have hd1 : decide ((n : Int) < 0) = false := by simp
  by_cases hb : 4096 < n
  · have hv : Hid (smpE l = 5) := by unfold Hid smpE; rw [if_pos (by omega)]
    have hd : decide (4096 < n) = true := by simpa using hb
    clear hl
    go_enter Tryz.func104, Tryz.ntmps104
    go_wp2
    go_ret
    exact ⟨by rw [hv.out]; rfl, Below.refl _ _⟩
  · have hd2 : decide (4096 < n) = false := by simpa using hb
    have HL := Lib.hid hl
    have eg := ncheck1_enter
    clear hl
    go_enter Tryz.func104, Tryz.ntmps104
    go_wp2
    go_loopg [22] n (fun m s W => ∃ k : Nat, k ≤ n ∧ s = .int .i64 k ∧ n - k ≤ m ∧ Hid ((l.take k).all (fin Ieee.single) = true) ∧ Below w.heap.size w W)
    case atStart => exact ⟨0, Nat.zero_le _, rfl, by omega, by simp [Hid], Below.refl _ _⟩
    case round =>
      obtain ⟨k, hk, rfl, hm, ha, hbel⟩ := hrel
      by_cases h0 : k < n
      · obtain ⟨ad, hkl, rfl, hbb, hcell⟩ := (h.below hbel).cellM h0
        have hs : (l.take (k + 1)).all (fin Ieee.single) = ((l.take k).all (fin Ieee.single) && fin Ieee.single l[k]) := by
          rw [List.take_succ_eq_append_getElem hkl, List.all_append]; simp
        have hx2 : l.all (fin Ieee.single) = true → fin Ieee.single l[k] = true := fun hal => List.all_eq_true.1 hal _ (List.getElem_mem hkl)
        unfold f32v at hcell
        generalize l[k] = x at *
        have HC := ncheck1_any x k wr
        by_cases hf : fin Ieee.single x = true
        · rw [if_pos hf] at HC
          have HC := Lib.hid HC
          rw [hf, Bool.and_true, ha.out] at hs
          have HS := Lib.hid hs
          clear hf hs hx2
          go_wp2_with (go_at_fn 105; refine HC.out.mono ?_; rintro e w1 ⟨rfl, hb1⟩)
          go_roundg (n - (k + 1))
          case measure => omega
          case rel => exact ⟨k + 1, by omega, by go_num, Nat.le_refl _, HS.out, hbel.trans (hb1.mono hbel.size)⟩
        · rw [if_neg hf] at HC
          have HC := Lib.hid HC
          have hv : Hid (smpE l = 1) := by
            unfold Hid smpE
            rw [if_neg (by have := HL.out; omega), if_neg (fun h => hf (hx2 h))]
          clear hf hs hx2
          go_wp2_with (go_at_fn 105; refine HC.out.mono ?_; rintro e w1 ⟨rfl, hb1⟩)
          go_ret
          exact ⟨by rw [hv.out]; rfl, hbel.trans (hb1.mono hbel.size)⟩
      · have hv : Hid (smpE l = 0) := by
          have ha2 := ha.out
          rw [List.take_of_length_le (by have := HL.out; omega)] at ha2
          unfold Hid smpE
          rw [if_neg (by have := HL.out; omega), if_pos ha2]
        go_wp2
        go_ret
        exact ⟨by rw [hv.out]; rfl, hbel⟩

theorem ncheckSamples_any (A : Option Addr) (n c : Nat) (l : List Nat) (w : World) (h : Reads w w.heap.size 1 A n (l.map f32v)) (hn : n ≤ maxLen) :
    Calls Tryz.prog 58 #[.slice A n c] w fun e w' => e = .returned (.int .i64 (smpE l)) ∧ Below w.heap.size w w' := by
  have HC := Lib.hid (ncheckList_any A n c l w h hn)
  clear h
  generalize smpE l = E at *
  go_enter Tryz.func58, Tryz.ntmps58
  go_wp2_with fail
  refine HC.out.mono ?_
  rintro e w1 ⟨rfl, hb⟩
  go_wp2_with fail
  go_ret
  exact ⟨rfl, hb⟩

theorem smpE_two (lo hi : Nat) : smpE [lo, hi] = if fin Ieee.single lo = true ∧ fin Ieee.single hi = true then 0 else 1 := by
  unfold smpE
  rw [if_neg (by simp)]
  simp only [List.all_cons, List.all_nil, Bool.and_true, Bool.and_eq_true]

set_option maxHeartbeats 1000000 in
theorem pcheckLevels_any (lo hi : Nat) (w : World) :
    Calls Tryz.prog 21 #[.agg #[.float .f32 lo, .float .f32 hi]] w fun e w' => e = .returned (.int .i64 (levE lo hi)) ∧ Below w.heap.size w w' := by
  have hb : Below w.heap.size w ((w.alloc (.cells #[.float .f32 lo, .float .f32 hi] 33)).alloc (.cells #[.float .f32 lo, .float .f32 hi] 23)) := ((Below.refl _ _).alloc (Nat.le_refl _) _).alloc (by simp) _
  have q0 : CBlk ((w.alloc (.cells #[.float .f32 lo, .float .f32 hi] 33)).alloc (.cells #[.float .f32 lo, .float .f32 hi] 23)) w.heap.size #[.float .f32 lo, .float .f32 hi] 33 := (CBlk.new w _ _ _ rfl).below ((Below.refl _ _).alloc (Nat.le_refl _) _) (by simp)
  have hr := Reads.lit (w.alloc (.cells #[.float .f32 lo, .float .f32 hi] 33)) [.float .f32 lo, .float .f32 hi] 23
  have hc := ncheckSamples_any _ 2 2 [lo, hi] _ hr (by unfold maxLen; omega)
  have hsz : ((w.alloc (.cells #[.float .f32 lo, .float .f32 hi] 33)).alloc (.cells #[.float .f32 lo, .float .f32 hi] 23)).heap.size = w.heap.size + 1 + 1 := by simp
  have hlt := q0.lt
  have hbs := hb.size
  rw [hsz] at hlt hbs
  simp only [World.size_alloc] at hc
  rw [smpE_two] at hc
  by_cases h : fin Ieee.single lo = true ∧ fin Ieee.single hi = true
  · rw [if_pos h] at hc
    have HC := Lib.hid hc
    by_cases h3 : fge lo hi = true
    · have hv : Hid (levE lo hi = 11) := by unfold Hid levE; rw [if_pos h, if_pos h3]
      have t3 : (FloatKind.f32.format.order lo hi == some .gt || FloatKind.f32.format.order lo hi == some .eq) = true := h3
      clear hc hr h h3
      go_enter Tryz.func21, Tryz.ntmps21
      go_wp2_with fail
      refine HC.out.mono ?_
      rintro e w1 ⟨rfl, hb1⟩
      have q1 := q0.below hb1 hlt
      have x0 := q1.cell 0
      have x1 := q1.cell 1
      go_wp2_with fail
      go_ret
      exact ⟨by rw [hv.out]; rfl, hb.trans (hb1.mono hbs)⟩
    · have hv : Hid (levE lo hi = 0) := by unfold Hid levE; rw [if_pos h, if_neg h3]
      have h3' : fge lo hi = false := by simpa using h3
      have t3 : (FloatKind.f32.format.order lo hi == some .gt || FloatKind.f32.format.order lo hi == some .eq) = false := h3'
      clear hc hr h h3 h3'
      go_enter Tryz.func21, Tryz.ntmps21
      go_wp2_with fail
      refine HC.out.mono ?_
      rintro e w1 ⟨rfl, hb1⟩
      have q1 := q0.below hb1 hlt
      have x0 := q1.cell 0
      have x1 := q1.cell 1
      go_wp2_with fail
      go_ret
      exact ⟨by rw [hv.out]; rfl, hb.trans (hb1.mono hbs)⟩
  · rw [if_neg h] at hc
    have HC := Lib.hid hc
    have hv : Hid (levE lo hi = 1) := by unfold Hid levE; rw [if_neg h]
    clear hc hr h
    go_enter Tryz.func21, Tryz.ntmps21
    go_wp2_with fail
    refine HC.out.mono ?_
    rintro e w1 ⟨rfl, hb1⟩
    go_wp2_with fail
    go_ret
    exact ⟨by rw [hv.out]; rfl, hb.trans (hb1.mono hbs)⟩

/-- the error of a digital line -/
def digE (l : List Nat) (lo hi : Nat) : Int := if smpE l ≠ 0 then smpE l else levE lo hi

set_option maxHeartbeats 2000000 in
set_option maxRecDepth 100000 in
theorem digital_err (A : Option Addr) (n c lo hi : Nat) (v : Bool) (l : List Nat) (w : World) (h : Reads w w.heap.size 1 A n (l.map f32v)) (hn : n ≤ maxLen) (hE : digE l lo hi ≠ 0) :
    Calls Tryz.prog 13 #[.slice A n c, .agg #[.float .f32 lo, .float .f32 hi], .bool v] w fun e w' => e = .returned (.tuple #[.slice none 0 0, .int .i64 (digE l lo hi)]) ∧ Below w.heap.size w w' := by
  have hb0 : Below w.heap.size w (w.alloc (.cells #[.float .f32 lo, .float .f32 hi] 33)).drew := ((Below.refl _ _).alloc (Nat.le_refl _) _).drew
  have q0 : CBlk (w.alloc (.cells #[.float .f32 lo, .float .f32 hi] 33)).drew w.heap.size #[.float .f32 lo, .float .f32 hi] 33 := CBlk.new w _ _ _ rfl
  have x0 := q0.cell 0
  have x1 := q0.cell 1
  have HC := Lib.hid (ncheckSamples_any A n c l (w.alloc (.cells #[.float .f32 lo, .float .f32 hi] 33)).drew (h.later hb0) hn)
  have HL := Lib.hid (fun W => pcheckLevels_any lo hi W)
  have hd : digE l lo hi = if smpE l ≠ 0 then smpE l else levE lo hi := rfl
  generalize smpE l = x at *
  generalize levE lo hi = y at *
  have HF := Lib.hid (fun W => cfirst_two x y W 29 W.heap.size rfl)
  rw [← hd] at HF
  generalize digE l lo hi = E at *
  have e1 : (E != 0) = true := by simpa using hE
  have e2 : (E == 0) = false := by simpa using hE
  have e3 : decide (E = 0) = false := by simpa using hE
  clear hd hE h
  go_enter Tryz.func13, Tryz.ntmps13
  go_wp2_with fail
  go_region_held3 (fun w' => w'.cell? ⟨w.heap.size, 0, none⟩ = some (.float .f32 lo) ∧ w'.cell? ⟨w.heap.size, 1, none⟩ = some (.float .f32 hi))
    ((first | exact ⟨x0, x1⟩ | exact ⟨z0, z1⟩ | exact ⟨y0, y1⟩ | exact ⟨(World.cell?_alloc_lt _ _ _ k5).trans y0, (World.cell?_alloc_lt _ _ _ k5).trans y1⟩))
    (first
      | (go_at_call 58; refine (HC.out).mono ?_; rintro e w4 ⟨rfl, hb4⟩; have q4 := q0.below hb4 q0.lt; have z0 := q4.cell 0; have z1 := q4.cell 1)
      | (go_at_call 21; refine (HL.out w4).mono ?_; rintro e w5 ⟨rfl, hb5⟩; have q5 := q4.below hb5 q4.lt; have y0 := q5.cell 0; have y1 := q5.cell 1; have k5 := q5.lt)
      | (go_at_call 57; refine (HF.out w5).mono ?_; rintro e w6 ⟨rfl, rfl⟩))
  have hb6 : Below w5.heap.size w5 (w5.alloc (.cells #[.int .i64 x, .int .i64 y] 29)) := (Below.refl _ _).alloc (Nat.le_refl _) _
  have hB4 := hb0.trans (hb4.mono hb0.size)
  have hB5 := hB4.trans (hb5.mono hB4.size)
  have hB6 := hB5.trans (hb6.mono hB5.size)
  generalize w5.alloc (.cells #[.int .i64 x, .int .i64 y] 29) = w6 at *
  clear x0 x1 y0 y1 z0 z1
  go_wp2_with fail
  go_ret2
  exact ⟨rfl, hB6⟩

/-- the changes of a line, none where it is too long -/
def chgE (N : Nat) : Int := if 4096 < N then 5 else 0

theorem changes_err (A : Option Addr) (n c : Nat) (b : Bool) (w : World) (hn : 4096 < n) :
    Calls Tryz.prog 15 #[.slice A n c, .bool b] w fun e w' => e = .returned (.tuple #[.slice none 0 0, .int .i64 5]) ∧ Below w.heap.size w w' := by
  have e1 : (if (4096 : Int) < (n : Int) then (5 : Int) else 0) = 5 := if_pos (by omega)
  have H1 := catMost_bool A n c 4096 w
  rw [e1] at H1
  have K1 := Lib.hid H1
  clear H1 e1
  go_enter Tryz.func15, Tryz.ntmps15
  go_wp2_with fail
  refine K1.out.mono ?_
  rintro e w1 ⟨rfl, rfl⟩
  go_wp2
  go_ret2
  exact ⟨rfl, Below.refl _ _⟩

end Go.Proofs.YtboaojkblmddkaaGreatDoor

/- probe's checkRecords, checkSkews of any arguments; where Aligned answers an error of its arguments. -/
namespace Go.Proofs.YtboaojkblmddkaaGreatDoor
open Go.RowKit Bn
open Flt

/-- the error of records by themselves -/
def crE (rows : List (List Nat)) : Int := if rows.length = 0 then 12 else if 8 < rows.length then 5 else firstE (rows.map smpE)

set_option maxHeartbeats 1000000 in
theorem checkRecords_any (A : Option Addr) (n c : Nat) (rows : List (List Nat)) (w : World) (h : RowsR f32v w w.heap.size A n rows) (hn : n ≤ 4096) :
    Calls Tryz.prog 75 #[.slice A n c] w fun e w' => e = .returned (.int .i64 (crE rows)) ∧ Below w.heap.size w w' := by
  have hl := h.1
  by_cases h0 : n = 0
  · have hv : Hid (crE rows = 12) := if_pos (by omega)
    have hd0 : ((n : Int) == 0) = true := by rw [beq_iff_eq]; omega
    clear hl h0
    go_enter Tryz.func75, Tryz.ntmps75
    go_wp2
    go_ret
    exact ⟨by rw [hv.out]; rfl, Below.refl _ _⟩
  · have hd0 : ((n : Int) == 0) = false := by rw [beq_eq_false_iff_ne]; omega
    have H1 := catMost_floats A n c 8 w
    by_cases h8 : 8 < n
    · have hv : Hid (crE rows = 5) := (if_neg (by omega)).trans (if_pos (by omega))
      rw [if_pos (by omega)] at H1
      have K1 := Lib.hid H1
      clear hl h0 h8 H1
      go_enter Tryz.func75, Tryz.ntmps75
      go_wp2_with fail
      refine K1.out.mono ?_
      rintro e w1 ⟨rfl, rfl⟩
      go_wp2
      go_ret
      exact ⟨by rw [hv.out]; rfl, Below.refl _ _⟩
    · rw [if_neg (by omega)] at H1
      have K1 := Lib.hid H1
      have hv : Hid (crE rows = firstE (rows.map smpE)) := (if_neg (by omega)).trans (if_neg (by omega))
      obtain ⟨hl, vs, hr, hvv⟩ := h
      have HT := trn_se 58 #[] none (fun _ _ => True) A n c vs (rows.map smpE) w ncs_enter (by omega) hr (by rw [List.length_map]; exact hl) (fun b hb => by cases hb) trivial (fun _ _ _ _ _ => trivial) (by
        intro W i x y hi hg _ hx hy
        have hil : i < rows.length := by omega
        rw [List.getElem?_map, List.getElem?_eq_getElem hil] at hy
        injection hy with hy
        subst hy
        obtain ⟨A', c', h2, h3, h4, h5⟩ := hvv i hil
        rw [hx] at h2
        injection h2 with h2
        subst h2
        have hc := ncheckSamples_any A' rows[i].length c' rows[i] W (h5.later (gnone hg (Nat.le_refl _))) (by omega)
        refine hc.mono ?_
        rintro e w' ⟨rfl, hb⟩
        exact ⟨rfl, only_of_below hb _, trivial⟩)
      have K2 := Lib.hid HT
      have HL := Lib.hid hl
      clear H1 HT hr hvv hl h0 h8
      go_enter Tryz.func75, Tryz.ntmps75
      go_wp2_with fail
      refine K1.out.mono ?_
      rintro e w1 ⟨rfl, rfl⟩
      go_wp2_with fail
      refine K2.out.mono ?_
      rintro e w1 ⟨rfl, ho, hg, _⟩
      have hf := cfirst_any (some ⟨w.heap.size, 0, none⟩) n n (rows.map smpE) w1 (Reads.of_own ho) (by unfold maxLen; omega)
      rw [← hv.out] at hf
      have K3 := Lib.hid hf
      clear hf ho
      have hb := gnone hg (Nat.le_refl _)
      clear hg
      go_wp2_with fail
      refine K3.out.mono ?_
      rintro e w2 ⟨rfl, rfl⟩
      go_wp2_with fail
      go_ret
      exact ⟨rfl, hb⟩

theorem csk1_any (s : Int) (w : World) : Calls Tryz.prog 114 #[.int .i64 s] w fun e w' => e = .returned (.int .i64 (rangeE s (-1000) 1000)) ∧ w = w' := by
  have HR := Lib.hid (cinRange_any s (-1000) 1000 w)
  generalize rangeE s (-1000) 1000 = r at *
  go_enter Tryz.func114, Tryz.ntmps114
  go_wp2_with fail
  refine HR.out.mono ?_
  rintro e w1 ⟨rfl, rfl⟩
  go_wp2_with fail
  go_ret
  exact ⟨rfl, rfl⟩

/-- the error of skews of n records -/
def csE (n : Nat) (sk : List Int) : Int := if sk.length ≠ n then 2 else firstE (sk.map fun s => rangeE s (-1000) 1000)

set_option maxHeartbeats 1000000 in
theorem checkSkews_any (A : Option Addr) (n' n c : Nat) (sk : List Int) (w : World) (h : Reads w w.heap.size 1 A n' (sk.map i64v)) (hn : n' ≤ 4096) :
    Calls Tryz.prog 76 #[.slice A n' c, .int .i64 n] w fun e w' => e = .returned (.int .i64 (csE n sk)) ∧ Below w.heap.size w w' := by
  have hl := h.lenM
  by_cases hne : n' = n
  · subst hne
    have hv : Hid (csE n' sk = firstE (sk.map fun s => rangeE s (-1000) 1000)) := if_neg (by omega)
    have hd0 : ((n' : Int) != (n' : Int)) = false := by simp
    have HT := trn_ie 114 #[] none (fun _ _ => True) A n' c (sk.map i64v) (sk.map fun s => rangeE s (-1000) 1000) w csk_enter (by omega) h (by rw [List.length_map]; exact hl) (fun b hb => by cases hb) trivial (fun _ _ _ _ _ => trivial) (by
      intro W i x y hi hg _ hx hy
      have hil : i < sk.length := by omega
      rw [List.getElem?_map, List.getElem?_eq_getElem hil] at hx hy
      injection hx with hx
      injection hy with hy
      subst hx hy
      refine (csk1_any sk[i] W).mono ?_
      rintro e w' ⟨rfl, rfl⟩
      exact ⟨rfl, grown_self _ _, trivial⟩)
    have K2 := Lib.hid HT
    clear HT h hl
    go_enter Tryz.func76, Tryz.ntmps76
    go_wp2_with fail
    refine K2.out.mono ?_
    rintro e w1 ⟨rfl, ho, hg, _⟩
    have hf := cfirst_any (some ⟨w.heap.size, 0, none⟩) n' n' (sk.map fun s => rangeE s (-1000) 1000) w1 (Reads.of_own ho) (by unfold maxLen; omega)
    rw [← hv.out] at hf
    have K3 := Lib.hid hf
    clear hf ho
    have hb := gnone hg (Nat.le_refl _)
    clear hg
    go_wp2_with fail
    refine K3.out.mono ?_
    rintro e w2 ⟨rfl, rfl⟩
    go_wp2_with fail
    go_ret
    exact ⟨rfl, hb⟩
  · have hv : Hid (csE n sk = 2) := if_pos (by omega)
    have hd0 : ((n' : Int) != (n : Int)) = true := by rw [bne_iff_ne]; omega
    clear h hl hne
    go_enter Tryz.func76, Tryz.ntmps76
    go_wp2
    go_ret
    exact ⟨by rw [hv.out]; rfl, Below.refl _ _⟩

theorem firstE_small (sk : List Int) : firstE (sk.map fun s => rangeE s (-1000) 1000) = if sk.all smallS = true then 0 else 3 := by
  induction sk with
  | nil => rfl
  | cons s t ih =>
    rw [List.map_cons, List.all_cons]
    unfold firstE
    by_cases h : smallS s = true
    · have e : rangeE s (-1000) 1000 = 0 := by
        unfold smallS at h
        simp only [Bool.and_eq_true, decide_eq_true_eq] at h
        unfold rangeE; rw [if_neg (by omega)]
      rw [e, if_neg (by simp), ih, h, Bool.true_and]
    · have e : rangeE s (-1000) 1000 = 3 := by
        unfold smallS at h
        simp only [Bool.and_eq_true, decide_eq_true_eq] at h
        unfold rangeE; rw [if_pos (by omega)]
      have h' : smallS s = false := by simpa using h
      rw [e, if_pos (by decide), h', Bool.false_and, if_neg (by decide)]
theorem recE_parts (rows : List (List Nat)) (sk : List Int) : (if crE rows ≠ 0 then crE rows else csE rows.length sk) = recE rows sk := by
  unfold crE csE recE
  rw [firstE_small]
  split <;> (try split) <;> (try split) <;> (try split) <;> simp_all

set_option maxHeartbeats 1000000 in
set_option maxRecDepth 100000 in
theorem aligned_err (A A' : Option Addr) (n c n' c' : Nat) (rows : List (List Nat)) (sk : List Int) (w : World) (h : RowsR f32v w w.heap.size A n rows) (h' : Reads w w.heap.size 1 A' n' (sk.map i64v)) (hn : n ≤ 4096) (hn' : n' ≤ 4096) (hE : recE rows sk ≠ 0) :
    Calls Tryz.prog 41 #[.slice A n c, .slice A' n' c'] w fun e w' => e = .returned (.tuple #[.slice none 0 0, .int .i64 (recE rows sk)]) ∧ Below w.heap.size w w' := by
  have hl := h.1
  have K1 := Lib.hid (checkRecords_any A n c rows w h hn)
  have K2 := Lib.hid (fun (W : World) (hb : Below w.heap.size w W) => checkSkews_any A' n' n c' sk W (h'.later hb) hn')
  have hp := recE_parts rows sk
  rw [hl] at hp
  generalize crE rows = x at *
  generalize csE n sk = y at *
  have HF := Lib.hid (fun W => cfirst_two x y W 29 W.heap.size rfl)
  rw [hp] at HF
  generalize recE rows sk = E at *
  have e1 : (E != 0) = true := by simpa using hE
  have e2 : (E == 0) = false := by simpa using hE
  have e3 : decide (E = 0) = false := by simpa using hE
  clear hl hp hE h h'
  go_enter Tryz.func41, Tryz.ntmps41
  go_wp2_with fail
  refine K1.out.mono ?_
  rintro e w1 ⟨rfl, hb1⟩
  go_wp2_with fail
  refine (K2.out w1 hb1).mono ?_
  rintro e w2 ⟨rfl, hb2⟩
  have hB2 := hb1.trans (hb2.mono hb1.size)
  go_wp2_with fail
  refine (HF.out w2).mono ?_
  rintro e w3 ⟨rfl, rfl⟩
  have hB3 : Below w.heap.size w (w2.alloc (.cells #[.int .i64 x, .int .i64 y] 29)) := hB2.alloc hB2.size _
  generalize w2.alloc (.cells #[.int .i64 x, .int .i64 y] 29) = w3 at *
  go_wp2
  go_ret2
  exact ⟨rfl, hB3⟩

end Go.Proofs.YtboaojkblmddkaaGreatDoor

/- What the law of lines needs of numbers: where a record begins, agreement of lines, highs and lows. -/
namespace Go.Proofs.YtboaojkblmddkaaGreatDoor
open Go.RowKit
open Flt

theorem frT_snoc (sk : List Int) (s : Int) : frT (sk ++ [s]) = max (frT sk) (-s) := by
  unfold frT
  rw [List.foldl_append]
  rfl
theorem fold_max_mem : ∀ (l : List Int) (a : Int), l.foldl (fun a s => max a (-s)) a = a ∨ ∃ s ∈ l, l.foldl (fun a s => max a (-s)) a = -s
  | [], a => .inl rfl
  | x :: t, a => by
    rw [List.foldl_cons]
    rcases fold_max_mem t (max a (-x)) with h | ⟨s, hs, h⟩
    · rw [h]
      rcases Int.le_total a (-x) with h1 | h1
      · exact .inr ⟨x, by simp, by omega⟩
      · exact .inl (by omega)
    · exact .inr ⟨s, by simp [hs], h⟩
/-- the first common time is some record's beginning -/
theorem frT_mem (sk : List Int) (hs : ∀ s ∈ sk, -1000 ≤ s ∧ s ≤ 1000) (h0 : 0 < sk.length) : ∃ s ∈ sk, frT sk = -s := by
  rcases fold_max_mem sk (-1000) with h | h
  · have h1 := frT_ge sk sk[0] (List.getElem_mem h0)
    have h2 := hs sk[0] (List.getElem_mem h0)
    have h3 : frT sk = -1000 := h
    exact ⟨sk[0], List.getElem_mem h0, by omega⟩
  · exact h
theorem beg_eq (sk : List Int) (hs : ∀ s ∈ sk, -1000 ≤ s ∧ s ≤ 1000) (h0 : 0 < sk.length) (x b : Int) (h1 : b ≤ frT sk + x) (h2 : ∀ j (h : j < sk.length), x - sk[j] ≤ b) : b = frT sk + x := by
  obtain ⟨s, hm, he⟩ := frT_mem sk hs h0
  obtain ⟨j, hj, rfl⟩ := List.getElem_of_mem hm
  have := h2 j hj
  omega
theorem key_of_fge {lo hi : Nat} (h1 : fin Ieee.single lo = true) (h2 : fin Ieee.single hi = true) (h3 : fge lo hi = false) : key Ieee.single lo < key Ieee.single hi := by
  rw [fge_key h1 h2] at h3
  have := of_decide_eq_false h3
  omega
theorem alg1_fin (fr tt s : Int) (r : List Nat) (h : ∀ x ∈ r, fin Ieee.single x = true) : ∀ x ∈ alg1 fr tt r s, fin Ieee.single x = true := by
  intro x hx
  unfold alg1 at hx
  obtain ⟨y, hy, rfl⟩ := List.mem_map.1 hx
  exact posz_fin (h y (List.mem_of_mem_drop (List.mem_of_mem_take hy)))
/-- once a sample has decided, the line of the whole record is the line of the aligned one -/
theorem lines_agree (lo hi b : Nat) (fr tt s : Int) (R : List Nat) (hR : ∀ x ∈ R, fin Ieee.single x = true) (h1 : fin Ieee.single lo = true) (h2 : fin Ieee.single hi = true) (h3 : fge lo hi = false) (hb : (b : Int) = fr + s) (hft : fr ≤ tt) (hle : tt + s ≤ (R.length : Int))
    (k : Nat) (hk : k < (alg1 fr tt R s).length) :
    b + k < R.length ∧ (decd lo hi ((alg1 fr tt R s).take (k + 1)) = true → digS lo hi false (R.take (b + k + 1)) = digS lo hi false ((alg1 fr tt R s).take (k + 1))) := by
  have hlen : (alg1 fr tt R s).length = (tt - fr).toNat := by
    unfold alg1
    rw [List.length_map, List.length_take, List.length_drop]
    omega
  have hfin := alg1_fin fr tt s R hR
  have hkey := key_of_fge h1 h2 h3
  refine ⟨by omega, fun hd => ?_⟩
  refine dig_agree lo hi false false R (alg1 fr tt R s) b ?_ ?_ k hk hd
  · intro i hi2
    have hlt : b + i < R.length := by omega
    refine ⟨hlt, ?_⟩
    have e : (alg1 fr tt R s)[i] = posz R[b + i] := by
      simp only [alg1, List.getElem_map, List.getElem_take, List.getElem_drop]
      have eb : (fr + s).toNat = b := by omega
      simp only [eb]
    rw [e]
    exact alike_posz (hR _ (List.getElem_mem hlt)) h1 h2
  · intro i hi2 hf
    exact low_not_high (hfin _ (List.getElem_mem hi2)) h1 h2 hkey hf
/-- a true line's sample is not low; a false one's not high -/
theorem line_sound (lo hi : Nat) (l : List Nat) (hl : ∀ x ∈ l, fin Ieee.single x = true) (h1 : fin Ieee.single lo = true) (h2 : fin Ieee.single hi = true) (h3 : fge lo hi = false) (v : Bool) (k : Nat) (hk : k < l.length) :
    (digS lo hi v (l.take (k + 1)) = true → fle l[k] lo = false) ∧ (digS lo hi v (l.take (k + 1)) = false → fge l[k] hi = false) := by
  rw [digS_succ _ _ _ _ _ hk]
  unfold digV
  constructor
  · intro h
    cases hf : fle l[k] lo
    · rfl
    · rw [low_not_high (hl _ (List.getElem_mem hk)) h1 h2 (key_of_fge h1 h2 h3) hf, fle_not_fgt hf] at h
      simp at h
  · intro h
    cases hg : fge l[k] hi
    · rfl
    · rw [hg] at h; simp at h

end Go.Proofs.YtboaojkblmddkaaGreatDoor
