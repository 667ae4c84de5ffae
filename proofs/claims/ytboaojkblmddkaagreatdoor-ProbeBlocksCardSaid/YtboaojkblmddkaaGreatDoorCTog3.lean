/- The law of toggles: for all samples and levels it returns true. -/
import Derived.Test.YtboaojkblmddkaaGreatDoorCTog2
import Derived.Test.YtboaojkblmddkaaGreatDoorCCode
import Derived.Deep.Slices
import Derived.ChangeArms
import Derived.ChangeSlices
import Derived.ChangeSame
namespace Go.Proofs.YtboaojkblmddkaaGreatDoor
open Go.RowKit

/-- every input: true; nothing that was there has changed -/
theorem tog_any (A : Option Addr) (n c lo hi : Nat) (l : List Nat) (w : World) (hT : Tabs w) (h : Reads w w.heap.size 1 A n (l.map f32v)) (hn : n ≤ maxLen) (hac : A = none → c = 0) :
    Calls Tryz.prog 8 #[.slice A n c, .agg #[.float .f32 lo, .float .f32 hi]] w fun e w' => e = .returned (.bool true) ∧ Below w.heap.size w w' := by
  by_cases h1 : n ≤ 64
  · by_cases h2 : smpE l = 0
    · by_cases h3 : levE lo hi = 0
      · exact tog_main A n c lo hi l w hT h h1 hac h2 h3
      · exact tog_turned A n c lo hi l w hT h hn (.inr (.inr h3))
    · exact tog_turned A n c lo hi l w hT h hn (.inr (.inl h2))
  · exact tog_turned A n c lo hi l w hT h hn (.inl (by omega))
end Go.Proofs.YtboaojkblmddkaaGreatDoor

/- Arguments opened: a slice of ints, a slice of slices of singles, a struct of two singles. -/
namespace Go.Proofs.YtboaojkblmddkaaGreatDoor
open Go.RowKit Go.WideShapes Go.ChangeShapes Go.Deep

section
variable {H : Type} {enc : TypeId × Value → H} {P : Program} {w : World} {base fuel : Nat} {held : Bool} {t e q : TypeId} {cs : List Value} {x : DataW H × List MemPlace}

theorem trod_f32 {spare : Nat → Bool} (ht : P.underlying t = some (.float .f32)) (h : DataW.trod enc P w base spare held fuel t cs = some x) : ∃ b : Nat, cs = [.float .f32 b] := by
  cases fuel with
  | zero => simp [DataW.trod] at h
  | succ n =>
    unfold DataW.trod at h
    rw [ht] at h
    split at h <;> simp_all

/-- a slice of singles, read with its spare -/
theorem open_f32s (ht : P.underlying t = some (.slice e)) (he : P.underlying e = some (.float .f32)) (hc : P.cellsOf e = 1) (h : DataW.trod enc P w base (fun _ => true) held fuel t cs = some x) :
    ∃ (A : Option Addr) (n c : Nat) (l : List Nat), cs = [.slice A n c] ∧ n ≤ c ∧ c ≤ maxLen ∧ (A = none → c = 0) ∧ l.length = n ∧ Reads w w.heap.size 1 A n (l.map f32v) := by
  rcases open_slice1 ht hc h with ⟨rfl, _⟩ | ⟨a, len, cap, m, n, V, D, Pl, rfl, _, hl, hm, hmm, _, hx⟩
  · exact ⟨none, 0, 0, [], rfl, Nat.le_refl _, Nat.zero_le _, fun _ => rfl, rfl, Reads.none_⟩
  · simp only [if_true] at hmm
    subst hmm
    obtain ⟨B, hB⟩ := choose_lt (α := Nat) (p := fun i b => V i = .float .f32 b) (n := m) (fun i hi => by
      obtain ⟨b, hb⟩ := trod_f32 he (hx i hi).2
      exact ⟨b, by simpa using hb⟩)
    refine ⟨some a, len, m, (List.range len).map B, rfl, hl, hm, (fun e => by cases e), by simp, by simp, fun hp => ⟨a, rfl, ?_, fun j u hu => ?_⟩⟩
    · have h0 := (hx 0 (by omega)).1
      have := World.block_lt_of_cell? w _ h0
      simpa [block_of_add] using this
    · have hj : j < len := by
        rcases Nat.lt_or_ge j len with h1 | h1
        · exact h1
        · rw [List.getElem?_eq_none (by simpa using h1)] at hu; cases hu
      have e1 := (hx j (by omega)).1
      rw [hB j (by omega)] at e1
      rw [List.getElem?_eq_getElem (by simpa using hj)] at hu
      injection hu with hu
      rw [e1, ← hu]
      simp [f32v]

/-- a slice of slices of singles -/
theorem open_f32_rows (ht : P.underlying t = some (.slice e)) (he : P.underlying e = some (.slice q)) (hq : P.underlying q = some (.float .f32)) (ce : P.cellsOf e = 1) (cq : P.cellsOf q = 1)
    (h : DataW.trod enc P w base (fun _ => true) held fuel t cs = some x) :
    ∃ (A : Option Addr) (n c : Nat) (rows : List (List Nat)), cs = [.slice A n c] ∧ n ≤ c ∧ c ≤ maxLen ∧ RowsR f32v w w.heap.size A n rows ∧
      ∀ (ad : Addr) (k L c2 : Nat), A = some ad → k < n → w.cell? (ad.add k) = some (.slice none L c2) → c2 = 0 := by
  rcases open_slice1 ht ce h with ⟨rfl, _⟩ | ⟨a, len, cap, m, n, V, D, Pl, rfl, _, hl, hm, hmm, _, hx⟩
  · exact ⟨none, 0, 0, [], rfl, Nat.le_refl _, Nat.zero_le _, ⟨rfl, [], Reads.none_, fun i hi => absurd hi (by simp)⟩, fun ad k L c2 e => by cases e⟩
  · simp only [if_true] at hmm
    subst hmm
    obtain ⟨y, hy⟩ := choose_lt (α := Option Addr × Nat × Nat × List Nat) (p := fun i y => V i = .slice y.1 y.2.1 y.2.2.1 ∧ y.2.1 ≤ y.2.2.1 ∧ y.2.2.1 ≤ maxLen ∧ (y.1 = none → y.2.2.1 = 0) ∧ y.2.2.2.length = y.2.1 ∧ Reads w w.heap.size 1 y.1 y.2.1 (y.2.2.2.map f32v)) (n := m) (fun i hi => by
      obtain ⟨A, n1, c1, l, h1, h2, h3, h4, h5, h6⟩ := open_f32s he hq cq (hx i hi).2
      exact ⟨(A, n1, c1, l), by simpa using h1, h2, h3, h4, h5, h6⟩)
    have hcell : ∀ i, i < len → w.cell? (a.add i) = some (.slice (y i).1 (y i).2.1 (y i).2.2.1) := fun i hi => by
      have e1 := (hx i (by omega)).1
      rw [(hy i (by omega)).1] at e1
      exact e1
    refine ⟨some a, len, m, (List.range len).map fun i => (y i).2.2.2, rfl, hl, hm, ⟨by simp, (List.range len).map fun i => .slice (y i).1 (y i).2.1 (y i).2.2.1, ⟨by simp, fun hp => ⟨a, rfl, ?_, fun j u hu => ?_⟩⟩, fun i hi => ?_⟩, fun ad k L c2 e hk hc2 => ?_⟩
    · have := World.block_lt_of_cell? w _ (hcell 0 (by omega))
      simpa [block_of_add] using this
    · have hj : j < len := by
        rcases Nat.lt_or_ge j len with h1 | h1
        · exact h1
        · rw [List.getElem?_eq_none (by simpa using h1)] at hu; cases hu
      rw [List.getElem?_eq_getElem (by simpa using hj)] at hu
      injection hu with hu
      rw [hcell j hj, ← hu]
      simp
    · have hi' : i < len := by simpa using hi
      obtain ⟨_, h2, h3, _, h5, h6⟩ := hy i (by omega)
      refine ⟨(y i).1, (y i).2.2.1, ?_, ?_, h3, ?_⟩
      · rw [List.getElem?_eq_getElem (by simpa using hi')]
        simp [h5]
      · simpa [h5] using h2
      · simpa [h5] using h6
    · injection e with e
      subst e
      rw [hcell k hk] at hc2
      injection hc2 with hc2
      injection hc2 with h7 h8 h9
      have := (hy k (by omega)).2.2.2.1 h7
      omega

/-- a slice of ints -/
theorem open_i64s (ht : P.underlying t = some (.slice e)) (he : P.underlying e = some (.int .i64)) (hc : P.cellsOf e = 1) (h : DataW.trod enc P w base (fun _ => true) held fuel t cs = some x) :
    ∃ (A : Option Addr) (n c : Nat) (l : List Int), cs = [.slice A n c] ∧ n ≤ c ∧ c ≤ maxLen ∧ Reads w w.heap.size 1 A n (l.map i64v) := by
  rcases open_ints ht he hc h with ⟨rfl, _⟩ | ⟨a, len, cap, zs, rfl, _, hl, hm, hz, _, hcell, _⟩
  · exact ⟨none, 0, 0, [], rfl, Nat.le_refl _, Nat.zero_le _, Reads.none_⟩
  · simp only [if_true] at hz
    refine ⟨some a, len, cap, zs.take len, rfl, hl, hm, by simp; omega, fun hp => ⟨a, rfl, ?_, fun j u hu => ?_⟩⟩
    · have := World.block_lt_of_cell? w _ (hcell 0 (by omega))
      simpa [block_of_add] using this
    · have hj : j < len := by
        rcases Nat.lt_or_ge j len with h1 | h1
        · exact h1
        · rw [List.getElem?_eq_none (by simp; omega)] at hu; cases hu
      rw [List.getElem?_eq_getElem (by simp; omega)] at hu
      injection hu with hu
      rw [hcell j (by omega), ← hu]
      simp [i64v, List.getD, List.getElem?_eq_getElem (show j < zs.length by omega)]
end

section
variable {H : Type} {enc : TypeId × Value → H} {P : Program}
/-- what a row's post asks, of a call that returns plain data and changes nothing that was there -/
theorem post_below {f : Func} {s : ChangeSpec} {apart fresh handsOn again : Bool} {W W' : World} {args : Array Value} {v : Value} {ds gs : List (DataW H)} {before pa pv : List MemPlace}
    (hW : DataW.Whole enc P f.params.toList s.vars apart W args.toList ds gs before)
    (hres : ∀ (b : Nat) (sp : Nat → Bool) (hd : Bool), DataW.TrodAll enc P W' b sp hd f.resultTypes.toList (v.resultList f.resultTypes.size) (s.fn H (ds ++ gs)).results [])
    (hargs : ∀ sp : Nat → Bool, (∀ p ∈ before, sp p.block = true) → DataW.TrodAll enc P W' 0 sp true f.params.toList args.toList (s.fn H (ds ++ gs)).args pa)
    (hvars : ∀ sp : Nat → Bool, (∀ p ∈ before, sp p.block = true) → DataW.TrodVars enc P W' sp s.vars (s.fn H (ds ++ gs)).vars pv)
    (hps : before = pa ++ pv) (hb : Below W.heap.size W W')
    (hok : ∀ (j : Nat) (t : TypeId) (r : Value), f.resultTypes[j]? = some t → (v.resultList f.resultTypes.size)[j]? = some r → Value.okWide P W' .any 0 t r) :
    s.post enc P f apart fresh handsOn again W args v W' := by
  have lt : ∀ p ∈ before, p.block < W.heap.size := fun p hp => hW.lt p hp
  obtain ⟨_, _, _, _, _, hz, hn⟩ := id hW
  refine ⟨ds, gs, before, [], pa, pv, hW, hres _ _ _, hargs _ (fun p hp => by simpa using lt p hp), hvars _ (fun p hp => by simpa using lt p hp), World.keptBut_mono (fun p hp => ⟨hp, ?_⟩) (hb.frame (· ∈ before)), fun _ => ⟨hok, _, _, ([] ++ pa) ++ pv, ⟨[] ++ pa, pv, trodAll_append (hargs _ (fun _ _ => rfl)) (hres _ _ _), hvars _ (fun _ _ => rfl), rfl, ?_, ?_⟩, ?_⟩⟩
  · exact Or.inr (by rw [hps, List.mem_append] at hp; exact hp)
  · intro b off hp
    have hin : MemPlace.cell b off ∈ before := by rw [hps]; simpa using hp
    rw [hb.frozen (lt _ hin)]
    exact hz b off hin
  · intro ha
    have h1 := hn ha
    rw [hps] at h1
    simpa using h1
  · intro p hp _
    rw [hps]
    simpa using hp
end
end Go.Proofs.YtboaojkblmddkaaGreatDoor
