/- Words for memory: a slice value that reads as a list of cells ('Reads'), a slice that reads as the words of a natural number ('NatAt'). -/
import Derived.Test.YthmiamppfncfoaaGreatDoorProg
import Derived.Test.YthmiamppfncfoaaGreatDoorCWords
import Derived.WalkKit
import Derived.WalkSpells
import Derived.WalkLawsBesides
import Derived.Laws.OwnMore
import Derived.Laws.MakeOwn
import Derived.Deep.AppendLies
import Derived.Deep.Draws
import Derived.Deep.QuietTactic
import Derived.BigQuiet
import Derived.Lib.Hide
import Derived.Laws.Externs
import Derived.Shelf.Spec.BitsCarry
import Derived.Deep.DeepCutAuto
import Derived.Outline
namespace Go.Proofs.YthmiamppfncfoaaGreatDoor
open Go.RowKit

theorem block_of_add (a : Addr) (n : Nat) : (a.add n).block = a.block := by unfold Addr.add; split <;> rfl
theorem add_of_add (a : Addr) (i j : Nat) : (a.add i).add j = a.add (i + j) := by
  unfold Addr.add
  by_cases hi : i = 0 <;> by_cases hj : j = 0 <;> simp [hi, hj, Nat.add_assoc]

def Reads (w : World) (B size : Nat) (A : Option Addr) (n : Nat) (xs : List Value) : Prop :=
  xs.length = n * size ∧ (0 < n → ∃ ad, A = some ad ∧ ad.block < B ∧ ∀ j u, xs[j]? = some u → w.cell? (ad.add j) = some u)

section
variable {w w' : World} {B B' size n : Nat} {A : Option Addr} {xs : List Value}
theorem Reads.none_ : Reads w B size A 0 [] := ⟨by simp, fun h => absurd h (by omega)⟩
theorem Reads.at_ {k : Nat} (h : Reads w B 1 A n xs) (hk : k < n) : ∃ ad u, A = some ad ∧ ad.block < B ∧ xs[k]? = some u ∧ w.cell? (ad.add k) = some u := by
  obtain ⟨ad, e, hb, hc⟩ := h.2 (by omega)
  have hl : k < xs.length := by have := h.1; omega
  exact ⟨ad, xs[k], e, hb, List.getElem?_eq_getElem hl, hc k _ (List.getElem?_eq_getElem hl)⟩
theorem Reads.keep (h : Reads w B size A n xs) (hk : ∀ p : Addr, p.block < B → w'.cell? p = w.cell? p) : Reads w' B size A n xs :=
  ⟨h.1, fun hn => by
    obtain ⟨ad, e, hb, hc⟩ := h.2 hn
    exact ⟨ad, e, hb, fun j u hu => (hk _ (by rw [block_of_add]; exact hb)).trans (hc j u hu)⟩⟩
theorem Reads.more (h : Reads w B size A n xs) (hB : B ≤ B') : Reads w B' size A n xs :=
  ⟨h.1, fun hn => by
    obtain ⟨ad, e, hb, hc⟩ := h.2 hn
    exact ⟨ad, e, by omega, hc⟩⟩
theorem Reads.below (h : Reads w B size A n xs) (hb : Below B w w') : Reads w' B size A n xs := h.keep fun _ hp => hb.cell hp
theorem Reads.drew (h : Reads w B size A n xs) : Reads w.drew B size A n xs := h
theorem Reads.drewN (h : Reads w B size A n xs) (k : Nat) : Reads (w.drewN k) B size A n xs := h
theorem Reads.alloc (h : Reads w B size A n xs) (hB : B ≤ w.heap.size) (o : Obj) : Reads (w.alloc o) B size A n xs := h.keep fun p hp => World.cell?_alloc_lt w o p (by omega)
theorem Reads.setCell (h : Reads w B size A n xs) {p : Addr} (hB : B ≤ p.block) (u : Value) : Reads (w.setCell p u) B size A n xs :=
  h.keep fun q hq => World.cell?_setCell_other w p q u (fun e => by subst e; omega)
theorem Reads.grown (h : Reads w B size A n xs) {row : Option Nat} (hg : w.grownBy w' row) (hB : B ≤ w.heap.size) (hr : ∀ g, row = some g → B ≤ g) : Reads w' B size A n xs :=
  h.keep fun p hp => World.cell?_of_block (hg.block p.block (by omega) (fun e => by have := hr _ e.symm; omega))
theorem Reads.of_own {base : Nat} {e : TypeId} {c : Nat} (h : w.ownsRow base e size (.slice A n c) n xs) : Reads w w.heap.size size A n xs := by
  refine ⟨h.1, fun hn => ?_⟩
  obtain ⟨g, cap, hv, _, hlt⟩ := h.form hn
  have hA : A = some ⟨g, 0, none⟩ := by injection hv
  subst hA
  exact ⟨_, rfl, hlt, h.cells (g := g) rfl⟩
theorem Reads.take {m : Nat} (h : Reads w B 1 A n xs) (hm : m ≤ n) : Reads w B 1 A m (xs.take m) :=
  ⟨by rw [List.length_take, h.1]; omega, fun h0 => by
    obtain ⟨ad, e, hb, hc⟩ := h.2 (by omega)
    refine ⟨ad, e, hb, fun j u hu => hc j u ?_⟩
    rw [List.getElem?_take] at hu
    split at hu
    · exact hu
    · cases hu⟩
end

/-- below_drewN -/
theorem below_drewN {B : Nat} {a w : World} (h : Below B a w) (n : Nat) : Below B a (w.drewN n) := ⟨h.os, h.tape, h.output, h.size, h.block⟩

/-- a word as a value -/
def u64v (d : Nat) : Value := .int .u64 (d : Int)
theorem u64v_one : ∀ l : List Nat, ∀ u ∈ l.map u64v, u.oneCell' = true := by
  intro l u hu
  obtain ⟨d, _, rfl⟩ := List.mem_map.1 hu
  rfl

/-- the slice (A, n) reads as these words -/
abbrev WordsAt (w : World) (B : Nat) (A : Option Addr) (n : Nat) (l : List Nat) : Prop := Reads w B 1 A n (l.map u64v)

theorem WordsAt.len {w : World} {B : Nat} {A : Option Addr} {n : Nat} {l : List Nat} (h : WordsAt w B A n l) : l.length = n := by
  have := h.1; rw [List.length_map] at this; omega
theorem WordsAt.word {w : World} {B : Nat} {A : Option Addr} {n : Nat} {l : List Nat} (h : WordsAt w B A n l) {k : Nat} (hk : k < n) :
    ∃ ad, A = some ad ∧ ad.block < B ∧ w.cell? (ad.add k) = some (.int .u64 ((l.getD k 0 : Nat) : Int)) := by
  obtain ⟨ad, e, hb, hc⟩ := h.2 (by omega)
  have hl : k < l.length := by rw [h.len]; exact hk
  refine ⟨ad, e, hb, hc k _ ?_⟩
  simp [u64v, List.getD, hl]

theorem WordsAt.lit (w : World) (l : List Nat) (t : TypeId) : WordsAt (w.alloc (.cells (l.map u64v).toArray t)) (w.heap.size + 1) (some ⟨w.heap.size, 0, none⟩) l.length l := by
  refine ⟨by simp, fun _ => ⟨_, rfl, Nat.lt_succ_self _, fun j u hu => ?_⟩⟩
  have h := cell_of_row (w.alloc (.cells (l.map u64v).toArray t)) w.heap.size j (l.map u64v).toArray t (0, 0) (heap_alloc_new w _)
  show World.cell? _ ((⟨w.heap.size, 0, none⟩ : Addr).add j) = some u
  have e : (⟨w.heap.size, 0, none⟩ : Addr).add j = ⟨w.heap.size, j, none⟩ := by
    unfold Addr.add
    by_cases hj : j = 0 <;> simp [hj]
  rw [e, h]
  simpa using hu

/-- what uint64's row of the table says -/
theorem info_u64 : (Tryz.prog.info? 99).map (fun i => (i.zero, i.size, i.bytes)) = some (some (.int .u64 0), 1, 8) := by kernel_rfl

/-- the slice (A, n, c) reads as the natural number x -/
structure NatS (w : World) (B : Nat) (A : Option Addr) (n c : Nat) (x : Nat) : Prop where
  words : WordsAt w B A n (Bn.digs x)
  nc : n ≤ c
  cm : c ≤ maxLen

section
variable {w w' : World} {B B' n c x : Nat} {A : Option Addr}
theorem NatS.len (h : NatS w B A n c x) : (Bn.digs x).length = n := h.words.len
theorem NatS.below (h : NatS w B A n c x) (hb : Below B w w') : NatS w' B A n c x := ⟨h.words.below hb, h.nc, h.cm⟩
theorem NatS.more (h : NatS w B A n c x) (hB : B ≤ B') : NatS w B' A n c x := ⟨h.words.more hB, h.nc, h.cm⟩
theorem NatS.later (h : NatS w w.heap.size A n c x) (hb : Below w.heap.size w w') : NatS w' w'.heap.size A n c x := (h.below hb).more hb.size
theorem NatS.alloc (h : NatS w w.heap.size A n c x) (o : Obj) : NatS (w.alloc o) (w.heap.size + 1) A n c x := ⟨(h.words.alloc (Nat.le_refl _) o).more (by omega), h.nc, h.cm⟩
end

/-- what a function that returns a natural number says: the value reads as x; nothing that was there has turned -/
def RetNat (w : World) (x : Nat) (e : Ending) (w' : World) : Prop := ∃ A m c, e = .returned (.slice A m c) ∧ NatS w' w'.heap.size A m c x ∧ Below w.heap.size w w'

theorem call_add64 (x y c : Nat) (hx : x < 18446744073709551616) (hy : y < 18446744073709551616) (hc : c ≤ 1) :
    ∃ s d : Nat, s + 18446744073709551616 * d = x + y + c ∧ s < 18446744073709551616 ∧ d ≤ 1 ∧
      ∀ w : World, (callFunc 116 #[.int .u64 x, .int .u64 y, .int .u64 c]).run Tryz.prog w = .ok (.value (.tuple #[.int .u64 s, .int .u64 d])) w := by
  refine ⟨(x + y + c) % 18446744073709551616, (x + y + c) / 18446744073709551616, ?_, Nat.mod_lt _ (by omega), by omega, fun w => ?_⟩
  · have := Nat.mod_add_div (x + y + c) 18446744073709551616; omega
  · rw [run_callFunc_extern Tryz.func116 (by kernel_rfl) (by kernel_rfl) (by kernel_rfl) (e := add64Entry) (by kernel_rfl), run_add64 x y c (by omega) (by omega) (by omega) (by omega)]
    simp only [Result.andThen]
    congr 5 <;> omega

/-- math/bits.Sub64's entry of the model: three words in, the difference and the borrow out -/
theorem run_sub (x y b : Nat) (hb : b ≤ 1) (w : World) :
    (callFunc 118 #[.int .u64 x, .int .u64 y, .int .u64 b]).run Tryz.prog w =
      .ok (.value (.tuple #[.int .u64 (((x + 18446744073709551616 - y - b) % 18446744073709551616 : Nat) : Int), .int .u64 ((if x < y + b then 1 else 0 : Nat) : Int)])) w := by
  rw [run_callFunc_extern Tryz.func118 (by kernel_rfl) (by kernel_rfl) (by kernel_rfl) (e := sub64Entry) (by kernel_rfl), run_sub64 x y b hb]
  rfl
theorem call_sub64 (x y b : Nat) (hx : x < 18446744073709551616) (hy : y < 18446744073709551616) (hb : b ≤ 1) :
    ∃ s d : Nat, s + y + b = x + 18446744073709551616 * d ∧ s < 18446744073709551616 ∧ d ≤ 1 ∧
      ∀ w : World, (callFunc 118 #[.int .u64 x, .int .u64 y, .int .u64 b]).run Tryz.prog w = .ok (.value (.tuple #[.int .u64 s, .int .u64 d])) w := by
  refine ⟨(x + 18446744073709551616 - y - b) % 18446744073709551616, if x < y + b then 1 else 0, ?_, Nat.mod_lt _ (by omega), by split <;> omega, fun w => run_sub x y b hb w⟩
  split <;> omega

/-! ### a quiet call behind draws -/
theorem quiet_add {P : Program} {f : FuncId} {args : Array Value} {w : World} {a n : Nat} {v : Value}
    (h : Calls P f args (w.drewN (a + n)) fun e w' => e = .returned v ∧ ∃ m, w' = (w.drewN (a + n)).drewN m) :
    Calls P f args (w.drewN (a + n)) fun e w'' => e = .returned v ∧ ∃ m, w'' = w.drewN (a + m) :=
  h.mono fun _ _ ⟨he, m, hm⟩ => ⟨he, n + m, by rw [hm, World.drewN_drewN, Nat.add_assoc]⟩
theorem quiet_one {P : Program} {f : FuncId} {args : Array Value} {w : World} {n : Nat} {v : Value}
    (h : Calls P f args (w.drewN n) fun e w' => e = .returned v ∧ ∃ m, w' = (w.drewN n).drewN m) :
    Calls P f args (w.drewN n) fun e w'' => e = .returned v ∧ ∃ m, w'' = w.drewN m :=
  h.mono fun _ _ ⟨he, m, hm⟩ => ⟨he, n + m, by rw [hm, World.drewN_drewN]⟩
theorem quiet_add_left {P : Program} {f : FuncId} {args : Array Value} {w : World} {a n : Nat} {v : Value}
    (h : Calls P f args (w.drewN (a + n)) fun e w' => e = .returned v ∧ w.drewN (a + n) = w') :
    Calls P f args (w.drewN (a + n)) fun e w'' => e = .returned v ∧ ∃ m, w'' = w.drewN (a + m) :=
  h.mono fun _ _ ⟨he, hm⟩ => ⟨he, n, hm.symm⟩
theorem quiet_left {P : Program} {f : FuncId} {args : Array Value} {w : World} {n : Nat} {v : Value}
    (h : Calls P f args (w.drewN n) fun e w' => e = .returned v ∧ w.drewN n = w') : Calls P f args (w.drewN n) fun e w'' => e = .returned v ∧ ∃ m, w'' = w.drewN m :=
  h.mono fun _ _ ⟨he, hm⟩ => ⟨he, n, hm.symm⟩

end Go.Proofs.YthmiamppfncfoaaGreatDoor

/- Contracts of the functions of package number on naturals, the leaves: trimmed. -/
namespace Go.Proofs.YthmiamppfncfoaaGreatDoor
open Go.RowKit Bn

set_option maxHeartbeats 400000 in
theorem trimmed_any (B : Nat) (A : Option Addr) (n c : Nat) (l : List Nat) (w : World) (hr : WordsAt w B A n l) (hw : Wf l) (hnc : n ≤ c) (hc : c ≤ maxLen) :
    Calls Tryz.prog 96 #[.slice A n c] w fun e w' => ∃ m, e = .returned (.slice A m c) ∧ m ≤ n ∧ l.take m = digs (val l) ∧ w = w' := by
  unfold maxLen at hc
  have hl := hr.len
  go_enter Tryz.func96, Tryz.ntmps96
  go_wp2
  go_loop [3] (fun s => ∃ k : Nat, k ≤ n ∧ s = .int .i64 k ∧ Hid (∀ j (h : j < l.length), k ≤ j → l[j] = 0)) (fun s => (intOf s).toNat)
  case atStart => exact ⟨n, Nat.le_refl _, rfl, fun j h h' => by omega⟩
  case round =>
    obtain ⟨k, hk, rfl, hz⟩ := hrel
    by_cases h0 : 0 < k
    · obtain ⟨ad, rfl, hb, hcell⟩ := hr.word (k := k - 1) (by omega)
      have hkl : k - 1 < l.length := by omega
      have hgd : l.getD (k - 1) 0 = l[k - 1] := by simp [List.getD, hkl]
      by_cases hx : l[k - 1] = 0
      · rw [hgd, hx] at hcell
        have HX := Lib.hid hx
        clear hx hgd
        go_wp2
        go_round
        case rel =>
          refine ⟨k - 1, by omega, by go_num, ?_⟩
          intro j h hj
          rcases Nat.lt_or_ge j k with h1 | h1
          · obtain rfl : j = k - 1 := by omega
            exact HX.out
          · exact hz.out j h h1
        case measure => simp [intOf]; omega
      · rw [hgd] at hcell
        have HX := Lib.hid hx
        clear hx hgd
        generalize hg : l[k - 1] = x at hcell
        have hx0 : (((x : Nat) : Int) == 0) = false := by
          have := HX.out; rw [hg] at this
          rw [beq_eq_false_iff_ne]; omega
        have HG := Lib.hid hg
        clear hg
        go_wp2
        go_ret
        refine ⟨k, rfl, hk, ?_, rfl⟩
        refine take_trim hw k (by omega) (fun j h hj => hz.out j h hj) (fun h _ => HX.out)
    · go_wp2
      go_ret
      refine ⟨k, rfl, hk, ?_, rfl⟩
      exact take_trim hw k (by omega) (fun j h hj => hz.out j h hj) (fun h h1 => absurd h1 h0)
/-- 'trimmed' as its callers want it -/
theorem trimmed_nat (A : Option Addr) (n c : Nat) (l : List Nat) (w : World) (hr : WordsAt w w.heap.size A n l) (hw : Wf l) (hnc : n ≤ c) (hc : c ≤ maxLen) :
    Calls Tryz.prog 96 #[.slice A n c] w fun e w' => ∃ m, e = .returned (.slice A m c) ∧ NatS w w.heap.size A m c (val l) ∧ w = w' :=
  (trimmed_any w.heap.size A n c l w hr hw hnc hc).mono fun e w' ⟨m, he, hm, ht, hww⟩ => ⟨m, he, ⟨by
    have h := hr.take hm
    rw [← List.map_take, ht] at h
    exact h, by omega, hc⟩, hww⟩

set_option maxHeartbeats 400000 in
theorem naturalOf_any (x : Int) (w : World) (h0 : 0 ≤ x) (h1 : x < 18446744073709551616) :
    Calls Tryz.prog 75 #[.int .u64 x] w (RetNat w x.toNat) := by
  obtain ⟨n, rfl⟩ := Int.eq_ofNat_of_zero_le h0
  have hn : n < 18446744073709551616 := by omega
  have hl := WordsAt.lit w [n] 99
  have hc := trimmed_nat (some ⟨w.heap.size, 0, none⟩) 1 1 [n] (w.alloc (.cells #[.int .u64 n] 99)) (by simpa [u64v] using hl) (Wf.cons hn Wf.nil) (Nat.le_refl _) (by unfold maxLen; omega)
  go_enter Tryz.func75, Tryz.ntmps75
  go_wp2_with fail
  refine hc.mono ?_
  rintro e w1 ⟨m, rfl, hn1, rfl⟩
  go_wp2
  go_ret
  exact ⟨_, m, 1, rfl, by simpa using hn1, (Below.refl _ _).alloc (Nat.le_refl _) _⟩

theorem isZero_any (A : Option Addr) (n c : Nat) (w : World) (hn : n ≤ maxLen) :
    Calls Tryz.prog 78 #[.slice A n c] w fun e w' => e = .returned (.bool ((n : Int) == 0)) ∧ w = w' := by
  unfold maxLen at hn
  go_enter Tryz.func78, Tryz.ntmps78
  go_wp2
  go_ret
  exact ⟨rfl, rfl⟩

theorem sign_any (b : Bool) (w : World) :
    Calls Tryz.prog 102 #[.bool b] w fun e w' => e = .returned (.int .i64 (if b then 1 else -1)) ∧ w = w' := by
  cases b
  all_goals
    go_enter Tryz.func102, Tryz.ntmps102
    go_wp2
    go_ret
    exact ⟨rfl, rfl⟩

theorem isOne_any (A : Option Addr) (n c x : Nat) (w : World) (h : NatS w w.heap.size A n c x) :
    Calls Tryz.prog 77 #[.slice A n c] w fun e w' => e = .returned (.bool (decide (x = 1))) ∧ w = w' := by
  have hlen := h.len
  have hcm := h.cm
  have hnc := h.nc
  unfold maxLen at hcm
  by_cases h1 : n = 1
  · subst h1
    obtain ⟨ad, rfl, hb, hc⟩ := h.words.word (k := 0) (by omega)
    have hx : (digs x).getD 0 0 = x := by
      match hd : digs x, hlen with
      | [d], _ =>
        have := val_digs x
        rw [hd] at this
        simpa using this
    rw [hx] at hc
    have e0 : ad.add 0 = ad := by simp [Addr.add]
    rw [e0] at hc
    clear hx hlen e0
    by_cases hx1 : x = 1
    · subst hx1
      go_enter Tryz.func77, Tryz.ntmps77
      go_wp2
      go_ret
      exact ⟨rfl, rfl⟩
    · have hx0 : (((x : Nat) : Int) == 1) = false := by rw [beq_eq_false_iff_ne]; omega
      go_enter Tryz.func77, Tryz.ntmps77
      go_wp2
      go_ret
      exact ⟨by simp [hx1], rfl⟩
  · have hx0 : (((n : Nat) : Int) == 1) = false := by rw [beq_eq_false_iff_ne]; omega
    have hx : x ≠ 1 := by
      rintro rfl
      rw [digs_pos (by omega)] at hlen
      rw [show 1 / B = 0 from by decide, digs_zero] at hlen
      simp at hlen
      omega
    clear hlen
    go_enter Tryz.func77, Tryz.ntmps77
    go_wp2
    go_ret
    exact ⟨by simp [hx], rfl⟩

end Go.Proofs.YthmiamppfncfoaaGreatDoor

/- Rows of one's own: a block that the call made, which holds words; what is kept while only such a block turns. -/
namespace Go.Proofs.YthmiamppfncfoaaGreatDoor
open Go.RowKit Bn

/-- a row of one's own at block g: a slice of n words, c of them allotted, holds these words -/
def RowAt (w : World) (base g n c : Nat) (l : List Nat) : Prop := w.ownsRow base 99 1 (.slice (some ⟨g, 0, none⟩) n c) n (l.map u64v)

section
variable {w w' : World} {base g n c : Nat} {l : List Nat}
theorem RowAt.len (h : RowAt w base g n c l) : l.length = n := by
  have := h.1; rw [List.length_map] at this; omega
theorem RowAt.cell (h : RowAt w base g n c l) (k : Nat) (hk : k < n) : w.cell? ⟨g, k, none⟩ = some (.int .u64 ((l.getD k 0 : Nat) : Int)) := by
  have hl : k < l.length := by rw [h.len]; exact hk
  rw [World.ownsRow.cellAt h k (by omega)]
  simp [u64v, List.getD, hl]
theorem RowAt.free (h : RowAt w base g n c l) (k : Nat) : w.frozen? ⟨g, k, none⟩ = false := World.ownsRow.frozenAt h k
theorem RowAt.set (h : RowAt w base g n c l) (k x : Nat) : RowAt (w.setCell ⟨g, k, none⟩ (.int .u64 (x : Int))) base g n c (l.set k x) := by
  have := (World.ownsRow.stored h k (u64v x)).1
  unfold RowAt
  rw [List.map_set]
  exact this
theorem RowAt.lt (h : RowAt w base g n c l) : base ≤ g ∧ g < w.heap.size := World.ownsRow.lt h g rfl
theorem RowAt.words (h : RowAt w base g n c l) : WordsAt w w.heap.size (some ⟨g, 0, none⟩) n l := Reads.of_own h
theorem RowAt.kept {row : Option Nat} (h : RowAt w base g n c l) (hg : w.grownBy w' row) (hr : row ≠ some g) : RowAt w' base g n c l :=
  World.ownsRow.kept h hg (.inr (by simpa [Value.ownBlock] using fun e => hr e.symm))
theorem RowAt.below (h : RowAt w base g n c l) (hb : Below w.heap.size w w') : RowAt w' base g n c l :=
  h.kept (World.grownBy.mk hb.os hb.tape hb.output hb.size (fun i hi _ => hb.block i hi) : w.grownBy w' none) (by simp)
theorem RowAt.drewN (h : RowAt w base g n c l) (q : Nat) : RowAt (w.drewN q) base g n c l := h
theorem RowAt.alloc (h : RowAt w base g n c l) (o : Obj) : RowAt (w.alloc o) base g n c l := World.ownsRow.alloc h o
theorem RowAt.caps (h : RowAt w base g n c l) : n ≤ c ∧ c ≤ maxLen := by
  rcases h.2 with ⟨h', _⟩ | ⟨g', cap', cur, h', hb, hg, hnc, hcm, hcs, htake⟩
  · simp at h'
  · simp only [Value.slice.injEq] at h'
    obtain ⟨_, _, rfl⟩ := h'
    exact ⟨hnc, hcm⟩
theorem RowAt.mono {base' : Nat} (h : RowAt w base g n c l) (hb : base' ≤ base) : RowAt w base' g n c l := by
  refine ⟨h.1, ?_⟩
  rcases h.2 with h' | ⟨g', cap', cur, h', hb', r⟩
  · exact .inl h'
  · exact .inr ⟨g', cap', cur, h', by omega, r⟩
/-- a cut to the first m words -/
theorem RowAt.take {m : Nat} (h : RowAt w base g n c l) (hm : m ≤ n) : RowAt w base g m c (l.take m) := by
  refine ⟨by rw [List.length_map, List.length_take, h.len]; omega, ?_⟩
  rcases h.2 with ⟨h', _⟩ | ⟨g', cap', cur, h', hb, hg, hnc, hcm, hcs, htake⟩
  · simp at h'
  · simp only [Value.slice.injEq, Option.some.injEq, Addr.mk.injEq, and_true, true_and] at h'
    obtain ⟨rfl, rfl⟩ := h'
    refine .inr ⟨g, c, cur, rfl, hb, hg, by omega, hcm, hcs, ?_⟩
    rw [List.map_take, ← htake, List.take_take]
    congr 1
    omega
theorem RowAt.nat {x : Nat} (h : RowAt w base g n c (digs x)) : NatS w w.heap.size (some ⟨g, 0, none⟩) n c x := ⟨h.words, h.caps.1, h.caps.2⟩
end

/-- 'make' of n words -/
theorem RowAt.made {w1 : World} {base g n : Nat} (h : w1.ownsRow base 99 1 (.slice (some ⟨g, 0, none⟩) n n) n (madeCells #[Value.int .u64 0] n).toList) :
    RowAt w1 base g n n (List.replicate n 0) := by
  unfold RowAt
  rw [List.map_replicate]
  rwa [toList_madeCells_one] at h

/-- 'trimmed' of a row of one's own -/
theorem trimmed_row (base g n c : Nat) (l : List Nat) (w : World) (hr : RowAt w base g n c l) (hw : Wf l) :
    Calls Tryz.prog 96 #[.slice (some ⟨g, 0, none⟩) n c] w fun e w' => ∃ m, e = .returned (.slice (some ⟨g, 0, none⟩) m c) ∧ RowAt w base g m c (digs (val l)) ∧ w = w' :=
  (trimmed_any w.heap.size _ n c l w hr.words hw hr.caps.1 hr.caps.2).mono fun e w' ⟨m, he, hm, ht, hww⟩ => ⟨m, he, by
    have h := hr.take hm
    rwa [ht] at h, hww⟩

/-! ### only block g, and what is new, has turned -/
theorem only_drewN {a w : World} {row : Option Nat} (h : a.grownBy w row) (n : Nat) : a.grownBy (w.drewN n) row := ⟨h.os, h.tape, h.output, h.size, h.block⟩
theorem only_drew {a w : World} {row : Option Nat} (h : a.grownBy w row) : a.grownBy w.drew row := ⟨h.os, h.tape, h.output, h.size, h.block⟩
theorem only_alloc {a w : World} {row : Option Nat} (h : a.grownBy w row) (o : Obj) : a.grownBy (w.alloc o) row :=
  ⟨h.os, h.tape, h.output, Nat.le_trans h.size (by simp), fun i hi hne => (Below.heap_alloc w o i (Nat.lt_of_lt_of_le hi h.size)).trans (h.block i hi hne)⟩
theorem only_setCell {a w : World} {g : Nat} (h : a.grownBy w (some g)) {p : Addr} (hp : p.block = g ∨ a.heap.size ≤ p.block) (u : Value) : a.grownBy (w.setCell p u) (some g) :=
  ⟨h.os, h.tape, h.output, by simpa [World.setCell] using h.size, fun i hi hne => (Below.heap_setCell w p u i (by
    rintro rfl
    rcases hp with hp | hp
    · exact hne (by rw [hp])
    · omega)).trans (h.block i hi hne)⟩
theorem only_of_below {a w : World} (h : Below a.heap.size a w) (row : Option Nat) : a.grownBy w row := ⟨h.os, h.tape, h.output, h.size, fun i hi _ => h.block i hi⟩
theorem only_trans {a b c : World} {g : Nat} (h : a.grownBy b (some g)) (k : b.grownBy c (some g)) : a.grownBy c (some g) :=
  ⟨k.os.trans h.os, k.tape.trans h.tape, k.output.trans h.output, Nat.le_trans h.size k.size, fun i hi hne => (k.block i (Nat.lt_of_lt_of_le hi h.size) hne).trans (h.block i hi hne)⟩
theorem only_below {a b c : World} {g : Nat} (h : a.grownBy b (some g)) (k : Below b.heap.size b c) : a.grownBy c (some g) := only_trans h (only_of_below k _)

/-- the slice does not lie in block g -/
def Off (A : Option Addr) (g : Nat) : Prop := ∀ ad, A = some ad → ad.block ≠ g

theorem WordsAt.kept {w w' : World} {B n g : Nat} {A : Option Addr} {l : List Nat} (h : WordsAt w B A n l) (hg : w.grownBy w' (some g)) (hB : B ≤ w.heap.size) (ho : 0 < n → Off A g) : WordsAt w' B A n l :=
  ⟨h.1, fun hn => by
    obtain ⟨ad, e, hb, hc⟩ := h.2 hn
    refine ⟨ad, e, hb, fun j u hu => ?_⟩
    rw [← hc j u hu]
    exact World.cell?_of_block (hg.block (ad.add j).block (by rw [block_of_add]; omega) (by rw [block_of_add]; intro e'; exact ho hn ad e (by injection e')))⟩
theorem NatS.kept {w w' : World} {n c x g : Nat} {A : Option Addr} (h : NatS w w.heap.size A n c x) (hg : w.grownBy w' (some g)) (ho : 0 < n → Off A g) : NatS w' w'.heap.size A n c x :=
  ⟨(h.words.kept hg (Nat.le_refl _) ho).more hg.size, h.nc, h.cm⟩

theorem NatS.off {w : World} {n c x g : Nat} {A : Option Addr} (h : NatS w w.heap.size A n c x) (hg : w.heap.size ≤ g) : 0 < n → Off A g := by
  intro h0 ad e he
  obtain ⟨ad', e', hb, _⟩ := h.words.2 h0
  rw [e] at e'
  injection e' with e'
  subst e'
  omega

/-- what is returned is nil and x is 0, or a row of one's own that reads as x -/
def NatRow (base x : Nat) (e : Ending) (w' : World) : Prop :=
  (e = .returned (.slice none 0 0) ∧ x = 0) ∨ ∃ g m c, e = .returned (.slice (some ⟨g, 0, none⟩) m c) ∧ RowAt w' base g m c (digs x)

theorem NatS.nil (w : World) (B : Nat) : NatS w B none 0 0 0 := ⟨by rw [digs_zero]; exact Reads.none_, Nat.le_refl _, by unfold maxLen; omega⟩
theorem NatRow.ret {w w' : World} {x : Nat} {e : Ending} (h : NatRow w.heap.size x e w') (hb : Below w.heap.size w w') : RetNat w x e w' := by
  rcases h with ⟨rfl, rfl⟩ | ⟨g, m, c, rfl, hr⟩
  · exact ⟨none, 0, 0, rfl, NatS.nil _ _, hb⟩
  · exact ⟨_, m, c, rfl, hr.nat, hb⟩

end Go.Proofs.YthmiamppfncfoaaGreatDoor
