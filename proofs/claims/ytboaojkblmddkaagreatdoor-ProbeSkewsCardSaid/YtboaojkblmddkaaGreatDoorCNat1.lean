/- Contracts of the functions of package number on naturals, the leaves: trimmed. -/
import Derived.Test.YtboaojkblmddkaaGreatDoorCWords
import Derived.Test.YtboaojkblmddkaaGreatDoorCFlt
import Derived.Laws.Cover2
import Derived.Laws.BitsAllLaws
import Derived.Laws.FloatArith
namespace Go.Proofs.YtboaojkblmddkaaGreatDoor
open Go.RowKit Bn

set_option maxHeartbeats 400000 in
theorem trimmed_any (B : Nat) (A : Option Addr) (n c : Nat) (l : List Nat) (w : World) (hr : WordsAt w B A n l) (hw : Wf l) (hnc : n ≤ c) (hc : c ≤ maxLen) :
    Calls Tryz.prog 173 #[.slice A n c] w fun e w' => ∃ m, e = .returned (.slice A m c) ∧ m ≤ n ∧ l.take m = digs (val l) ∧ w = w' := by
  unfold maxLen at hc
  have hl := hr.len
  go_enter Tryz.func173, Tryz.ntmps173
  go_wp2
  go_loop [3] (fun s => ∃ k : Nat, k ≤ n ∧ s = .int .i64 k ∧ Hid (∀ j (h : j < l.length), k ≤ j → l[j] = 0)) (fun s => (intOf s).toNat)
  case atStart => exact ⟨n, Nat.le_refl _, rfl, fun j h h' => by omega⟩
  case round =>
    obtain ⟨k, hk, rfl, hz⟩ := hrel
    by_cases h0 : 0 < k
    · obtain ⟨ad, rfl, hb, hcell⟩ := hr.word (k := k - 1) (by omega)
      have hkl : k - 1 < l.length := by omega
      have hgd : l.getD (k - 1) 0 = l[k - 1] := by simp [List.getD, hkl]
      by_cases hx : l[k - 1] = 0
      · rw [hgd, hx] at hcell
        have HX := Lib.hid hx
        clear hx hgd
        go_wp2
        go_round
        case rel =>
          refine ⟨k - 1, by omega, by go_num, ?_⟩
          intro j h hj
          rcases Nat.lt_or_ge j k with h1 | h1
          · obtain rfl : j = k - 1 := by omega
            exact HX.out
          · exact hz.out j h h1
        case measure => simp [intOf]; omega
      · rw [hgd] at hcell
        have HX := Lib.hid hx
        clear hx hgd
        generalize hg : l[k - 1] = x at hcell
        have hx0 : (((x : Nat) : Int) == 0) = false := by
          have := HX.out; rw [hg] at this
          rw [beq_eq_false_iff_ne]; omega
        have HG := Lib.hid hg
        clear hg
        go_wp2
        go_ret
        refine ⟨k, rfl, hk, ?_, rfl⟩
        refine take_trim hw k (by omega) (fun j h hj => hz.out j h hj) (fun h _ => HX.out)
    · go_wp2
      go_ret
      refine ⟨k, rfl, hk, ?_, rfl⟩
      exact take_trim hw k (by omega) (fun j h hj => hz.out j h hj) (fun h h1 => absurd h1 h0)
/-- 'trimmed' as its callers want it -/
theorem trimmed_nat (A : Option Addr) (n c : Nat) (l : List Nat) (w : World) (hr : WordsAt w w.heap.size A n l) (hw : Wf l) (hnc : n ≤ c) (hc : c ≤ maxLen) :
    Calls Tryz.prog 173 #[.slice A n c] w fun e w' => ∃ m, e = .returned (.slice A m c) ∧ NatS w w.heap.size A m c (val l) ∧ w = w' :=
  (trimmed_any w.heap.size A n c l w hr hw hnc hc).mono fun e w' ⟨m, he, hm, ht, hww⟩ => ⟨m, he, ⟨by
    have h := hr.take hm
    rw [← List.map_take, ht] at h
    exact h, by omega, hc⟩, hww⟩

set_option maxHeartbeats 400000 in
theorem naturalOf_any (x : Int) (w : World) (h0 : 0 ≤ x) (h1 : x < 18446744073709551616) :
    Calls Tryz.prog 140 #[.int .u64 x] w (RetNat w x.toNat) := by
  obtain ⟨n, rfl⟩ := Int.eq_ofNat_of_zero_le h0
  have hn : n < 18446744073709551616 := by omega
  have hl := WordsAt.lit w [n] 199
  have hc := trimmed_nat (some ⟨w.heap.size, 0, none⟩) 1 1 [n] (w.alloc (.cells #[.int .u64 n] 199)) (by simpa [u64v] using hl) (Wf.cons hn Wf.nil) (Nat.le_refl _) (by unfold maxLen; omega)
  go_enter Tryz.func140, Tryz.ntmps140
  go_wp2_with fail
  refine hc.mono ?_
  rintro e w1 ⟨m, rfl, hn1, rfl⟩
  go_wp2
  go_ret
  exact ⟨_, m, 1, rfl, by simpa using hn1, (Below.refl _ _).alloc (Nat.le_refl _) _⟩

theorem isZero_any (A : Option Addr) (n c : Nat) (w : World) (hn : n ≤ maxLen) :
    Calls Tryz.prog 174 #[.slice A n c] w fun e w' => e = .returned (.bool ((n : Int) == 0)) ∧ w = w' := by
  unfold maxLen at hn
  go_enter Tryz.func174, Tryz.ntmps174
  go_wp2
  go_ret
  exact ⟨rfl, rfl⟩

theorem sign_any (b : Bool) (w : World) :
    Calls Tryz.prog 193 #[.bool b] w fun e w' => e = .returned (.int .i64 (if b then 1 else -1)) ∧ w = w' := by
  cases b
  all_goals
    go_enter Tryz.func193, Tryz.ntmps193
    go_wp2
    go_ret
    exact ⟨rfl, rfl⟩

theorem isOne_any (A : Option Addr) (n c x : Nat) (w : World) (h : NatS w w.heap.size A n c x) :
    Calls Tryz.prog 142 #[.slice A n c] w fun e w' => e = .returned (.bool (decide (x = 1))) ∧ w = w' := by
  have hlen := h.len
  have hcm := h.cm
  have hnc := h.nc
  unfold maxLen at hcm
  by_cases h1 : n = 1
  · subst h1
    obtain ⟨ad, rfl, hb, hc⟩ := h.words.word (k := 0) (by omega)
    have hx : (digs x).getD 0 0 = x := by
      match hd : digs x, hlen with
      | [d], _ =>
        have := val_digs x
        rw [hd] at this
        simpa using this
    rw [hx] at hc
    have e0 : ad.add 0 = ad := by simp [Addr.add]
    rw [e0] at hc
    clear hx hlen e0
    by_cases hx1 : x = 1
    · subst hx1
      go_enter Tryz.func142, Tryz.ntmps142
      go_wp2
      go_ret
      exact ⟨rfl, rfl⟩
    · have hx0 : (((x : Nat) : Int) == 1) = false := by rw [beq_eq_false_iff_ne]; omega
      go_enter Tryz.func142, Tryz.ntmps142
      go_wp2
      go_ret
      exact ⟨by simp [hx1], rfl⟩
  · have hx0 : (((n : Nat) : Int) == 1) = false := by rw [beq_eq_false_iff_ne]; omega
    have hx : x ≠ 1 := by
      rintro rfl
      rw [digs_pos (by omega)] at hlen
      rw [show 1 / B = 0 from by decide, digs_zero] at hlen
      simp at hlen
      omega
    clear hlen
    go_enter Tryz.func142, Tryz.ntmps142
    go_wp2
    go_ret
    exact ⟨by simp [hx], rfl⟩

end Go.Proofs.YtboaojkblmddkaaGreatDoor

/- Rows of one's own: a block that the call made, which holds words; what is kept while only such a block turns. -/
namespace Go.Proofs.YtboaojkblmddkaaGreatDoor
open Go.RowKit Bn

/-- a row of one's own at block g: a slice of n words, c of them allotted, holds these words -/
def RowAt (w : World) (base g n c : Nat) (l : List Nat) : Prop := w.ownsRow base 199 1 (.slice (some ⟨g, 0, none⟩) n c) n (l.map u64v)

section
variable {w w' : World} {base g n c : Nat} {l : List Nat}
theorem RowAt.len (h : RowAt w base g n c l) : l.length = n := by
  have := h.1; rw [List.length_map] at this; omega
theorem RowAt.cell (h : RowAt w base g n c l) (k : Nat) (hk : k < n) : w.cell? ⟨g, k, none⟩ = some (.int .u64 ((l.getD k 0 : Nat) : Int)) := by
  have hl : k < l.length := by rw [h.len]; exact hk
  rw [World.ownsRow.cellAt h k (by omega)]
  simp [u64v, List.getD, hl]
theorem RowAt.free (h : RowAt w base g n c l) (k : Nat) : w.frozen? ⟨g, k, none⟩ = false := World.ownsRow.frozenAt h k
theorem RowAt.set (h : RowAt w base g n c l) (k x : Nat) : RowAt (w.setCell ⟨g, k, none⟩ (.int .u64 (x : Int))) base g n c (l.set k x) := by
  have := (World.ownsRow.stored h k (u64v x)).1
  unfold RowAt
  rw [List.map_set]
  exact this
theorem RowAt.lt (h : RowAt w base g n c l) : base ≤ g ∧ g < w.heap.size := World.ownsRow.lt h g rfl
theorem RowAt.words (h : RowAt w base g n c l) : WordsAt w w.heap.size (some ⟨g, 0, none⟩) n l := Reads.of_own h
theorem RowAt.kept {row : Option Nat} (h : RowAt w base g n c l) (hg : w.grownBy w' row) (hr : row ≠ some g) : RowAt w' base g n c l :=
  World.ownsRow.kept h hg (.inr (by simpa [Value.ownBlock] using fun e => hr e.symm))
theorem RowAt.below (h : RowAt w base g n c l) (hb : Below w.heap.size w w') : RowAt w' base g n c l :=
  h.kept (World.grownBy.mk hb.os hb.tape hb.output hb.size (fun i hi _ => hb.block i hi) : w.grownBy w' none) (by simp)
theorem RowAt.drewN (h : RowAt w base g n c l) (q : Nat) : RowAt (w.drewN q) base g n c l := h
theorem RowAt.alloc (h : RowAt w base g n c l) (o : Obj) : RowAt (w.alloc o) base g n c l := World.ownsRow.alloc h o
theorem RowAt.caps (h : RowAt w base g n c l) : n ≤ c ∧ c ≤ maxLen := by
  rcases h.2 with ⟨h', _⟩ | ⟨g', cap', cur, h', hb, hg, hnc, hcm, hcs, htake⟩
  · simp at h'
  · simp only [Value.slice.injEq] at h'
    obtain ⟨_, _, rfl⟩ := h'
    exact ⟨hnc, hcm⟩
theorem RowAt.mono {base' : Nat} (h : RowAt w base g n c l) (hb : base' ≤ base) : RowAt w base' g n c l := by
  refine ⟨h.1, ?_⟩
  rcases h.2 with h' | ⟨g', cap', cur, h', hb', r⟩
  · exact .inl h'
  · exact .inr ⟨g', cap', cur, h', by omega, r⟩
/-- a cut to the first m words -/
theorem RowAt.take {m : Nat} (h : RowAt w base g n c l) (hm : m ≤ n) : RowAt w base g m c (l.take m) := by
  refine ⟨by rw [List.length_map, List.length_take, h.len]; omega, ?_⟩
  rcases h.2 with ⟨h', _⟩ | ⟨g', cap', cur, h', hb, hg, hnc, hcm, hcs, htake⟩
  · simp at h'
  · simp only [Value.slice.injEq, Option.some.injEq, Addr.mk.injEq, and_true, true_and] at h'
    obtain ⟨rfl, rfl⟩ := h'
    refine .inr ⟨g, c, cur, rfl, hb, hg, by omega, hcm, hcs, ?_⟩
    rw [List.map_take, ← htake, List.take_take]
    congr 1
    omega
theorem RowAt.nat {x : Nat} (h : RowAt w base g n c (digs x)) : NatS w w.heap.size (some ⟨g, 0, none⟩) n c x := ⟨h.words, h.caps.1, h.caps.2⟩
end

/-- 'make' of n words -/
theorem RowAt.made {w1 : World} {base g n : Nat} (h : w1.ownsRow base 199 1 (.slice (some ⟨g, 0, none⟩) n n) n (madeCells #[Value.int .u64 0] n).toList) :
    RowAt w1 base g n n (List.replicate n 0) := by
  unfold RowAt
  rw [List.map_replicate]
  rwa [toList_madeCells_one] at h

/-- 'trimmed' of a row of one's own -/
theorem trimmed_row (base g n c : Nat) (l : List Nat) (w : World) (hr : RowAt w base g n c l) (hw : Wf l) :
    Calls Tryz.prog 173 #[.slice (some ⟨g, 0, none⟩) n c] w fun e w' => ∃ m, e = .returned (.slice (some ⟨g, 0, none⟩) m c) ∧ RowAt w base g m c (digs (val l)) ∧ w = w' :=
  (trimmed_any w.heap.size _ n c l w hr.words hw hr.caps.1 hr.caps.2).mono fun e w' ⟨m, he, hm, ht, hww⟩ => ⟨m, he, by
    have h := hr.take hm
    rwa [ht] at h, hww⟩

/-! ### only block g, and what is new, has turned -/
theorem only_drewN {a w : World} {row : Option Nat} (h : a.grownBy w row) (n : Nat) : a.grownBy (w.drewN n) row := ⟨h.os, h.tape, h.output, h.size, h.block⟩
theorem only_drew {a w : World} {row : Option Nat} (h : a.grownBy w row) : a.grownBy w.drew row := ⟨h.os, h.tape, h.output, h.size, h.block⟩
theorem only_alloc {a w : World} {row : Option Nat} (h : a.grownBy w row) (o : Obj) : a.grownBy (w.alloc o) row :=
  ⟨h.os, h.tape, h.output, Nat.le_trans h.size (by simp), fun i hi hne => (Below.heap_alloc w o i (Nat.lt_of_lt_of_le hi h.size)).trans (h.block i hi hne)⟩
theorem only_setCell {a w : World} {g : Nat} (h : a.grownBy w (some g)) {p : Addr} (hp : p.block = g ∨ a.heap.size ≤ p.block) (u : Value) : a.grownBy (w.setCell p u) (some g) :=
  ⟨h.os, h.tape, h.output, by simpa [World.setCell] using h.size, fun i hi hne => (Below.heap_setCell w p u i (by
    rintro rfl
    rcases hp with hp | hp
    · exact hne (by rw [hp])
    · omega)).trans (h.block i hi hne)⟩
theorem only_of_below {a w : World} (h : Below a.heap.size a w) (row : Option Nat) : a.grownBy w row := ⟨h.os, h.tape, h.output, h.size, fun i hi _ => h.block i hi⟩
theorem only_trans {a b c : World} {g : Nat} (h : a.grownBy b (some g)) (k : b.grownBy c (some g)) : a.grownBy c (some g) :=
  ⟨k.os.trans h.os, k.tape.trans h.tape, k.output.trans h.output, Nat.le_trans h.size k.size, fun i hi hne => (k.block i (Nat.lt_of_lt_of_le hi h.size) hne).trans (h.block i hi hne)⟩
theorem only_below {a b c : World} {g : Nat} (h : a.grownBy b (some g)) (k : Below b.heap.size b c) : a.grownBy c (some g) := only_trans h (only_of_below k _)

/-- the slice does not lie in block g -/
def Off (A : Option Addr) (g : Nat) : Prop := ∀ ad, A = some ad → ad.block ≠ g

theorem WordsAt.kept {w w' : World} {B n g : Nat} {A : Option Addr} {l : List Nat} (h : WordsAt w B A n l) (hg : w.grownBy w' (some g)) (hB : B ≤ w.heap.size) (ho : 0 < n → Off A g) : WordsAt w' B A n l :=
  ⟨h.1, fun hn => by
    obtain ⟨ad, e, hb, hc⟩ := h.2 hn
    refine ⟨ad, e, hb, fun j u hu => ?_⟩
    rw [← hc j u hu]
    exact World.cell?_of_block (hg.block (ad.add j).block (by rw [block_of_add]; omega) (by rw [block_of_add]; intro e'; exact ho hn ad e (by injection e')))⟩
theorem NatS.kept {w w' : World} {n c x g : Nat} {A : Option Addr} (h : NatS w w.heap.size A n c x) (hg : w.grownBy w' (some g)) (ho : 0 < n → Off A g) : NatS w' w'.heap.size A n c x :=
  ⟨(h.words.kept hg (Nat.le_refl _) ho).more hg.size, h.nc, h.cm⟩

theorem NatS.off {w : World} {n c x g : Nat} {A : Option Addr} (h : NatS w w.heap.size A n c x) (hg : w.heap.size ≤ g) : 0 < n → Off A g := by
  intro h0 ad e he
  obtain ⟨ad', e', hb, _⟩ := h.words.2 h0
  rw [e] at e'
  injection e' with e'
  subst e'
  omega

/-- what is returned is nil and x is 0, or a row of one's own that reads as x -/
def NatRow (base x : Nat) (e : Ending) (w' : World) : Prop :=
  (e = .returned (.slice none 0 0) ∧ x = 0) ∨ ∃ g m c, e = .returned (.slice (some ⟨g, 0, none⟩) m c) ∧ RowAt w' base g m c (digs x)

theorem NatS.nil (w : World) (B : Nat) : NatS w B none 0 0 0 := ⟨by rw [digs_zero]; exact Reads.none_, Nat.le_refl _, by unfold maxLen; omega⟩
theorem NatRow.ret {w w' : World} {x : Nat} {e : Ending} (h : NatRow w.heap.size x e w') (hb : Below w.heap.size w w') : RetNat w x e w' := by
  rcases h with ⟨rfl, rfl⟩ | ⟨g, m, c, rfl, hr⟩
  · exact ⟨none, 0, 0, rfl, NatS.nil _ _, hb⟩
  · exact ⟨_, m, c, rfl, hr.nat, hb⟩

end Go.Proofs.YtboaojkblmddkaaGreatDoor

/- Contracts of math.Ldexp and what it calls. -/
namespace Go.Proofs.YtboaojkblmddkaaGreatDoor
open Go.RowKit

theorem call_bits (x : Nat) (w : World) : (callFunc 166 #[.float .f64 x]).run Tryz.prog w = .ok (.value (.int .u64 x)) w := by
  rw [run_callFunc_extern Tryz.func166 (by kernel_rfl) (by kernel_rfl) (by kernel_rfl) (e := Extern.MathFloatBits.float64bits) (by kernel_rfl)]
  rfl
theorem call_frombits (x : Nat) (w : World) : (callFunc 168 #[.int .u64 x]).run Tryz.prog w = .ok (.value (.float .f64 x)) w := by
  rw [run_callFunc_extern Tryz.func168 (by kernel_rfl) (by kernel_rfl) (by kernel_rfl) (e := Extern.MathFloatBits.float64frombits) (by kernel_rfl)]
  rfl

/-- without its sign -/
def absB (x : Nat) : Nat := x % 9223372036854775808

theorem andNot_abs (x : Nat) (hx : x < 18446744073709551616) : bits BinOp.andNot IntKind.u64 (x : Int) 9223372036854775808 = ((absB x : Nat) : Int) := by
  have h := u64_andNot_nat x 9223372036854775808 hx (by omega)
  have e : x &&& (18446744073709551615 - 9223372036854775808) = absB x := by
    rw [show 18446744073709551615 - 9223372036854775808 = 2 ^ 63 - 1 from by decide, Nat.and_two_pow_sub_one_eq_mod]; rfl
  rw [e] at h
  exact h

theorem isNaN_any (x : Nat) (w : World) : Calls Tryz.prog 131 #[.float .f64 x] w fun e w' => e = .returned (.bool (FloatKind.f64.format.order x x != some .eq)) ∧ w = w' := by
  go_enter Tryz.func131, Tryz.ntmps131
  go_wp2
  go_ret
  exact ⟨rfl, rfl⟩

theorem abs_any (x : Nat) (w : World) (hx : x < 18446744073709551616) : Calls Tryz.prog 162 #[.float .f64 x] w fun e w' => e = .returned (.float .f64 (absB x)) ∧ w = w' := by
  have h1 := andNot_abs x hx
  have hb := call_bits x
  have hf := call_frombits (absB x)
  go_enter Tryz.func162, Tryz.ntmps162
  go_wp2
  go_ret
  exact ⟨rfl, rfl⟩

theorem isInf_any (x : Nat) (w : World) (hx : x < 18446744073709551616) : Calls Tryz.prog 132 #[.float .f64 x, .int .i64 0] w fun e w' => e = .returned (.bool (FloatKind.f64.format.order (absB x) 9218868437227405311 == some .gt)) ∧ w = w' := by
  go_enter Tryz.func132, Tryz.ntmps132
  go_wp2_with fail
  refine (abs_any x _ hx).mono ?_
  rintro e w1 ⟨rfl, rfl⟩
  go_wp2
  go_ret
  exact ⟨rfl, rfl⟩

/-- a normal number, as the tests of the library find it -/
structure Norm64 (x : Nat) : Prop where
  lt : x < 18446744073709551616
  nz : (FloatKind.f64.format.order x 0 == some .eq) = false
  inf : (FloatKind.f64.format.order (absB x) 9218868437227405311 == some .gt) = false
  nan : (FloatKind.f64.format.order x x != some .eq) = false
  big : (FloatKind.f64.format.order (absB x) 4503599627370496 == some .lt) = false

theorem normalize_any (x : Nat) (w : World) (h : Norm64 x) : Calls Tryz.prog 165 #[.float .f64 x] w fun e w' => e = .returned (.tuple #[.float .f64 x, .int .i64 0]) ∧ w = w' := by
  have hb := h.big
  go_enter Tryz.func165, Tryz.ntmps165
  go_wp2_with fail
  refine (abs_any x _ h.lt).mono ?_
  rintro e w1 ⟨rfl, rfl⟩
  go_wp2
  go_ret2
  exact ⟨rfl, rfl⟩

/-- a number with another exponent -/
def ldY (x : Nat) (m : Int) : Nat := x % 4503599627370496 + x / 9223372036854775808 * 9223372036854775808 + (m + 1023).toNat * 4503599627370496

theorem andNot_exp (x : Nat) (hx : x < 18446744073709551616) : bits BinOp.andNot IntKind.u64 (x : Int) 9218868437227405312 = ((x % 4503599627370496 + x / 9223372036854775808 * 9223372036854775808 : Nat) : Int) := by
  have h := u64_andNot_nat x 9218868437227405312 hx (by omega)
  have e : x &&& (18446744073709551615 - 9218868437227405312) = x % 4503599627370496 + x / 9223372036854775808 * 9223372036854775808 := by
    have e1 : 18446744073709551615 - 9218868437227405312 = 2 ^ 63 ||| (2 ^ 52 - 1) := by decide
    rw [e1, Nat.and_or_distrib_left, Nat.and_two_pow_sub_one_eq_mod, nat_bit]
    have h7 : (2 : Nat) ^ 52 = 4503599627370496 := by decide
    have h8 : (2 : Nat) ^ 63 = 9223372036854775808 := by decide
    rw [nat_join 63 _ _ (Nat.mul_mod_left _ _) (by rw [h7, h8]; omega), h7, h8]
    omega
  rw [e] at h
  exact h

theorem i64_and2047 (n : Nat) : bits BinOp.and IntKind.i64 (n : Int) 2047 = ((n % 2048 : Nat) : Int) := by
  have h127 : (BitVec.ofInt 64 2047).toNat = 2 ^ 11 - 1 := by decide
  have key : (BitVec.ofInt 64 (n : Int) &&& BitVec.ofInt 64 2047).toNat = ((n : Int) % ((2 ^ 64 : Nat) : Int)).toNat % 2 ^ 11 := by
    rw [BitVec.toNat_and, BitVec.toNat_ofInt, h127, Nat.and_two_pow_sub_one_eq_mod]
  show IntKind.i64.wrap ((BitVec.ofInt 64 (n : Int) &&& BitVec.ofInt 64 2047).toNat : Nat) = _
  rw [key, IntKind.wrap_i64]
  omega

theorem or_exp (x : Nat) (k : Nat) (hx : x < 18446744073709551616) (hk : k < 2048) :
    bits BinOp.or IntKind.u64 ((x % 4503599627370496 + x / 9223372036854775808 * 9223372036854775808 : Nat) : Int) ((k * 4503599627370496 : Nat) : Int) = ((x % 4503599627370496 + x / 9223372036854775808 * 9223372036854775808 + k * 4503599627370496 : Nat) : Int) := by
  have hs : x / 9223372036854775808 < 2 := by omega
  generalize x / 9223372036854775808 = s at hs ⊢
  have hf : x % 4503599627370496 < 4503599627370496 := Nat.mod_lt _ (by omega)
  generalize x % 4503599627370496 = f at hf ⊢
  rw [u64_or_nat _ _ (by omega) (by omega)]
  have h7 : (2 : Nat) ^ 52 = 4503599627370496 := by decide
  have h8 : (2 : Nat) ^ 63 = 9223372036854775808 := by decide
  have a1 := Nat.two_pow_add_eq_or_of_lt (i := 63) (b := f) (by rw [h8]; omega) s
  have a2 := Nat.two_pow_add_eq_or_of_lt (i := 52) (b := f) (by rw [h7]; omega) k
  have a3 := Nat.two_pow_add_eq_or_of_lt (i := 63) (b := 2 ^ 52 * k + f) (by rw [h7, h8]; omega) s
  have e1 : f + s * 9223372036854775808 = 2 ^ 63 * s + f := by rw [h8]; omega
  have e2 : k * 4503599627370496 = 2 ^ 52 * k := by rw [h7]; omega
  congr 1
  rw [e1, e2, a1, Nat.or_assoc, Nat.or_comm f, ← a2, ← a3, a1.symm]
  omega

set_option maxHeartbeats 1000000 in
set_option maxRecDepth 100000 in
theorem ldexp_in (x : Nat) (e m : Int) (r : Nat) (w : World) (h : Norm64 x) (he : -9223372036854775808 ≤ e ∧ e < 9223372036854775808) (hm : m = e + ((x / 4503599627370496 % 2048 : Nat) : Int) - 1023) (hm1 : -1022 ≤ m) (hm2 : m ≤ 1023)
    (hr : floatBits .mul .f64 4607182418800017408 (ldY x m) = some r) : Calls Tryz.prog 135 #[.float .f64 x, .int .i64 e] w fun e w' => e = .returned (.float .f64 r) ∧ w = w' := by
  have hz := h.nz
  have hin := isInf_any x w h.lt
  rw [h.inf] at hin
  have hnn := isNaN_any x w
  rw [h.nan] at hnn
  have hno := normalize_any x w h
  have hcb := call_bits x
  have f1 : wrap64 ((x : Int) / 4503599627370496) = ((x / 4503599627370496 : Nat) : Int) := by
    have := h.lt
    rw [IntWalk.wrap64_in _ (by omega)]; rfl
  have f2 : bits BinOp.and IntKind.i64 ((x / 4503599627370496 : Nat) : Int) 2047 = ((x / 4503599627370496 % 2048 : Nat) : Int) := i64_and2047 _
  have f4 : wrap64 e = e := IntWalk.wrap64_in _ (by omega)
  have hE : x / 4503599627370496 % 2048 < 2048 := Nat.mod_lt _ (by omega)
  have f3 : wrap64 (((x / 4503599627370496 % 2048 : Nat) : Int) - 1023) = ((x / 4503599627370496 % 2048 : Nat) : Int) - 1023 := IntWalk.wrap64_in _ (by omega)
  have f5 : wrap64 (e + (((x / 4503599627370496 % 2048 : Nat) : Int) - 1023)) = m := by rw [IntWalk.wrap64_in _ (by omega)]; omega
  obtain ⟨k, hk⟩ : ∃ k : Nat, m = (k : Int) - 1023 := ⟨(m + 1023).toNat, by omega⟩
  subst hk
  have hk1 : 1 ≤ k := by omega
  have hk2 : k ≤ 2046 := by omega
  have f6 := andNot_exp x h.lt
  have f7 := or_exp x k h.lt (by omega)
  have f8 : ((k * 4503599627370496 : Nat) : Int) = (k : Int) * 4503599627370496 := by omega
  rw [f8] at f7
  have hY : ldY x ((k : Int) - 1023) = x % 4503599627370496 + x / 9223372036854775808 * 9223372036854775808 + k * 4503599627370496 := by
    unfold ldY; rw [show (k : Int) - 1023 + 1023 = (k : Int) from by omega]; rfl
  rw [hY] at hr
  generalize x % 4503599627370496 + x / 9223372036854775808 * 9223372036854775808 + k * 4503599627370496 = Y at f7 hr
  generalize x % 4503599627370496 + x / 9223372036854775808 * 9223372036854775808 = F at f6 f7
  have hmul := fun W : World => run_float_arith (P := Tryz.prog) W .mul 172 .f64 4607182418800017408 Y r hr
  have hfb := call_frombits Y
  generalize x / 4503599627370496 % 2048 = E at *
  generalize x / 4503599627370496 = X at *
  have hin2 := Lib.hid hin
  clear hin hm hr hY hm1 hm2 he
  go_enter Tryz.func135, Tryz.ntmps135
  go_wp2_with fail
  refine hin2.out.mono ?_
  rintro e w1 ⟨rfl, rfl⟩
  go_wp2_with fail
  refine hnn.mono ?_
  rintro e w1 ⟨rfl, rfl⟩
  go_wp2_with fail
  refine hno.mono ?_
  rintro e w1 ⟨rfl, rfl⟩
  go_wp2_with fail
  go_ret
  exact ⟨rfl, rfl⟩

end Go.Proofs.YtboaojkblmddkaaGreatDoor
