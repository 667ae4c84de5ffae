/- Contracts of package probe, chapter 2. -/
import Derived.Test.YtboaojkblmddkaaGreatDoorCDre
import Derived.Maps.OwnOps
import Derived.Test.YtboaojkblmddkaaGreatDoorCCode
import Derived.Test.YtboaojkblmddkaaGreatDoorCEx1
import Derived.Test.YtboaojkblmddkaaGreatDoorCTrn
import Derived.Test.YtboaojkblmddkaaGreatDoorCAd2
import Derived.Maps.AppendAt
import Derived.IntWalk
namespace Go.Proofs.YtboaojkblmddkaaGreatDoor
open Go.RowKit Bn
open Flt

set_option maxHeartbeats 1000000 in
theorem checkInner_ok (a : Nat) (st z c E : Int) (g o : ByteArray) (w : World) (hT : Tabs w) (h : Conv a st z g o) (hc : 0 ≤ c ∧ c ≤ ((2 ^ a - 1 : Nat) : Int)) (hE : (if c = 0 ∨ c = ((2 ^ a - 1 : Nat) : Int) then 15 else 0) = E) :
    Calls Tryz.prog 101 #[.agg #[.int .i64 a, .int .i64 st, .int .i64 z, .string g, .string o], .int .i64 c] w fun e w' => e = .returned (.int .i64 E) ∧ Below w.heap.size w w' := by
  have hb0 : Below w.heap.size w (w.alloc (.cells #[.int .i64 a, .int .i64 st, .int .i64 z, .string g, .string o] 91)) := (Below.refl _ _).alloc (Nat.le_refl _) _
  have q0 : CBlk (w.alloc (.cells #[.int .i64 a, .int .i64 st, .int .i64 z, .string g, .string o] 91)) w.heap.size #[.int .i64 a, .int .i64 st, .int .i64 z, .string g, .string o] 91 := CBlk.new w _ _ _ rfl
  have x0 := q0.cell 0
  have x1 := q0.cell 1
  have x2 := q0.cell 2
  have x3 := q0.cell 3
  have x4 := q0.cell 4
  have HC := Lib.hid (checkCode_ok a st z c g o _ (hT.later hb0) h hc)
  have HI := Lib.hid (fun W => isEnd_any a st z c (.string g) (.string o) W (by have := h.bits; omega))
  generalize ((2 ^ a - 1 : Nat) : Int) = T at *
  clear h hc
  by_cases hd : c = 0 ∨ c = T
  · rw [if_pos hd] at hE
    rw [decide_eq_true hd] at HI
    subst hE
    clear hd
    go_enter Tryz.func101, Tryz.ntmps101
    go_wp2_with fail
    generalize w.alloc (.cells #[.int .i64 a, .int .i64 st, .int .i64 z, .string g, .string o] 91) = w1 at *
    refine HC.out.mono ?_
    rintro e w2 ⟨rfl, hb2⟩
    have q2 := q0.below hb2 q0.lt
    clear x0 x1 x2 x3 x4
    have x0 := q2.cell 0
    have x1 := q2.cell 1
    have x2 := q2.cell 2
    have x3 := q2.cell 3
    have x4 := q2.cell 4
    have hB2 := hb0.trans (hb2.mono hb0.size)
    go_wp2_with fail
    refine (HI.out w2).mono ?_
    rintro e w3 ⟨rfl, hb3⟩
    go_wp2_with fail
    go_ret
    exact ⟨rfl, hB2.trans (hb3.mono hB2.size)⟩
  · rw [if_neg hd] at hE
    rw [decide_eq_false hd] at HI
    subst hE
    clear hd
    go_enter Tryz.func101, Tryz.ntmps101
    go_wp2_with fail
    generalize w.alloc (.cells #[.int .i64 a, .int .i64 st, .int .i64 z, .string g, .string o] 91) = w1 at *
    refine HC.out.mono ?_
    rintro e w2 ⟨rfl, hb2⟩
    have q2 := q0.below hb2 q0.lt
    clear x0 x1 x2 x3 x4
    have x0 := q2.cell 0
    have x1 := q2.cell 1
    have x2 := q2.cell 2
    have x3 := q2.cell 3
    have x4 := q2.cell 4
    have hB2 := hb0.trans (hb2.mono hb0.size)
    go_wp2_with fail
    refine (HI.out w2).mono ?_
    rintro e w3 ⟨rfl, hb3⟩
    go_wp2_with fail
    go_ret
    exact ⟨rfl, hB2.trans (hb3.mono hB2.size)⟩

set_option maxHeartbeats 1000000 in
theorem Interval_end (a : Nat) (st z : Int) (g o : ByteArray) (w : World) (hT : Tabs w) (h : Conv a st z g o) :
    Calls Tryz.prog 56 #[.agg #[.int .i64 a, .int .i64 st, .int .i64 z, .string g, .string o], .int .i64 0] w fun e w' => e = .returned (.tuple #[.agg #[.string { data := #[] }, .string { data := #[] }], .int .i64 15]) ∧ Below w.heap.size w w' := by
  have hb0 : Below w.heap.size w ((w.alloc (.cells #[.int .i64 a, .int .i64 st, .int .i64 z, .string g, .string o] 91)).alloc (.cells #[.string { data := #[] }, .string { data := #[] }] 94)) := ((Below.refl _ _).alloc (Nat.le_refl _) _).alloc (by simp) _
  have q0 : CBlk ((w.alloc (.cells #[.int .i64 a, .int .i64 st, .int .i64 z, .string g, .string o] 91)).alloc (.cells #[.string { data := #[] }, .string { data := #[] }] 94)) w.heap.size #[.int .i64 a, .int .i64 st, .int .i64 z, .string g, .string o] 91 := (CBlk.new w _ _ _ rfl).below ((Below.refl _ _).alloc (Nat.le_refl _) _) (by simp)
  have s0 : CBlk ((w.alloc (.cells #[.int .i64 a, .int .i64 st, .int .i64 z, .string g, .string o] 91)).alloc (.cells #[.string { data := #[] }, .string { data := #[] }] 94)) (w.heap.size + 1) #[.string { data := #[] }, .string { data := #[] }] 94 := CBlk.new _ _ _ _ (by simp)
  have HC := Lib.hid (checkInner_ok a st z 0 15 g o _ (hT.later hb0) h ⟨by omega, by omega⟩ (by simp))
  have x0 := q0.cell 0
  have x1 := q0.cell 1
  have x2 := q0.cell 2
  have x3 := q0.cell 3
  have x4 := q0.cell 4
  clear h
  go_enter Tryz.func56, Tryz.ntmps56
  go_wp2_with fail
  generalize ((w.alloc (.cells #[.int .i64 a, .int .i64 st, .int .i64 z, .string g, .string o] 91)).alloc (.cells #[.string { data := #[] }, .string { data := #[] }] 94)) = w1 at *
  refine HC.out.mono ?_
  rintro e w2 ⟨rfl, hb2⟩
  have s6 := s0.below hb2 s0.lt
  have hB6 := hb0.trans (hb2.mono hb0.size)
  clear x0 x1 x2 x3 x4
  have r0 := s6.cell 0
  have r1 := s6.cell 1
  have f0 := s6.frozen 0
  have f1 := s6.frozen 1
  have hset := two_set hB6 (g := w.heap.size + 1) (by omega) (.string { data := #[] }) (.string { data := #[] })
  clear HC
  go_wp2_with fail
  refine bodyPost_ret (v := .tuple #[.agg #[.string { data := #[] }, .string { data := #[] }], .int .i64 15]) (by simp [results, Tryz.results56, go_sem, r0, r1]) rfl ⟨rfl, hset⟩

set_option maxHeartbeats 1000000 in
theorem sample_ok (s : ByteArray) (a k : Nat) (st z : Int) (g o : ByteArray) (w : World) (hT : Tabs w) (h : Conv a st z g o) (hs : s.size ≤ 4294967296) (C D : Int) (y : Nat)
    (hk : k ≤ 2 ^ a + 1) (hlo : ∀ t : Nat, t < k → belowB s.data.toList (nearF s.data.toList) (nomW (2 * ((t : Int) - z) - 1) (st - 1)) = false)
    (hhi : ∀ t : Nat, k ≤ t → t < 2 ^ a + 1 → belowB s.data.toList (nearF s.data.toList) (nomW (2 * ((t : Int) - z) - 1) (st - 1)) = true)
    (hC : (if k = 0 then (0 : Int) else if k = 2 ^ a + 1 then ((2 ^ a - 1 : Nat) : Int) else (k : Int) - 1) = C) (hD : (if k = 0 then (-1 : Int) else if k = 2 ^ a + 1 then 1 else 0) = D) (hC2 : 0 ≤ C ∧ C ≤ 4095) (hy : nomW (C - z) st = y) :
    Calls Tryz.prog 89 #[.agg #[.int .i64 a, .int .i64 st, .int .i64 z, .string g, .string o], .string s] w fun e w' => e = .returned (.float .f32 y) ∧ Below w.heap.size w w' := by
  have hp : 2 ^ a ≤ 2 ^ 12 := Nat.pow_le_pow_right (by omega) h.bits.2
  have hz := h.zero
  have hb0 : Below w.heap.size w (w.alloc (.cells #[.int .i64 a, .int .i64 st, .int .i64 z, .string g, .string o] 91)) := (Below.refl _ _).alloc (Nat.le_refl _) _
  have q0 : CBlk (w.alloc (.cells #[.int .i64 a, .int .i64 st, .int .i64 z, .string g, .string o] 91)) w.heap.size #[.int .i64 a, .int .i64 st, .int .i64 z, .string g, .string o] 91 := CBlk.new w _ _ _ rfl
  have x0 := q0.cell 0
  have x1 := q0.cell 1
  have x2 := q0.cell 2
  have x3 := q0.cell 3
  have x4 := q0.cell 4
  have HV := Lib.hid (code_any s a k st z (.string g) (.string o) _ (hT.later hb0) hs h.bits.2 (by omega) (by have := h.step; omega) (by have := h.step; omega) hk hlo hhi)
  rw [hC, hD] at HV
  have HN := Lib.hid (fun W => nominal_any a st z C (.string g) (.string o) W (by omega) (by omega) (by have := h.step; omega) (by have := h.step; omega))
  rw [hy] at HN
  clear h hz hp hlo hhi hk hC hD hC2 hy
  go_enter Tryz.func89, Tryz.ntmps89
  go_wp2_with fail
  generalize w.alloc (.cells #[.int .i64 a, .int .i64 st, .int .i64 z, .string g, .string o] 91) = w1 at *
  refine HV.out.mono ?_
  rintro e w2 ⟨rfl, hb2⟩
  have q2 := q0.below hb2 q0.lt
  clear x0 x1 x2 x3 x4
  have x0 := q2.cell 0
  have x1 := q2.cell 1
  have x2 := q2.cell 2
  have x3 := q2.cell 3
  have x4 := q2.cell 4
  have hB2 := hb0.trans (hb2.mono hb0.size)
  go_wp2_with fail
  refine (HN.out w2).mono ?_
  rintro e w3 ⟨rfl, hb3⟩
  go_wp2_with fail
  go_ret
  exact ⟨rfl, hB2.trans (hb3.mono hB2.size)⟩

end Go.Proofs.YtboaojkblmddkaaGreatDoor

/- Maps with floats as keys that a call makes itself: storing a new key, looking one up. -/
namespace Go.Proofs.YtboaojkblmddkaaGreatDoor
open Go.RowKit Bn

/-- the entry of the number c in a map from the floats f to their numbers -/
def fent (f : Nat → Nat) (c : Nat) : MapEntry := ⟨.float .f32 (f c), .int .i64 (c : Int), c⟩
/-- the entries of such a map -/
def fents (f : Nat → Nat) (n : Nat) : Array MapEntry := ((List.range n).map (fent f)).toArray

theorem run_equalIn_f32 {P : Program} {t : TypeId} (ht : P.underlying t = some (.float .f32)) (a b n : Nat) (w : World) : (Op.equalIn (n + 1) t (.float .f32 a) (.float .f32 b)).run P w = .ok (Op.floatEq .f32 a b) w := by
  simp [Op.equalIn, run_underlying ht, Result.andThen]
theorem run_equal_f32 {P : Program} {t : TypeId} (ht : P.underlying t = some (.float .f32)) (a b : Nat) (w : World) : (Op.equal t (.float .f32 a) (.float .f32 b)).run P w = .ok (Op.floatEq .f32 a b) w := run_equalIn_f32 ht a b 9999 w

theorem ask_none {P : Program} {t : TypeId} {x : Nat} {w : World} (ht : P.underlying t = some (.float .f32)) (f : Nat → Nat) : ∀ (l : List Nat) (i : Nat), (∀ c ∈ l, Op.floatEq .f32 x (f c) = false) →
    (Instr.findAsking t (.float .f32 x) (l.map (fent f)) i).run P w = .ok none w
  | [], _, _ => by simp [Instr.findAsking]
  | c :: l, i, h => by
    have h1 := h c List.mem_cons_self
    have h2 := ask_none (w := w) ht f l (i + 1) (fun d hd => h d (List.mem_cons_of_mem _ hd))
    rw [List.map_cons]
    unfold Instr.findAsking
    simp [fent, run_equal_f32 ht, h1, Result.andThen]
    exact h2

theorem ask_some {P : Program} {t : TypeId} {x : Nat} {w : World} (ht : P.underlying t = some (.float .f32)) (f : Nat → Nat) (m : List Nat) (k : Nat) (hk : Op.floatEq .f32 x (f k) = true) : ∀ (l : List Nat) (i : Nat), (∀ c ∈ l, Op.floatEq .f32 x (f c) = false) →
    (Instr.findAsking t (.float .f32 x) ((l ++ k :: m).map (fent f)) i).run P w = .ok (some (i + l.length, .int .i64 (k : Int))) w
  | [], i, _ => by
    rw [List.nil_append, List.map_cons]
    unfold Instr.findAsking
    simp [fent, run_equal_f32 ht, hk, Result.andThen]
  | c :: l, i, h => by
    have h1 := h c List.mem_cons_self
    have h2 := ask_some (w := w) ht f m k hk l (i + 1) (fun d hd => h d (List.mem_cons_of_mem _ hd))
    rw [List.cons_append, List.map_cons]
    unfold Instr.findAsking
    simp [fent, run_equal_f32 ht, h1, Result.andThen]
    rw [List.map_append, List.map_cons] at h2
    simp only [fent] at h2
    rw [h2]
    simp; omega

theorem key_ask {P : Program} {t : TypeId} {x : Nat} {w : World} (ht : P.underlying t = some (.float .f32)) (f : Nat → Nat) (l : List Nat) (r : Option (Nat × Value)) (h : (Instr.findAsking t (.float .f32 x) (l.map (fent f)) 0).run P w = .ok r w) :
    (Instr.findKey t (.float .f32 x) (l.map (fent f))).run P w = .ok r w := by
  unfold Instr.findKey
  cases l with
  | nil => simpa [Instr.findAsking, Instr.findNow, run_underlying ht, Result.andThen] using h
  | cons c l =>
    have e : Instr.findNow (.float .f32) (.float .f32 x) ((c :: l).map (fent f)) 0 = none := rfl
    simp only [Sem.run_bind, run_underlying ht, Result.andThen, e]
    exact h

theorem checkn_f32 {P : Program} {t : TypeId} (ht : P.underlying t = some (.float .f32)) (x n : Nat) (b : Bool) (w : World) : (Instr.checkKey b (n + 1) t (.float .f32 x)).run P w = .ok () w := by
  simp [Instr.checkKey, run_underlying ht, Result.andThen]
theorem check_f32 {P : Program} {t : TypeId} (ht : P.underlying t = some (.float .f32)) (x : Nat) (b : Bool) (w : World) : (Instr.checkKey b 10000 t (.float .f32 x)).run P w = .ok () w := checkn_f32 ht x 9999 b w

theorem fents_push (f : Nat → Nat) (n : Nat) : (fents f n).push (fent f n) = fents f (n + 1) := by
  unfold fents
  rw [List.range_succ, List.map_append]
  simp

/-- 'm[x] = n' of a new key -/
theorem wpList_update_f32 {P : Program} (w : World) {ops : Array Oper} {rest : List Oper} {o : Oper} {a : Act} {Q : Exit → Act → World → Prop}
    (hg : o.guard = none) (m x v : Operand) (t : TypeId) (hop : o.op = Op.mapUpdate t m x v) (k e : TypeId) (ht : P.underlying t = some (.map k e)) (hk : P.underlying k = some (.float .f32))
    (b n : Nat) (f : Nat → Nat) (hm : a.eval m = .map (some b)) (hb : w.heap[b]? = some (.map (fents f n) n)) (y : Nat) (hx : a.eval x = .float .f32 y) (hy : y = f n) (hv : a.eval v = .int .i64 (n : Int))
    (hd : ∀ c, c < n → Op.floatEq .f32 (f n) (f c) = false)
    (hK : wpList P ops Q rest (a.put o.dst undef) { w with heap := w.heap.setIfInBounds b (.map (fents f (n + 1)) (n + 1)) }) :
    wpList P ops Q (o :: rest) a w := by
  refine wpList_plain hg fun K' hK' => ?_
  subst hy
  have h1 : (Instr.findKey k (.float .f32 (f n)) (fents f n).toList).run P w = .ok none w := key_ask hk f (List.range n) none (ask_none hk f _ 0 (fun c hc => hd c (List.mem_range.1 hc)))
  have hp : (fents f n).push ⟨.float .f32 (f n), .int .i64 (n : Int), n⟩ = fents f (n + 1) := fents_push f n
  unfold Oper.wp
  simp [execOp, hop, hm, hx, hv, Instr.mapUpdate, run_underlying ht, MapKept.run_getObj_map hb, check_f32 hk, h1, MapKept.run_setObj_map _ hb, Result.andThen, hp]
  exact hK' _ _ hK

/-- 'v, ok := m[x]' of a key that is there -/
theorem wpList_lookup_f32 {P : Program} (w : World) {ops : Array Oper} {rest : List Oper} {o : Oper} {a : Act} {Q : Exit → Act → World → Prop}
    (hg : o.guard = none) (m x : Operand) (t : TypeId) (hop : o.op = Op.lookup t m x true) (k e : TypeId) (ht : P.underlying t = some (.map k e)) (hk : P.underlying k = some (.float .f32))
    (b n : Nat) (f : Nat → Nat) (hm : a.eval m = .map (some b)) (hb : w.heap[b]? = some (.map (fents f n) n)) (y : Nat) (hx : a.eval x = .float .f32 y)
    (c : Nat) (hc : c < n) (he : Op.floatEq .f32 y (f c) = true) (hd : ∀ d, d < c → Op.floatEq .f32 y (f d) = false)
    (hK : wpList P ops Q rest (a.put o.dst (.tuple #[.int .i64 (c : Int), .bool true])) w) :
    wpList P ops Q (o :: rest) a w := by
  refine wpList_plain hg fun K' hK' => ?_
  have hsplit : List.range n = List.range c ++ c :: (List.range' (c + 1) (n - c - 1)) := by
    rw [List.range_eq_range', List.range_eq_range', show n = c + ((n - c - 1) + 1) from by omega, ← List.range'_append_1, Nat.zero_add, List.range'_succ]
    congr 3; omega
  have h1 : (Instr.findKey k (.float .f32 y) (fents f n).toList).run P w = .ok (some (c, .int .i64 (c : Int))) w := by
    refine key_ask hk f (List.range n) _ ?_
    rw [hsplit]
    have h := ask_some (w := w) hk f (List.range' (c + 1) (n - c - 1)) c he (List.range c) 0 (fun d hd' => hd d (List.mem_range.1 hd'))
    rw [h]; simp
  unfold Oper.wp
  simp [execOp, hop, hm, hx, Instr.lookup, run_underlying ht, MapKept.run_getObj_map hb, check_f32 hk, h1, Result.andThen]
  exact hK' _ _ hK

end Go.Proofs.YtboaojkblmddkaaGreatDoor

/- number.CheckSamples of finite samples. -/
namespace Go.Proofs.YtboaojkblmddkaaGreatDoor
open Go.RowKit
open Flt

theorem isFinite_ok {b : Nat} (h : fin Ieee.single b = true) (w : World) : Calls Tryz.prog 106 #[.float .f32 b] w fun e w' => e = .returned (.bool true) ∧ w = w' := by
  unfold fin at h
  rcases hr : Ieee.single.read b with ⟨s, m, p⟩ | s | ⟨s, f⟩
  · rcases Nat.eq_zero_or_pos m with rfl | hm
    · exact isFinite_fine w (fine_zero hr)
    · exact isFinite_fine w (fine_pos hr hm)
  · rw [hr] at h; cases h
  · rw [hr] at h; cases h

theorem ncheck1_ok (b : Nat) (i : Int) (w : World) (h : fin Ieee.single b = true) : Calls Tryz.prog 105 #[.int .i64 i, .float .f32 b] w fun e w' => e = .returned (.int .i64 0) ∧ w = w' := by
  have H := Lib.hid (isFinite_ok h w)
  clear h
  go_enter Tryz.func105, Tryz.ntmps105
  go_wp2_with fail
  refine H.out.mono ?_
  rintro e w1 ⟨rfl, rfl⟩
  go_wp2_with fail
  go_ret
  exact ⟨rfl, rfl⟩
theorem ncheck1_enter (args : Array Value) (w : World) : (callFunc 105 args).run Tryz.prog w = .ok (.enter 105 args) w := by kernel_rfl

set_option maxHeartbeats 1000000 in
theorem ncheckList_ok (A : Option Addr) (n c : Nat) (l : List Nat) (w : World) (h : Reads w w.heap.size 1 A n (l.map f32v)) (hf : ∀ x ∈ l, fin Ieee.single x = true) (hn : n ≤ 4096) :
    Calls Tryz.prog 104 #[.slice A n c, .int .i64 0, .int .i64 4096, .func (.func 105) #[] #[]] w fun e w' => e = .returned (.int .i64 0) ∧ w = w' := by
  have HF := Lib.hid hf
  clear hf
  have hd1 : decide ((n : Int) < 0) = false := by simp
  have hd2 : decide (4096 < n) = false := by simpa using (show ¬ (4096 < n) from by omega)
  have eg := ncheck1_enter
  go_enter Tryz.func104, Tryz.ntmps104
  go_wp2
  go_loop [22] (fun s => ∃ k : Nat, k ≤ n ∧ s = .int .i64 k) (fun s => n - (intOf s).toNat)
  case atStart => exact ⟨0, Nat.zero_le _, rfl⟩
  case round =>
    obtain ⟨k, hk, rfl⟩ := hrel
    by_cases h0 : k < n
    · obtain ⟨ad, hkl, rfl, hbb, hcell⟩ := h.cellM h0
      have hx := HF.out l[k] (List.getElem_mem hkl)
      unfold f32v at hcell
      generalize l[k] = x at *
      have HC := Lib.hid (ncheck1_ok x k w hx)
      clear hx
      go_wp2_with (go_at_fn 105; refine HC.out.mono ?_; rintro e w' ⟨rfl, rfl⟩)
      go_round
      case rel => exact ⟨k + 1, by omega, by go_num⟩
      case measure => simp [intOf]; omega
    · go_wp2
      go_ret
      exact ⟨rfl, rfl⟩

theorem ncheckSamples_ok (A : Option Addr) (n c : Nat) (l : List Nat) (w : World) (h : Reads w w.heap.size 1 A n (l.map f32v)) (hf : ∀ x ∈ l, fin Ieee.single x = true) (hn : n ≤ 4096) :
    Calls Tryz.prog 58 #[.slice A n c] w fun e w' => e = .returned (.int .i64 0) ∧ w = w' := by
  have HC := Lib.hid (ncheckList_ok A n c l w h hf hn)
  clear h hf
  go_enter Tryz.func58, Tryz.ntmps58
  go_wp2_with fail
  refine HC.out.mono ?_
  rintro e w1 ⟨rfl, rfl⟩
  go_wp2_with fail
  go_ret
  exact ⟨rfl, rfl⟩

end Go.Proofs.YtboaojkblmddkaaGreatDoor

/- Contracts of probe's codesOfSamples and Codes of valid samples. -/
namespace Go.Proofs.YtboaojkblmddkaaGreatDoor
open Go.RowKit Bn
open Flt

/-- the nominal voltages of a converter, by code -/
def nomF (st z : Int) (c : Nat) : Nat := nomW ((c : Int) - z) st

theorem und_map : Tryz.prog.underlying 145 = some (.map 23 3) := by kernel_rfl
theorem und_f32 : Tryz.prog.underlying 23 = some (.float .f32) := by kernel_rfl

theorem run_makeMap_hint {P : Program} {t k e : TypeId} (ht : P.underlying t = some (.map k e)) (v : Int) (w : World) : (Instr.makeMap t (some (.int .i64 v))).run P w = .ok (.map (some w.heap.size)) (w.alloc (.map #[] 0)) := by
  simp [Instr.makeMap, run_underlying ht, asInt, Result.andThen]
  rfl

theorem below_setObj {a W : World} {B b : Nat} (h : Below B a W) (hb : B ≤ b) (o : Obj) : Below B a { W with heap := W.heap.setIfInBounds b o } where
  os := h.os
  tape := h.tape
  output := h.output
  size := by simpa using h.size
  block := fun i hi => by
    show (W.heap.setIfInBounds b o)[i]? = _
    rw [Array.getElem?_setIfInBounds_ne (by omega)]
    exact h.block i hi
theorem CBlk.setObj {w : World} {g b : Nat} {c : Array Value} {t : TypeId} (h : CBlk w g c t) (hne : b ≠ g) (o : Obj) : CBlk { w with heap := w.heap.setIfInBounds b o } g c t := by
  show (w.heap.setIfInBounds b o)[g]? = _
  rw [Array.getElem?_setIfInBounds_ne hne]
  exact h

set_option maxHeartbeats 4000000 in
set_option maxRecDepth 100000 in
theorem codesOfSamples_ok (a : Nat) (st z : Int) (g o : ByteArray) (w : World) (h : Conv a st z g o) (T : Nat) (hTa : 2 ^ a = T + 1)
    (hd : ∀ n c : Nat, n ≤ T → c < n → Op.floatEq .f32 (nomF st z n) (nomF st z c) = false) :
    Calls Tryz.prog 90 #[.agg #[.int .i64 a, .int .i64 st, .int .i64 z, .string g, .string o]] w fun e w' =>
      ∃ b, e = .returned (.map (some b)) ∧ w.heap.size ≤ b ∧ b < w'.heap.size ∧ w'.heap[b]? = some (.map (fents (nomF st z) (T + 1)) (T + 1)) ∧ Below w.heap.size w w' := by
  have hp : 2 ^ a ≤ 2 ^ 12 := Nat.pow_le_pow_right (by omega) h.bits.2
  have hz := h.zero
  have hT12 : T ≤ 4095 := by omega
  have hb0 : Below w.heap.size w (w.alloc (.cells #[.int .i64 a, .int .i64 st, .int .i64 z, .string g, .string o] 91)) := (Below.refl _ _).alloc (Nat.le_refl _) _
  have q0 : CBlk (w.alloc (.cells #[.int .i64 a, .int .i64 st, .int .i64 z, .string g, .string o] 91)) w.heap.size #[.int .i64 a, .int .i64 st, .int .i64 z, .string g, .string o] 91 := CBlk.new w _ _ _ rfl
  have x0 := q0.cell 0
  have x1 := q0.cell 1
  have x2 := q0.cell 2
  have x3 := q0.cell 3
  have x4 := q0.cell 4
  have HTP := Lib.hid (fun W => top_any a st z (.string g) (.string o) W (by have := h.bits; omega))
  rw [show 2 ^ a - 1 = T from by omega] at HTP hz
  have HN := Lib.hid (fun (k : Nat) (hk : k ≤ T) W => nominal_any a st z k (.string g) (.string o) W (by omega) (by omega) (by have := h.step; omega) (by have := h.step; omega))
  have HD := Lib.hid hd
  have hmm := fun (W : World) (v : Int) => run_makeMap_hint und_map v W
  have hw : wrap64 ((T : Int) + 1) = (T : Int) + 1 := IntWalk.wrap64_in _ (by omega)
  clear h hz hp hTa hd
  go_enter Tryz.func90, Tryz.ntmps90
  go_wp2_with fail
  generalize w.alloc (.cells #[.int .i64 a, .int .i64 st, .int .i64 z, .string g, .string o] 91) = w1 at *
  refine (HTP.out w1).mono ?_
  rintro e w2 ⟨rfl, hb2⟩
  have q2 := q0.below hb2 q0.lt
  have hB2 := hb0.trans (hb2.mono hb0.size)
  have k2 := q2.lt
  clear x0 x1 x2 x3 x4
  have hb3 : Below w2.heap.size w2 (w2.alloc (.map #[] 0)) := (Below.refl _ _).alloc (Nat.le_refl _) _
  have q3 := q2.below hb3 k2
  have m3 : (w2.alloc (.map #[] 0)).heap[w2.heap.size]? = some (.map (fents (nomF st z) 0) 0) := heap_alloc_new w2 _
  have x0 := q3.cell 0
  have x1 := q3.cell 1
  have x2 := q3.cell 2
  have x3 := q3.cell 3
  have x4 := q3.cell 4
  have hB3 := hB2.trans (hb3.mono hB2.size)
  have l3 : w2.heap.size < (w2.alloc (.map #[] 0)).heap.size := by simp
  have hMB : w.heap.size < w2.heap.size := k2
  go_wp2_with fail
  generalize w2.alloc (.map #[] 0) = w3 at *
  generalize w2.heap.size = b at *
  refine (HTP.out w3).mono ?_
  rintro e w4 ⟨rfl, hb4⟩
  have q4 := q3.below hb4 q3.lt
  have m4 := (hb4.block b l3).trans m3
  have l4 := Nat.lt_of_lt_of_le l3 hb4.size
  have hB4 := hB3.trans (hb4.mono hB3.size)
  clear x0 x1 x2 x3 x4 hb0 hb2 hb3 hb4 q0 q2 q3 m3 l3 hB3 HTP hmm
  go_wp2_with fail
  go_loopg [12] (T + 1) (fun m s W => ∃ k : Nat, k ≤ T + 1 ∧ s = .int .i64 k ∧ T + 1 - k ≤ m ∧ CBlk W w.heap.size #[.int .i64 a, .int .i64 st, .int .i64 z, .string g, .string o] 91 ∧ W.heap[b]? = some (.map (fents (nomF st z) k) k) ∧ b < W.heap.size ∧ Below w.heap.size w W)
  case atStart => exact ⟨0, Nat.zero_le _, rfl, by omega, q4, m4, l4, hB4⟩
  case round =>
    obtain ⟨k, hk, rfl, hm, qr, mr, lr, hbel⟩ := hrel
    by_cases h0 : k < T + 1
    · have hk1 : (k : Int) < (T : Int) + 1 := by omega
      have x0 := qr.cell 0
      have x1 := qr.cell 1
      have x2 := qr.cell 2
      have x3 := qr.cell 3
      have x4 := qr.cell 4
      have HNK := Lib.hid (HN.out k (by omega) wr)
      have HDK := Lib.hid (fun c (hc : c < k) => HD.out k c (by omega) hc)
      go_wp2_with fail
      refine HNK.out.mono ?_
      rintro e w5 ⟨rfl, hb5⟩
      have q5 := qr.below hb5 qr.lt
      have m5 := (hb5.block b lr).trans mr
      have l5 := Nat.lt_of_lt_of_le lr hb5.size
      have hB5 := hbel.trans (hb5.mono hbel.size)
      clear x0 x1 x2 x3 x4 HNK HN
      go_wp2_with (at_mapUpdate; refine wpList_update_f32 _ rfl _ _ _ _ rfl _ _ und_map und_f32 b k (nomF st z) rfl m5 _ rfl rfl rfl HDK.out ?_)
      go_roundg (T + 1 - (k + 1))
      case measure => omega
      case rel =>
        refine ⟨k + 1, by omega, by go_num, Nat.le_refl _, q5.setObj (by omega) _, ?_, by simpa using l5, below_setObj hB5 (by omega) _⟩
        show (w5.heap.setIfInBounds b _)[b]? = _
        rw [Array.getElem?_setIfInBounds_self_of_lt l5]
    · have hk1 : ¬ (k : Int) < (T : Int) + 1 := by omega
      obtain rfl : k = T + 1 := by omega
      go_wp2_with fail
      go_ret
      exact ⟨b, rfl, by omega, lr, mr, hbel⟩

end Go.Proofs.YtboaojkblmddkaaGreatDoor

/- Contracts of probe's Changes, checkTimes and FromChanges. -/
namespace Go.Proofs.YtboaojkblmddkaaGreatDoor
open Go.RowKit

theorem info_int : (Tryz.prog.info? 3).map (fun i => (i.zero, i.size, i.bytes)) = some (some (.int .i64 0), 1, 8) := by kernel_rfl

/-- the value before an index -/
def prv (b : Bool) (l : List Bool) (k : Nat) : Bool := if k = 0 then b else l.getD (k - 1) false
theorem prv_next (b : Bool) (l : List Bool) (k : Nat) (h : k < l.length) : prv b l (k + 1) = l[k] := by
  unfold prv
  rw [if_neg (by omega)]
  simp [List.getD, h]
theorem chgB_prv (b : Bool) (l : List Bool) (k : Nat) (h : k < l.length) : chgB b l k = (l[k] != prv b l k) := by
  unfold chgB prv
  simp [List.getD, h]

set_option maxHeartbeats 2000000 in
set_option maxRecDepth 100000 in
theorem changes_ok (A : Option Addr) (n c : Nat) (b : Bool) (l : List Bool) (w : World) (h : Reads w w.heap.size 1 A n (l.map boolv)) (hn : n ≤ 4096) :
    Calls Tryz.prog 15 #[.slice A n c, .bool b] w fun e w' => ∃ A' c', e = .returned (.tuple #[.slice A' (chg b l n).length c', .int .i64 0]) ∧ Reads w' w'.heap.size 1 A' (chg b l n).length ((chg b l n).map natv) ∧ Below w.heap.size w w' := by
  obtain ⟨i0, hi0, hz0, hz1, hz2⟩ := info_parts info_int
  have e1 : (if (4096 : Int) < (n : Int) then (5 : Int) else 0) = 0 := if_neg (by omega)
  have H1 := catMost_bool A n c 4096 w
  rw [e1] at H1
  have K1 := Lib.hid H1
  clear H1 e1
  go_enter Tryz.func15, Tryz.ntmps15
  go_wp2_with fail
  refine K1.out.mono ?_
  rintro e w1 ⟨rfl, rfl⟩
  go_wp2
  go_loopg [1, 7, 17] n (fun q p v s W => ∃ k : Nat, k ≤ n ∧ s = .int .i64 k ∧ n - k ≤ q ∧ p = .bool (prv b l k) ∧ W.ownsRow w.heap.size 3 1 v (chg b l k).length ((chg b l k).map natv) ∧ Below w.heap.size w W)
  case atStart => exact ⟨0, Nat.zero_le _, rfl, by omega, rfl, World.ownsRow_nil _ _ _ _, Below.refl _ _⟩
  case round =>
    obtain ⟨k, hk, rfl, hq, rfl, hown, hbel⟩ := hrel
    by_cases h0 : k < n
    · obtain ⟨ad, hkl, rfl, hbb, hcell⟩ := (h.below hbel).cellM h0
      have hcb := chgB_prv b l k hkl
      have hnx := prv_next b l k hkl
      have hsu := chg_succ b l k
      have hcl := chg_len b l k
      rw [hcb] at hsu
      unfold boolv at hcell
      generalize l[k] = x at *
      generalize prv b l k = p at *
      have HN := Lib.hid hnx
      by_cases hxp : (x != p) = true
      · rw [hxp, if_pos rfl] at hsu
        have HS := Lib.hid hsu
        clear hsu hnx hcb
        generalize hL : chg b l k = L at *
        have HL := Lib.hid hL
        clear hL
        cases x <;> cases p <;> first | exact absurd hxp (by decide) | clear hxp
        all_goals
          go_wp2_with (at_builtin; refine wpList_append_own _ rfl _ _ 34 rfl w.heap.size 3 i0 (.int .i64 0) 1 8 Tryz.underlying34 hi0 hz0 hz1 hz2 rfl (by decide) _ _ _ rfl (hown.alloc _) ⟨wr.heap.size, 0, none⟩ 1 1 [.int .i64 k] rfl rfl ?c1 ?c2 ?c3 ?c4 ?c5 ?_)
          case c1 => exact cell_one_new _ _ _
          case c2 => intro u hu; simp at hu; subst hu; rfl
          case c3 => unfold maxLen; omega
          case c4 => omega
          case c5 => have := hbel.size; simp; omega
          intro v' w2 hown' hgrow _
          have hb2 : Below w.heap.size w w2 := (hbel.alloc hbel.size _).grown hgrow (by have := hbel.size; simp; omega) (fun g hg => (World.ownsRow.lt hown g hg).1)
          clear hgrow hown
          go_wp2
          go_roundg (n - (k + 1))
          case measure => omega
          case rel => exact ⟨k + 1, by omega, by go_num, Nat.le_refl _, by rw [HN.out], by rw [HS.out, List.length_append, List.map_append]; exact hown', hb2⟩
      · have hxp' : (x != p) = false := by simpa using hxp
        rw [hxp', if_neg (by decide), List.append_nil] at hsu
        have HS := Lib.hid hsu
        clear hsu hnx hcb hxp
        cases x <;> cases p <;> first | exact absurd hxp' (by decide) | clear hxp'
        all_goals
          go_wp2
          go_roundg (n - (k + 1))
          case measure => omega
          case rel => exact ⟨k + 1, by omega, by go_num, Nat.le_refl _, by rw [HN.out], by rw [HS.out]; exact hown, hbel⟩
    · obtain rfl : k = n := by omega
      obtain ⟨A', c', rfl, _, _, hr⟩ := own_slice hown
      go_wp2
      go_ret2
      exact ⟨A', c', rfl, hr, hbel⟩

end Go.Proofs.YtboaojkblmddkaaGreatDoor
