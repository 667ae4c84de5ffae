/- Contract of the predicate of package probe's code: is the voltage below the edge of a code. -/
import Derived.Test.YthmiamppfncfoaaGreatDoorCFloat
import Derived.Deep.RegionHeld3
import Derived.Test.YthmiamppfncfoaaGreatDoorCSrch
import Derived.Test.YthmiamppfncfoaaGreatDoorCCSm
import Derived.Test.YthmiamppfncfoaaGreatDoorCRws
import Derived.Test.YthmiamppfncfoaaGreatDoorCPl1
namespace Go.Proofs.YthmiamppfncfoaaGreatDoor
open Go.RowKit Bn
open Flt

set_option maxHeartbeats 4000000 in
set_option maxRecDepth 100000 in
theorem code1_any (s : ByteArray) (n b1 b2 b3 : Nat) (a st z c : Int) (g o : Value) (w : World) (hT : Tabs w) (hs : s.size ≤ 4294967296)
    (hd : -4194304 < 2 * (c - z) - 1) (hd2 : 2 * (c - z) - 1 < 4194304) (he : -149 ≤ st - 1) (he2 : st - 1 ≤ 100)
    (x0 : w.cell? ⟨b1, 0, none⟩ = some (.string s)) (y0 : w.cell? ⟨b2, 0, none⟩ = some (.float .f32 n))
    (z0 : w.cell? ⟨b3, 0, none⟩ = some (.int .i64 a)) (z1 : w.cell? ⟨b3, 1, none⟩ = some (.int .i64 st)) (z2 : w.cell? ⟨b3, 2, none⟩ = some (.int .i64 z)) (z3 : w.cell? ⟨b3, 3, none⟩ = some g) (z4 : w.cell? ⟨b3, 4, none⟩ = some o)
    (l1 : b1 < w.heap.size) (l2 : b2 < w.heap.size) (l3 : b3 < w.heap.size) :
    Calls Tryz.prog 68 #[.int .i64 c, .pointer (some ⟨b1, 0, none⟩), .pointer (some ⟨b2, 0, none⟩), .pointer (some ⟨b3, 0, none⟩)] w fun e w' => e = .returned (.bool (belowB s.data.toList n (nomW (2 * (c - z) - 1) (st - 1)))) ∧ Below w.heap.size w w' := by
  have hE := edge_any a st z c g o w.drew hd hd2 he he2
  have hTd : Tabs w.drew := hT.later (Below.refl _ _).drew
  have hb3 : Below w.heap.size w w.drew := (Below.refl _ _).drew
  generalize nomW (2 * (c - z) - 1) (st - 1) = ed at *
  have HE := Lib.hid hE
  clear hE
  go_enter Tryz.func68, Tryz.ntmps68
  go_wp2_with fail
  go_region_held3 (fun w' => w'.cell? ⟨b1, 0, none⟩ = some (.string s) ∧ w'.cell? ⟨b2, 0, none⟩ = some (.float .f32 n) ∧ w'.cell? ⟨b3, 0, none⟩ = some (.int .i64 a) ∧ w'.cell? ⟨b3, 1, none⟩ = some (.int .i64 st) ∧ w'.cell? ⟨b3, 2, none⟩ = some (.int .i64 z) ∧ w'.cell? ⟨b3, 3, none⟩ = some (g) ∧ w'.cell? ⟨b3, 4, none⟩ = some (o))
    ((first | exact ⟨x0, y0, z0, z1, z2, z3, z4⟩ | exact ⟨((hb4.cell (p := ⟨b1, 0, none⟩) l1).trans x0), ((hb4.cell (p := ⟨b2, 0, none⟩) l2).trans y0), ((hb4.cell (p := ⟨b3, 0, none⟩) l3).trans z0), ((hb4.cell (p := ⟨b3, 1, none⟩) l3).trans z1), ((hb4.cell (p := ⟨b3, 2, none⟩) l3).trans z2), ((hb4.cell (p := ⟨b3, 3, none⟩) l3).trans z3), ((hb4.cell (p := ⟨b3, 4, none⟩) l3).trans z4)⟩ | exact ⟨((hb5.cell (p := ⟨b1, 0, none⟩) k1).trans ((hb4.cell (p := ⟨b1, 0, none⟩) l1).trans x0)), ((hb5.cell (p := ⟨b2, 0, none⟩) k2).trans ((hb4.cell (p := ⟨b2, 0, none⟩) l2).trans y0)), ((hb5.cell (p := ⟨b3, 0, none⟩) k3).trans ((hb4.cell (p := ⟨b3, 0, none⟩) l3).trans z0)), ((hb5.cell (p := ⟨b3, 1, none⟩) k3).trans ((hb4.cell (p := ⟨b3, 1, none⟩) l3).trans z1)), ((hb5.cell (p := ⟨b3, 2, none⟩) k3).trans ((hb4.cell (p := ⟨b3, 2, none⟩) l3).trans z2)), ((hb5.cell (p := ⟨b3, 3, none⟩) k3).trans ((hb4.cell (p := ⟨b3, 3, none⟩) l3).trans z3)), ((hb5.cell (p := ⟨b3, 4, none⟩) k3).trans ((hb4.cell (p := ⟨b3, 4, none⟩) l3).trans z4))⟩))
    (first
      | (go_at_call 70; refine (HE.out).mono ?_; rintro e w4 ⟨rfl, hb4⟩; have k1 := Nat.lt_of_lt_of_le l1 hb4.size; have k2 := Nat.lt_of_lt_of_le l2 hb4.size; have k3 := Nat.lt_of_lt_of_le l3 hb4.size)
      | (go_at_call 69; refine (isBelow_any s n ed w4 (hTd.later hb4) hs).mono ?_; rintro e w5 ⟨rfl, hb5⟩))
  go_wp2_with fail
  go_ret
  exact ⟨rfl, (hb3.trans (hb4.mono hb3.size)).trans (hb5.mono (by have := hb4.size; have := hb3.size; omega))⟩

end Go.Proofs.YthmiamppfncfoaaGreatDoor

/- Contract of package probe's code: where a voltage lies among the edges. -/
namespace Go.Proofs.YthmiamppfncfoaaGreatDoor
open Go.RowKit Bn
open Flt

theorem code1_enter (args : Array Value) (w : World) : (callFunc 68 args).run Tryz.prog w = .ok (.enter 68 args) w := by kernel_rfl

/-- a block of plain cells -/
def BlkAt (w : World) (g : Nat) (c : Array Value) (t : TypeId) : Prop := w.heap[g]? = some (.cells c t (0, 0))
theorem BlkAt.new (w : World) (c : Array Value) (t : TypeId) (g : Nat) (hg : g = w.heap.size) : BlkAt (w.alloc (.cells c t)) g c t := by subst hg; exact heap_alloc_new w _
theorem BlkAt.below {w w' : World} {g B : Nat} {c : Array Value} {t : TypeId} (h : BlkAt w g c t) (hb : Below B w w') (hg : g < B) : BlkAt w' g c t := (hb.block g hg).trans h
theorem BlkAt.cell {w : World} {g : Nat} {c : Array Value} {t : TypeId} (h : BlkAt w g c t) (i : Nat) : w.cell? ⟨g, i, none⟩ = c[i]? := cell_of_row w g i _ _ _ h
theorem BlkAt.lt {w : World} {g : Nat} {c : Array Value} {t : TypeId} (h : BlkAt w g c t) : g < w.heap.size := by
  unfold BlkAt at h
  rcases Nat.lt_or_ge g w.heap.size with hlt | hge
  · exact hlt
  · rw [Array.getElem?_eq_none hge] at h; cases h

set_option maxHeartbeats 4000000 in
set_option maxRecDepth 100000 in
theorem code_any (s : ByteArray) (a k : Nat) (st z : Int) (g o : Value) (w : World) (hT : Tabs w) (hs : s.size ≤ 4294967296) (ha : a ≤ 12) (hz : 0 ≤ z ∧ z ≤ 8192) (he : -149 ≤ st - 1) (he2 : st - 1 ≤ 100)
    (hk : k ≤ 2 ^ a + 1) (hlo : ∀ t : Nat, t < k → belowB s.data.toList (nearF s.data.toList) (nomW (2 * ((t : Int) - z) - 1) (st - 1)) = false)
    (hhi : ∀ t : Nat, k ≤ t → t < 2 ^ a + 1 → belowB s.data.toList (nearF s.data.toList) (nomW (2 * ((t : Int) - z) - 1) (st - 1)) = true) :
    Calls Tryz.prog 45 #[.agg #[.int .i64 a, .int .i64 st, .int .i64 z, g, o], .string s] w fun e w' =>
      e = .returned (.tuple #[.int .i64 (if k = 0 then 0 else if k = 2 ^ a + 1 then ((2 ^ a - 1 : Nat) : Int) else (k : Int) - 1), .int .i64 (if k = 0 then -1 else if k = 2 ^ a + 1 then 1 else 0)]) ∧ Below w.heap.size w w' := by
  have hp : 2 ^ a ≤ 4096 := by
    have := Nat.pow_le_pow_right (show 0 < 2 by omega) ha
    have e : (2 : Nat) ^ 12 = 4096 := by decide
    omega
  have hp0 := Nat.two_pow_pos a
  have htop := fun W : World => top_any a st z g o W (by omega)
  have hT1 : 2 ^ a + 1 = (2 ^ a - 1) + 2 := by omega
  rw [hT1] at hk hhi ⊢
  generalize hTT : 2 ^ a - 1 = T at *
  have hTb : T ≤ 4096 := by omega
  clear hTT hp hp0 hT1
  have HTOP := Lib.hid htop
  clear htop
  generalize hC : (if k = 0 then (0 : Int) else if k = T + 2 then (T : Int) else (k : Int) - 1) = C
  generalize hD : (if k = 0 then (-1 : Int) else if k = T + 2 then 1 else 0) = D
  have HC := Lib.hid hC
  have HD := Lib.hid hD
  clear hC hD
  have hb0 : Below w.heap.size w ((w.alloc (.cells #[.int .i64 a, .int .i64 st, .int .i64 z, g, o] 57)).alloc (.cells #[.string s] 55)) := ((Below.refl _ _).alloc (Nat.le_refl _) _).alloc (by simp) _
  have hnf := nearestFloat_any s _ (hT.later hb0) hs
  generalize nearF s.data.toList = nf at *
  have HNF := Lib.hid hnf
  have HL := Lib.hid hlo
  have HH := Lib.hid hhi
  clear hnf hlo hhi
  go_enter Tryz.func45, Tryz.ntmps45
  go_wp2_with fail
  refine HNF.out.mono ?_
  rintro e w1 ⟨rfl, hb1⟩
  have hB1 : Below w.heap.size w w1 := hb0.trans (hb1.mono (by simp; omega))
  have q1 : BlkAt w1 w.heap.size #[.int .i64 a, .int .i64 st, .int .i64 z, g, o] 57 := ((BlkAt.new w _ _ _ rfl).below ((Below.refl _ _).alloc (Nat.le_refl _) _) (by simp)).below hb1 (by simp; omega)
  have r1 : BlkAt w1 (w.heap.size + 1) #[.string s] 55 := (BlkAt.new _ _ _ _ (by simp)).below hb1 (by simp)
  have hb2 : Below w1.heap.size w1 (w1.alloc (.cells #[.float .f32 nf] 24)) := (Below.refl _ _).alloc (Nat.le_refl _) _
  have q2 := q1.below hb2 q1.lt
  have r2 := r1.below hb2 r1.lt
  have f2 := BlkAt.new w1 #[.float .f32 nf] 24 w1.heap.size rfl
  have hB2 : Below w.heap.size w (w1.alloc (.cells #[.float .f32 nf] 24)) := hB1.trans (hb2.mono hB1.size)
  have y0 := q1.cell 0
  have y1 := q1.cell 1
  have y2 := q1.cell 2
  have y3 := q1.cell 3
  have y4 := q1.cell 4
  have hmf : ∀ (fn : Fn) (first cap : Array Value) (w : World), (Instr.makeFunc fn first cap).run Tryz.prog w = .ok (.func fn first cap) w := fun _ _ _ _ => rfl
  have hql := q1.lt
  have hst := fun (W : World) (a : Addr) (x : Nat) (m : _) => run_store Tryz.prog W a (.float .f32 x) m rfl
  go_wp2_with fail
  refine (HTOP.out _).mono ?_
  rintro e w3 ⟨rfl, hb3⟩
  have q3 := q2.below hb3 q2.lt
  have r3 := r2.below hb3 r2.lt
  have f3 := f2.below hb3 f2.lt
  have hB3 : Below w.heap.size w w3 := hB2.trans (hb3.mono hB2.size)
  have hT3 : Tabs w3 := hT.later hB3
  have w2' : wrap64 ((T : Int) + 2) = ((T + 2 : Nat) : Int) := by rw [IntWalk.wrap64_in _ (by omega)]; omega
  have w3' : wrap64 ((k : Int) - 1) = (k : Int) - 1 := IntWalk.wrap64_in _ (by omega)
  have hse := search_any 68 #[.pointer (some ⟨w.heap.size + 1, 0, none⟩), .pointer (some ⟨w1.heap.size, 0, none⟩), .pointer (some ⟨w.heap.size, 0, none⟩)] (T + 2) k (fun t => belowB s.data.toList nf (nomW (2 * ((t : Int) - z) - 1) (st - 1))) w3 code1_enter (by omega) hk HL.out HH.out (by
    intro W i hW hi
    have q4 := q3.below hW q3.lt
    have r4 := r3.below hW r3.lt
    have f4 := f3.below hW f3.lt
    have := code1_any s nf (w.heap.size + 1) w1.heap.size w.heap.size a st z i g o W (hT3.later hW) hs (by omega) (by omega) he he2 (r4.cell 0) (f4.cell 0) (q4.cell 0) (q4.cell 1) (q4.cell 2) (q4.cell 3) (q4.cell 4) r4.lt f4.lt q4.lt
    exact this.mono fun e w' ⟨h1, h2⟩ => ⟨h1, h2.mono hW.size⟩)
  have HS := Lib.hid hse
  clear hse
  clear y0 y1 y2 y3 y4
  go_wp2_with fail
  refine HS.out.mono ?_
  rintro e w4 ⟨rfl, hb4⟩
  have q4 := q3.below hb4 q3.lt
  have hB4 : Below w.heap.size w w4 := hB3.trans (hb4.mono hB3.size)
  have y0 := q4.cell 0
  have y1 := q4.cell 1
  have y2 := q4.cell 2
  have y3 := q4.cell 3
  have y4 := q4.cell 4
  clear HS HNF HL HH
  by_cases hk0 : k = 0
  · subst hk0
    have hC : C = 0 := by have := HC.out; rw [if_pos rfl] at this; exact this.symm
    have hD : D = -1 := by have := HD.out; rw [if_pos rfl] at this; exact this.symm
    have HC2 := Lib.hid hC
    have HD2 := Lib.hid hD
    clear hC hD HC HD
    go_wp2_with fail
    go_ret2
    exact ⟨by rw [HC2.out, HD2.out]; rfl, hB4⟩
  · have hd0 : decide ((k : Int) - 1 < 0) = false := by simpa using (show ¬ ((k : Int) - 1 < 0) from by omega)
    by_cases hkT : k = T + 2
    · have hd1 : decide ((T : Int) < (k : Int) - 1) = true := by simpa using (show (T : Int) < (k : Int) - 1 from by omega)
      have hC : C = T := by have := HC.out; rw [if_neg hk0, if_pos hkT] at this; exact this.symm
      have hD : D = 1 := by have := HD.out; rw [if_neg hk0, if_pos hkT] at this; exact this.symm
      have HC2 := Lib.hid hC
      have HD2 := Lib.hid hD
      clear hC hD HC HD
      go_wp2_with fail
      refine (HTOP.out _).mono ?_
      rintro e w5 ⟨rfl, hb5⟩
      have q5 := q4.below hb5 q4.lt
      have hB5 : Below w.heap.size w w5 := hB4.trans (hb5.mono hB4.size)
      have y0 := q5.cell 0
      have y1 := q5.cell 1
      have y2 := q5.cell 2
      have y3 := q5.cell 3
      have y4 := q5.cell 4
      go_wp2_with fail
      refine (HTOP.out _).mono ?_
      rintro e w6 ⟨rfl, hb6⟩
      go_wp2_with fail
      go_ret2
      exact ⟨by rw [HC2.out, HD2.out]; rfl, hB5.trans (hb6.mono hB5.size)⟩
    · have hd1 : decide ((T : Int) < (k : Int) - 1) = false := by simpa using (show ¬ ((T : Int) < (k : Int) - 1) from by omega)
      have hC : C = (k : Int) - 1 := by have := HC.out; rw [if_neg hk0, if_neg hkT] at this; exact this.symm
      have hD : D = 0 := by have := HD.out; rw [if_neg hk0, if_neg hkT] at this; exact this.symm
      have HC2 := Lib.hid hC
      have HD2 := Lib.hid hD
      clear hC hD HC HD
      go_wp2_with fail
      refine (HTOP.out _).mono ?_
      rintro e w5 ⟨rfl, hb5⟩
      go_wp2_with fail
      go_ret2
      exact ⟨by rw [HC2.out, HD2.out]; rfl, hB4.trans (hb5.mono hB4.size)⟩

end Go.Proofs.YthmiamppfncfoaaGreatDoor

/- Contracts of probe's CheckAdc, checkCode, Code, Volts of a valid converter. -/
namespace Go.Proofs.YthmiamppfncfoaaGreatDoor
open Go.RowKit Bn
open Flt

set_option maxHeartbeats 1000000 in
theorem checkGain_ok (s : ByteArray) (w : World) (hT : Tabs w) (hs : s.size ≤ 4294967296) (h0 : readE s.data.toList = 0) (h1 : rcmp (readQ s.data.toList) (readQ [48]) = 1) :
    Calls Tryz.prog 65 #[.string s] w fun e w' => e = .returned (.int .i64 0) ∧ Below w.heap.size w w' := by
  have e0 : readE [48] = 0 := by decide +kernel
  have ho : Calls Tryz.prog 88 #[.string s, .string { data := #[48] }] w fun e w' => e = .returned (.tuple #[.int .i64 1, .int .i64 0]) ∧ Below w.heap.size w w' := by
    refine (order_any s { data := #[48] } w hT hs (by decide)).mono ?_
    rintro e w' ⟨rfl, hb⟩
    refine ⟨?_, hb⟩
    have e1 : ({ data := #[48] } : ByteArray).data.toList = [48] := rfl
    rw [e1, h0, e0, h1]
    rfl
  have HO := Lib.hid ho
  clear ho h1 h0
  go_enter Tryz.func65, Tryz.ntmps65
  go_wp2_with fail
  refine HO.out.mono ?_
  rintro e w1 ⟨rfl, hb1⟩
  go_wp2_with fail
  go_ret
  exact ⟨rfl, hb1⟩

/-- a converter that CheckAdc accepts -/
structure Conv (a : Nat) (st z : Int) (g o : ByteArray) : Prop where
  bits : 8 ≤ a ∧ a ≤ 12
  step : -20 ≤ st ∧ st ≤ 4
  zero : 0 ≤ z ∧ z ≤ ((2 ^ a - 1 : Nat) : Int)
  gsize : g.size ≤ 4294967296
  osize : o.size ≤ 4294967296
  gain : readE g.data.toList = 0
  plus : rcmp (readQ g.data.toList) (readQ [48]) = 1
  offs : readE o.data.toList = 0

theorem rangeE_0 (n a b : Int) (h1 : a ≤ n) (h2 : n ≤ b) : rangeE n a b = 0 := by
  unfold rangeE
  rw [if_neg (by omega)]

set_option maxHeartbeats 2000000 in
set_option maxRecDepth 100000 in
theorem checkAdc_ok (a : Nat) (st z : Int) (g o : ByteArray) (w : World) (hT : Tabs w) (h : Conv a st z g o) :
    Calls Tryz.prog 43 #[.agg #[.int .i64 a, .int .i64 st, .int .i64 z, .string g, .string o]] w fun e w' => e = .returned (.int .i64 0) ∧ Below w.heap.size w w' := by
  have hb0 : Below w.heap.size w (w.alloc (.cells #[.int .i64 a, .int .i64 st, .int .i64 z, .string g, .string o] 57)).drew := ((Below.refl _ _).alloc (Nat.le_refl _) _).drew
  have q0 : CBlk (w.alloc (.cells #[.int .i64 a, .int .i64 st, .int .i64 z, .string g, .string o] 57)).drew w.heap.size #[.int .i64 a, .int .i64 st, .int .i64 z, .string g, .string o] 57 := CBlk.new w _ _ _ rfl
  have x0 := q0.cell 0
  have x1 := q0.cell 1
  have k0 := q0.lt
  have HR1 := Lib.hid (rangeE_0 a 8 12 (by have := h.bits; omega) (by have := h.bits; omega))
  have HR2 := Lib.hid (rangeE_0 st (-20) 4 h.step.1 h.step.2)
  have HR3 := Lib.hid (rangeE_0 z 0 ((2 ^ a - 1 : Nat) : Int) h.zero.1 h.zero.2)
  have HTP := Lib.hid (fun W => top_any a st z (.string g) (.string o) W (by have := h.bits; omega))
  have HG := Lib.hid (fun W hT => checkGain_ok g W hT h.gsize h.gain h.plus)
  have HO := Lib.hid (fun W hT => check_any o W hT h.osize)
  have HE := Lib.hid h.offs
  generalize ((2 ^ a - 1 : Nat) : Int) = T at *
  clear h
  go_enter Tryz.func43, Tryz.ntmps43
  go_wp2_with fail
  generalize w.alloc (.cells #[.int .i64 a, .int .i64 st, .int .i64 z, .string g, .string o] 57) = w1 at *
  go_region_held3 (fun w' => w'.cell? ⟨w.heap.size, 0, none⟩ = some (.int .i64 a) ∧ w'.cell? ⟨w.heap.size, 1, none⟩ = some (.int .i64 st))
    ((first | exact ⟨x0, x1⟩ | exact ⟨(World.cell?_alloc_lt _ _ _ k0).trans x0, (World.cell?_alloc_lt _ _ _ k0).trans x1⟩))
    (first
      | (go_at_call 36; refine (cinRange_any _ _ _ _).mono ?_; rintro e w4 ⟨he, rfl⟩; (first | rw [HR1.out] at he | rw [HR2.out] at he); subst he)
      | (go_at_call 22; refine (cfirst_two 0 0 w1.drew _ _ rfl).mono ?_; rintro e w6 ⟨rfl, rfl⟩))
  have hb2 : Below w1.heap.size w1 (w1.alloc (.cells #[.int .i64 0, .int .i64 0] 31)).drew := ((Below.refl _ _).alloc (Nat.le_refl _) _).drew
  have q1 : CBlk w1 w.heap.size #[.int .i64 a, .int .i64 st, .int .i64 z, .string g, .string o] 57 := q0
  have q2 := q1.below hb2 k0
  have hb1 : Below w.heap.size w w1 := ⟨hb0.os, hb0.tape, hb0.output, hb0.size, hb0.block⟩
  have hB2 : Below w.heap.size w (w1.alloc (.cells #[.int .i64 0, .int .i64 0] 31)).drew := hb1.trans (hb2.mono hb1.size)
  generalize (w1.alloc (.cells #[.int .i64 0, .int .i64 0] 31)).drew = w2 at *
  clear x0 x1
  have x0 := q2.cell 0
  have x1 := q2.cell 1
  have x2 := q2.cell 2
  have x3 := q2.cell 3
  have x4 := q2.cell 4
  have hT2 : Tabs w2 := hT.later hB2
  go_wp2_with fail
  go_region_held3 (fun w' => w'.cell? ⟨w.heap.size, 0, none⟩ = some (.int .i64 a) ∧ w'.cell? ⟨w.heap.size, 1, none⟩ = some (.int .i64 st) ∧ w'.cell? ⟨w.heap.size, 2, none⟩ = some (.int .i64 z) ∧ w'.cell? ⟨w.heap.size, 3, none⟩ = some (.string g) ∧ w'.cell? ⟨w.heap.size, 4, none⟩ = some (.string o))
    ((first | exact ⟨x0, x1, x2, x3, x4⟩ | exact ⟨y0, y1, y2, y3, y4⟩ | exact ⟨z0, z1, z2, z3, z4⟩ | exact ⟨u0, u1, u2, u3, u4⟩ | exact ⟨(World.cell?_alloc_lt _ _ _ k5).trans u0, (World.cell?_alloc_lt _ _ _ k5).trans u1, (World.cell?_alloc_lt _ _ _ k5).trans u2, (World.cell?_alloc_lt _ _ _ k5).trans u3, (World.cell?_alloc_lt _ _ _ k5).trans u4⟩))
    (first
      | (go_at_call 64; refine (HTP.out w2.drew).mono ?_; rintro e w3 ⟨rfl, hb3'⟩; have hb3 : Below w2.heap.size w2 w3 := ⟨hb3'.os, hb3'.tape, hb3'.output, hb3'.size, hb3'.block⟩; clear hb3'; have q3 := q2.below hb3 q2.lt; have y0 := q3.cell 0; have y1 := q3.cell 1; have y2 := q3.cell 2; have y3 := q3.cell 3; have y4 := q3.cell 4; have hT3 := hT2.later hb3)
      | (go_at_call 36; refine (cinRange_any _ _ _ _).mono ?_; rintro e w4 ⟨he, rfl⟩; rw [HR3.out] at he; subst he)
      | (go_at_call 65; refine (HG.out w3 hT3).mono ?_; rintro e w4 ⟨rfl, hb4⟩; have q4 := q3.below hb4 q3.lt; have z0 := q4.cell 0; have z1 := q4.cell 1; have z2 := q4.cell 2; have z3 := q4.cell 3; have z4 := q4.cell 4; have hT4 := hT3.later hb4)
      | (go_at_call 44; refine (HO.out w4 hT4).mono ?_; rintro e w5 ⟨he, hb5⟩; rw [HE.out] at he; subst he; have q5 := q4.below hb5 q4.lt; have u0 := q5.cell 0; have u1 := q5.cell 1; have u2 := q5.cell 2; have u3 := q5.cell 3; have u4 := q5.cell 4; have k5 := q5.lt)
      | (go_at_call 22; refine (cfirst_three w5 _ _ rfl).mono ?_; rintro e w6 ⟨rfl, rfl⟩))
  go_wp2_with fail
  go_ret
  have c3 := hB2.trans (hb3.mono hB2.size)
  have c4 := c3.trans (hb4.mono c3.size)
  have c5 := c4.trans (hb5.mono c4.size)
  exact ⟨rfl, c5.alloc c5.size _⟩

end Go.Proofs.YthmiamppfncfoaaGreatDoor

/- Contracts of probe's checkCode, Code, Volts of a valid converter. -/
namespace Go.Proofs.YthmiamppfncfoaaGreatDoor
open Go.RowKit Bn
open Flt

set_option maxHeartbeats 1000000 in
theorem checkCode_ok (a : Nat) (st z c : Int) (g o : ByteArray) (w : World) (hT : Tabs w) (h : Conv a st z g o) (hc : 0 ≤ c ∧ c ≤ ((2 ^ a - 1 : Nat) : Int)) :
    Calls Tryz.prog 51 #[.agg #[.int .i64 a, .int .i64 st, .int .i64 z, .string g, .string o], .int .i64 c] w fun e w' => e = .returned (.int .i64 0) ∧ Below w.heap.size w w' := by
  have hb0 : Below w.heap.size w (w.alloc (.cells #[.int .i64 a, .int .i64 st, .int .i64 z, .string g, .string o] 57)) := (Below.refl _ _).alloc (Nat.le_refl _) _
  have q0 : CBlk (w.alloc (.cells #[.int .i64 a, .int .i64 st, .int .i64 z, .string g, .string o] 57)) w.heap.size #[.int .i64 a, .int .i64 st, .int .i64 z, .string g, .string o] 57 := CBlk.new w _ _ _ rfl
  have x0 := q0.cell 0
  have x1 := q0.cell 1
  have x2 := q0.cell 2
  have x3 := q0.cell 3
  have x4 := q0.cell 4
  have HC := Lib.hid (checkAdc_ok a st z g o _ (hT.later hb0) h)
  have HTP := Lib.hid (fun W => top_any a st z (.string g) (.string o) W (by have := h.bits; omega))
  have HR3 := Lib.hid (rangeE_0 c 0 ((2 ^ a - 1 : Nat) : Int) hc.1 hc.2)
  generalize ((2 ^ a - 1 : Nat) : Int) = T at *
  clear h hc
  go_enter Tryz.func51, Tryz.ntmps51
  go_wp2_with fail
  generalize w.alloc (.cells #[.int .i64 a, .int .i64 st, .int .i64 z, .string g, .string o] 57) = w1 at *
  refine HC.out.mono ?_
  rintro e w2 ⟨rfl, hb2⟩
  have q2 := q0.below hb2 q0.lt
  clear x0 x1 x2 x3 x4
  have x0 := q2.cell 0
  have x1 := q2.cell 1
  have x2 := q2.cell 2
  have x3 := q2.cell 3
  have x4 := q2.cell 4
  have hB2 := hb0.trans (hb2.mono hb0.size)
  go_wp2_with fail
  refine (HTP.out w2).mono ?_
  rintro e w3 ⟨rfl, hb3⟩
  go_wp2_with fail
  refine (cinRange_any _ _ _ _).mono ?_
  rintro e w4 ⟨he, rfl⟩
  rw [HR3.out] at he
  subst he
  go_wp2_with fail
  go_ret
  exact ⟨rfl, hB2.trans (hb3.mono hB2.size)⟩

set_option maxHeartbeats 1000000 in
theorem Volts_ok (a : Nat) (st z c : Int) (g o : ByteArray) (w : World) (hT : Tabs w) (h : Conv a st z g o) (hc : 0 ≤ c ∧ c ≤ ((2 ^ a - 1 : Nat) : Int)) :
    Calls Tryz.prog 21 #[.agg #[.int .i64 a, .int .i64 st, .int .i64 z, .string g, .string o], .int .i64 c] w fun e w' => e = .returned (.tuple #[.float .f32 (nomW (c - z) st), .int .i64 0]) ∧ Below w.heap.size w w' := by
  have hb0 : Below w.heap.size w (w.alloc (.cells #[.int .i64 a, .int .i64 st, .int .i64 z, .string g, .string o] 57)) := (Below.refl _ _).alloc (Nat.le_refl _) _
  have q0 : CBlk (w.alloc (.cells #[.int .i64 a, .int .i64 st, .int .i64 z, .string g, .string o] 57)) w.heap.size #[.int .i64 a, .int .i64 st, .int .i64 z, .string g, .string o] 57 := CBlk.new w _ _ _ rfl
  have x0 := q0.cell 0
  have x1 := q0.cell 1
  have x2 := q0.cell 2
  have x3 := q0.cell 3
  have x4 := q0.cell 4
  have hp : 2 ^ a ≤ 2 ^ 12 := Nat.pow_le_pow_right (by omega) h.bits.2
  have hz := h.zero
  have HC := Lib.hid (checkCode_ok a st z c g o _ (hT.later hb0) h hc)
  have HN := Lib.hid (fun W => nominal_any a st z c (.string g) (.string o) W (by omega) (by omega) (by have := h.step; omega) (by have := h.step; omega))
  clear h hc hz hp
  go_enter Tryz.func21, Tryz.ntmps21
  go_wp2_with fail
  generalize w.alloc (.cells #[.int .i64 a, .int .i64 st, .int .i64 z, .string g, .string o] 57) = w1 at *
  refine HC.out.mono ?_
  rintro e w2 ⟨rfl, hb2⟩
  have q2 := q0.below hb2 q0.lt
  clear x0 x1 x2 x3 x4
  have x0 := q2.cell 0
  have x1 := q2.cell 1
  have x2 := q2.cell 2
  have x3 := q2.cell 3
  have x4 := q2.cell 4
  have hB2 := hb0.trans (hb2.mono hb0.size)
  go_wp2_with fail
  refine (HN.out w2).mono ?_
  rintro e w3 ⟨rfl, hb3⟩
  go_wp2_with fail
  go_ret2
  exact ⟨rfl, hB2.trans (hb3.mono hB2.size)⟩

set_option maxHeartbeats 1000000 in
theorem Code_ok (s : ByteArray) (a k : Nat) (st z : Int) (g o : ByteArray) (w : World) (hT : Tabs w) (h : Conv a st z g o) (hs : s.size ≤ 4294967296) (h0 : readE s.data.toList = 0) (C D : Int)
    (hk : k ≤ 2 ^ a + 1) (hlo : ∀ t : Nat, t < k → belowB s.data.toList (nearF s.data.toList) (nomW (2 * ((t : Int) - z) - 1) (st - 1)) = false)
    (hhi : ∀ t : Nat, k ≤ t → t < 2 ^ a + 1 → belowB s.data.toList (nearF s.data.toList) (nomW (2 * ((t : Int) - z) - 1) (st - 1)) = true)
    (hC : (if k = 0 then (0 : Int) else if k = 2 ^ a + 1 then ((2 ^ a - 1 : Nat) : Int) else (k : Int) - 1) = C) (hD : (if k = 0 then (-1 : Int) else if k = 2 ^ a + 1 then 1 else 0) = D) :
    Calls Tryz.prog 19 #[.agg #[.int .i64 a, .int .i64 st, .int .i64 z, .string g, .string o], .string s] w fun e w' => e = .returned (.tuple #[.int .i64 C, .int .i64 D, .int .i64 0]) ∧ Below w.heap.size w w' := by
  have hp : 2 ^ a ≤ 2 ^ 12 := Nat.pow_le_pow_right (by omega) h.bits.2
  have hz := h.zero
  have hb0 : Below w.heap.size w (w.alloc (.cells #[.int .i64 a, .int .i64 st, .int .i64 z, .string g, .string o] 57)) := (Below.refl _ _).alloc (Nat.le_refl _) _
  have q0 : CBlk (w.alloc (.cells #[.int .i64 a, .int .i64 st, .int .i64 z, .string g, .string o] 57)) w.heap.size #[.int .i64 a, .int .i64 st, .int .i64 z, .string g, .string o] 57 := CBlk.new w _ _ _ rfl
  have x0 := q0.cell 0
  have x1 := q0.cell 1
  have x2 := q0.cell 2
  have x3 := q0.cell 3
  have x4 := q0.cell 4
  have HC := Lib.hid (checkAdc_ok a st z g o _ (hT.later hb0) h)
  have HK := Lib.hid (fun W hT => check_any s W hT hs)
  have HE := Lib.hid h0
  have HV := Lib.hid (fun W hT => code_any s a k st z (.string g) (.string o) W hT hs h.bits.2 (by omega) (by have := h.step; omega) (by have := h.step; omega) hk hlo hhi)
  rw [hC, hD] at HV
  clear h hz hp hlo hhi hk hC hD h0
  go_enter Tryz.func19, Tryz.ntmps19
  go_wp2_with fail
  generalize w.alloc (.cells #[.int .i64 a, .int .i64 st, .int .i64 z, .string g, .string o] 57) = w1 at *
  have hT1 := hT.later hb0
  refine HC.out.mono ?_
  rintro e w2 ⟨rfl, hb2⟩
  have hT2 := hT1.later hb2
  have q2 := q0.below hb2 q0.lt
  clear x0 x1 x2 x3 x4
  have hB2 := hb0.trans (hb2.mono hb0.size)
  go_wp2_with fail
  refine (HK.out w2 hT2).mono ?_
  rintro e w3 ⟨he, hb3⟩
  rw [HE.out] at he
  subst he
  have hT3 := hT2.later hb3
  have q3 := q2.below hb3 q2.lt
  have hB3 := hB2.trans (hb3.mono hB2.size)
  go_wp2_with fail
  refine (cfirst_two 0 0 w3 _ _ rfl).mono ?_
  rintro e w4 ⟨rfl, rfl⟩
  have hb4 : Below w3.heap.size w3 (w3.alloc (.cells #[.int .i64 0, .int .i64 0] 31)) := (Below.refl _ _).alloc (Nat.le_refl _) _
  generalize w3.alloc (.cells #[.int .i64 0, .int .i64 0] 31) = w4 at *
  have hT4 := hT3.later hb4
  have q4 := q3.below hb4 q3.lt
  have hB4 := hB3.trans (hb4.mono hB3.size)
  have x0 := q4.cell 0
  have x1 := q4.cell 1
  have x2 := q4.cell 2
  have x3 := q4.cell 3
  have x4 := q4.cell 4
  go_wp2_with fail
  refine (HV.out w4 hT4).mono ?_
  rintro e w5 ⟨rfl, hb5⟩
  go_wp2_with fail
  go_ret3
  exact ⟨rfl, hB4.trans (hb5.mono hB4.size)⟩

end Go.Proofs.YthmiamppfncfoaaGreatDoor

/- The numbers of the law's one voltage. -/
namespace Go.Proofs.YthmiamppfncfoaaGreatDoor
open Go.RowKit Bn
open Flt

theorem vol_conv : Conv 8 (-2) 128 { data := #[49] } { data := #[48] } where
  bits := by omega
  step := by omega
  zero := by decide
  gsize := by decide
  osize := by decide
  gain := by decide +kernel
  plus := by decide +kernel
  offs := by decide +kernel
theorem vol_near : nearF [49, 47, 51] = 1051372203 := by decide +kernel
theorem vol_lo : ∀ t : Nat, t < 130 → belowB [49, 47, 51] 1051372203 (nomW (2 * ((t : Int) - 128) - 1) (-3)) = false := by decide +kernel
theorem vol_hi : ∀ t : Nat, t < 127 → belowB [49, 47, 51] 1051372203 (nomW (2 * (((130 + t : Nat) : Int) - 128) - 1) (-3)) = true := by decide +kernel
theorem vol_read : readE [49, 47, 51] = 0 := by decide +kernel
theorem vol_read4 : readE [49, 47, 52] = 0 := by decide +kernel
theorem vol_fl : flW (readQ [49, 47, 52]) = 1048576000 := by decide +kernel
theorem vol_fx : flX (readQ [49, 47, 52]) = 0 := by decide +kernel
theorem vol_nom : nomW 1 (-2) = 1048576000 := by decide +kernel
theorem vol_dig1 : digL 1056964608 1061158912 false [1048576000, 1065353216] = [false, true] := by decide +kernel
theorem vol_dig2 : digL 0 1048576000 false [1048576000, 1065353216] = [true, true] := by decide +kernel
theorem vol_wd : (List.range 2).map (wd [[false, true], [true, true]]) = [2, 3] := by decide +kernel
theorem vol_eq : (FloatKind.f32.format.order 1048576000 1048576000 == some .eq) = true := by decide +kernel
theorem vol_fin : ∀ x ∈ [1048576000, 1065353216], fin Ieee.single x = true := by decide +kernel

end Go.Proofs.YthmiamppfncfoaaGreatDoor
