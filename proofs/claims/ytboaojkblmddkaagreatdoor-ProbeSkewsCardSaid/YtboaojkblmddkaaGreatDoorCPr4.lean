/- Contracts of package probe: exact, checkGain, nearestFloat's and isBelow's parts. -/
import Derived.Test.YtboaojkblmddkaaGreatDoorCEx1
import Derived.Test.YtboaojkblmddkaaGreatDoorCEx2
import Derived.Test.YtboaojkblmddkaaGreatDoorCRat4
import Derived.Test.YtboaojkblmddkaaGreatDoorCDiv4
namespace Go.Proofs.YtboaojkblmddkaaGreatDoor
open Go.RowKit Bn
open Flt

/-- the text of a single's exact value, empty if it is no number -/
def exT (b : Nat) : List UInt8 := if fin Ieee.single b then writeT (exQ b) else []

def RetStr (w : World) (l : List UInt8) (e : Ending) (w' : World) : Prop := ∃ s : ByteArray, e = .returned (.string s) ∧ s.data.toList = l ∧ Below w.heap.size w w'

theorem exact_any (b : Nat) (w : World) (hT : Tabs w) : Calls Tryz.prog 94 #[.float .f32 b] w (RetStr w (exT b)) := by
  have h := Exact_any b w hT
  unfold exT
  generalize (if fin Ieee.single b = true then writeT (exQ b) else []) = l at *
  generalize (if fin Ieee.single b = true then writeE (exQ b) else 1) = x at *
  have H := Lib.hid h
  clear h
  go_enter Tryz.func94, Tryz.ntmps94
  go_wp2_with fail
  refine H.out.mono ?_
  rintro e w1 ⟨s, rfl, hs, hb⟩
  go_wp2_with fail
  go_ret
  exact ⟨s, rfl, hs, hb⟩

/-- what Order returns -/
def ordO (a b : List UInt8) : Int := if readE a ≠ 0 then 0 else if readE b ≠ 0 then 0 else rcmp (readQ a) (readQ b)
def ordE (a b : List UInt8) : Int := if readE a ≠ 0 then readE a else readE b

theorem checkGain_any (s : ByteArray) (w : World) (hT : Tabs w) (hs : s.size ≤ 4294967296) :
    Calls Tryz.prog 115 #[.string s] w fun e w' =>
      e = .returned (.int .i64 (if ordE s.data.toList [48] = 0 ∧ ordO s.data.toList [48] ≤ 0 then 3 else ordE s.data.toList [48])) ∧ Below w.heap.size w w' := by
  have h := order_any s { data := #[48] } w hT hs (by decide)
  have e1 : (if readE s.data.toList ≠ 0 then readE s.data.toList else readE ({ data := #[48] } : ByteArray).data.toList) = ordE s.data.toList [48] := rfl
  have e2 : (if readE s.data.toList ≠ 0 then 0 else if readE ({ data := #[48] } : ByteArray).data.toList ≠ 0 then 0 else rcmp (readQ s.data.toList) (readQ ({ data := #[48] } : ByteArray).data.toList)) = ordO s.data.toList [48] := rfl
  rw [e1, e2] at h
  clear e1 e2
  generalize ordE s.data.toList [48] = x at *
  generalize ordO s.data.toList [48] = o at *
  have H := Lib.hid h
  clear h
  by_cases hx : x = 0
  · subst hx
    by_cases ho : o ≤ 0
    · have hd : decide (o ≤ 0) = true := by simpa using ho
      rw [if_pos ⟨rfl, ho⟩]
      go_enter Tryz.func115, Tryz.ntmps115
      go_wp2_with fail
      refine H.out.mono ?_
      rintro e w1 ⟨rfl, hb⟩
      go_wp2_with fail
      go_ret
      exact ⟨rfl, hb⟩
    · have hd : decide (o ≤ 0) = false := by simpa using ho
      rw [if_neg (fun h => ho h.2)]
      go_enter Tryz.func115, Tryz.ntmps115
      go_wp2_with fail
      refine H.out.mono ?_
      rintro e w1 ⟨rfl, hb⟩
      go_wp2_with fail
      go_ret
      exact ⟨rfl, hb⟩
  · have hd : (x == 0) = false := by simpa using hx
    rw [if_neg (fun h => hx h.1)]
    go_enter Tryz.func115, Tryz.ntmps115
    go_wp2_with fail
    refine H.out.mono ?_
    rintro e w1 ⟨rfl, hb⟩
    go_wp2_with fail
    go_ret
    exact ⟨rfl, hb⟩

theorem writeT_len (q : Q) : (writeT q).length ≤ 1300 := by
  unfold writeT
  by_cases h : writeE q = 0
  · rw [if_pos h]
    unfold writeE at h
    by_cases hb : q.bot = 0
    · rw [if_pos hb] at h; cases h
    · rw [if_neg hb] at h
      by_cases hl : 600 < (Lib.decDigits q.top).length ∨ 600 < (Lib.decDigits q.bot).length
      · rw [if_pos hl] at h; cases h
      · unfold writeS
        rw [List.length_append]
        have h1 : (if q.neg = true then 45 :: Lib.decDigits q.top else Lib.decDigits q.top).length ≤ 601 := by
          split
          · rw [List.length_cons]; omega
          · omega
        have h2 : (if q.bot = 1 then [] else 47 :: Lib.decDigits q.bot).length ≤ 601 := by
          split
          · exact Nat.zero_le _
          · rw [List.length_cons]; omega
        omega
  · rw [if_neg h]; exact Nat.zero_le _
theorem exT_len (b : Nat) : (exT b).length ≤ 1300 := by
  unfold exT; split
  · exact writeT_len _
  · exact Nat.zero_le _

/-- is a voltage below an edge: by the nearest float, and where this is the edge by the exact value -/
def belowB (v : List UInt8) (n e : Nat) : Bool :=
  if (FloatKind.f32.format.order n e != some .eq) = true then FloatKind.f32.format.order n e == some .lt else decide (ordO v (exT e) < 0)

theorem isBelow_any (s : ByteArray) (n ed : Nat) (w : World) (hT : Tabs w) (hs : s.size ≤ 4294967296) :
    Calls Tryz.prog 121 #[.string s, .float .f32 n, .float .f32 ed] w fun e w' => e = .returned (.bool (belowB s.data.toList n ed)) ∧ Below w.heap.size w w' := by
  unfold belowB
  by_cases hq : (FloatKind.f32.format.order n ed != some .eq) = true
  · rw [if_pos hq]
    go_enter Tryz.func121, Tryz.ntmps121
    go_wp2_with fail
    go_ret
    exact ⟨rfl, Below.refl _ _⟩
  · rw [if_neg hq]
    have hq' : (FloatKind.f32.format.order n ed != some .eq) = false := by simpa using hq
    have h := exact_any ed w hT
    have hl := exT_len ed
    generalize exT ed = l at *
    have H := Lib.hid h
    clear h hq
    go_enter Tryz.func121, Tryz.ntmps121
    go_wp2_with fail
    refine H.out.mono ?_
    rintro e w1 ⟨t, rfl, ht, hb⟩
    have hsz : t.size = l.length := by rw [← ht]; exact (Array.length_toList).symm
    have h2 := order_any s t w1 (hT.later hb) hs (by omega)
    rw [ht] at h2
    have e2 : (if readE s.data.toList ≠ 0 then 0 else if readE l ≠ 0 then 0 else rcmp (readQ s.data.toList) (readQ l)) = ordO s.data.toList l := rfl
    have e3 : (if readE s.data.toList ≠ 0 then readE s.data.toList else readE l) = ordE s.data.toList l := rfl
    rw [e2, e3] at h2
    clear e2 e3
    have H2 := Lib.hid h2
    clear h2 H
    go_wp2_with fail
    refine H2.out.mono ?_
    rintro e w2 ⟨rfl, hb2⟩
    go_wp2_with fail
    go_ret
    exact ⟨rfl, hb.trans (hb2.mono hb.size)⟩

end Go.Proofs.YtboaojkblmddkaaGreatDoor

/- Contracts of scaled, binaryExponent and rounded of rational numbers. -/
namespace Go.Proofs.YtboaojkblmddkaaGreatDoor
open Go.RowKit Bn

set_option maxHeartbeats 4000000 in
set_option maxRecDepth 100000 in
theorem scaled_neg (b : Bool) (x1 x2 s : Nat) (A1 A2 : Option Addr) (n1 c1 n2 c2 : Nat) (w : World) (h1 : NatS w w.heap.size A1 n1 c1 x1) (h2 : NatS w w.heap.size A2 n2 c2 x2) (k1 : n1 ≤ 134217728) (k2 : n2 ≤ 134217728) (hs : s ≤ 1099511627776) (hs0 : 0 < s) :
    Calls Tryz.prog 203 #[.agg #[.bool b, .slice A1 n1 c1, .slice A2 n2 c2], .int .i64 (-(s : Int))] w (RetTwo w (x1 * 2 ^ s) x2) := by
  have hb1 : Below w.heap.size w (w.alloc (.cells #[.bool b, .slice A1 n1 c1, .slice A2 n2 c2] 176)) := (Below.refl _ _).alloc (Nat.le_refl _) _
  have hx0 : ResBlk (w.alloc (.cells #[.bool b, .slice A1 n1 c1, .slice A2 n2 c2] 176)) w.heap.size b (.slice A1 n1 c1) (.slice A2 n2 c2) := ResBlk.new w _ _ _
  have hlt : decide (-(s : Int) < 0) = true := by simp; omega
  have hw : wrap64 (s : Int) = (s : Int) := IntWalk.wrap64_in _ (by omega)
  have hw2 : IntKind.i64.wrap (s : Int) = (s : Int) := IntWalk.i64_in _ (by omega)
  have hw3 : IntKind.i64.wrap (- -(s : Int)) = (s : Int) := by rw [Int.neg_neg]; exact IntWalk.i64_in _ (by omega)
  go_enter Tryz.func203, Tryz.ntmps203
  go_wp2_with fail
  generalize (w.alloc (.cells #[.bool b, .slice A1 n1 c1, .slice A2 n2 c2] 176)) = w3 at *
  obtain ⟨a0, a1, a2, _, _, _, al⟩ := hx0.cells
  have hd3 : Below w3.heap.size w3 w3.drew := Below.drew (Below.refl _ _)
  have g := (h1.later hb1).later hd3
  go_region_held3 (fun w' => w'.cell? ⟨w.heap.size, 0, none⟩ = some (.bool b) ∧ w'.cell? ⟨w.heap.size, 1, none⟩ = some (.slice A1 n1 c1) ∧ w'.cell? ⟨w.heap.size, 2, none⟩ = some (.slice A2 n2 c2))
    (first | exact ⟨a0, a1, a2⟩ | exact ⟨((hb5.cell (p := ⟨w.heap.size, 0, none⟩) al).trans a0), ((hb5.cell (p := ⟨w.heap.size, 1, none⟩) al).trans a1), ((hb5.cell (p := ⟨w.heap.size, 2, none⟩) al).trans a2)⟩)
    (first | (go_at_call 149; refine (shiftedLeft_any A1 n1 c1 x1 s w3.drew g (by omega) hs).mono ?_; rintro e w4 ⟨A5, m5, c5, rfl, hn5, hb5⟩; have al6 := Nat.lt_of_lt_of_le al hb5.size))
  have hBw : Below w.heap.size w w4 := (hb1.trans (hd3.mono hb1.size)).trans (hb5.mono hb1.size)
  have hO := (((h2.later hb1).later hd3).later hb5)
  go_wp2
  go_ret2
  exact ⟨A5, m5, c5, A2, n2, c2, rfl, hn5, hO, hBw⟩

set_option maxHeartbeats 4000000 in
set_option maxRecDepth 100000 in
theorem scaled_pos (b : Bool) (x1 x2 s : Nat) (A1 A2 : Option Addr) (n1 c1 n2 c2 : Nat) (w : World) (h1 : NatS w w.heap.size A1 n1 c1 x1) (h2 : NatS w w.heap.size A2 n2 c2 x2) (k1 : n1 ≤ 134217728) (k2 : n2 ≤ 134217728) (hs : s ≤ 1099511627776) :
    Calls Tryz.prog 203 #[.agg #[.bool b, .slice A1 n1 c1, .slice A2 n2 c2], .int .i64 ((s : Int))] w (RetTwo w x1 (x2 * 2 ^ s)) := by
  have hb1 : Below w.heap.size w (w.alloc (.cells #[.bool b, .slice A1 n1 c1, .slice A2 n2 c2] 176)) := (Below.refl _ _).alloc (Nat.le_refl _) _
  have hx0 : ResBlk (w.alloc (.cells #[.bool b, .slice A1 n1 c1, .slice A2 n2 c2] 176)) w.heap.size b (.slice A1 n1 c1) (.slice A2 n2 c2) := ResBlk.new w _ _ _
  have hlt : decide ((s : Int) < 0) = false := by simp
  go_enter Tryz.func203, Tryz.ntmps203
  go_wp2_with fail
  generalize (w.alloc (.cells #[.bool b, .slice A1 n1 c1, .slice A2 n2 c2] 176)) = w3 at *
  obtain ⟨a0, a1, a2, _, _, _, al⟩ := hx0.cells
  have hd3 : Below w3.heap.size w3 w3.drew := Below.drew (Below.refl _ _)
  have g := (h2.later hb1).later hd3
  go_region_held3 (fun w' => w'.cell? ⟨w.heap.size, 0, none⟩ = some (.bool b) ∧ w'.cell? ⟨w.heap.size, 1, none⟩ = some (.slice A1 n1 c1) ∧ w'.cell? ⟨w.heap.size, 2, none⟩ = some (.slice A2 n2 c2))
    (first | exact ⟨a0, a1, a2⟩ | exact ⟨((hb5.cell (p := ⟨w.heap.size, 0, none⟩) al).trans a0), ((hb5.cell (p := ⟨w.heap.size, 1, none⟩) al).trans a1), ((hb5.cell (p := ⟨w.heap.size, 2, none⟩) al).trans a2)⟩)
    (first | (go_at_call 149; refine (shiftedLeft_any A2 n2 c2 x2 s w3.drew g (by omega) hs).mono ?_; rintro e w4 ⟨A5, m5, c5, rfl, hn5, hb5⟩; have al6 := Nat.lt_of_lt_of_le al hb5.size))
  have hBw : Below w.heap.size w w4 := (hb1.trans (hd3.mono hb1.size)).trans (hb5.mono hb1.size)
  have hO := (((h1.later hb1).later hd3).later hb5)
  go_wp2
  go_ret2
  exact ⟨A1, n1, c1, A5, m5, c5, rfl, hO, hn5, hBw⟩

/-- what scaled gives -/
def scT (t : Nat) (e : Int) : Nat := if e < 0 then t * 2 ^ (-e).toNat else t
def scB (b : Nat) (e : Int) : Nat := if e < 0 then b else b * 2 ^ e.toNat
theorem scaled_any (b : Bool) (x1 x2 : Nat) (i : Int) (A1 A2 : Option Addr) (n1 c1 n2 c2 : Nat) (w : World) (h1 : NatS w w.heap.size A1 n1 c1 x1) (h2 : NatS w w.heap.size A2 n2 c2 x2) (k1 : n1 ≤ 134217728) (k2 : n2 ≤ 134217728) (hs : -1099511627776 ≤ i ∧ i ≤ 1099511627776) :
    Calls Tryz.prog 203 #[.agg #[.bool b, .slice A1 n1 c1, .slice A2 n2 c2], .int .i64 i] w (RetTwo w (scT x1 i) (scB x2 i)) := by
  by_cases h : i < 0
  · obtain ⟨s, rfl⟩ : ∃ s : Nat, i = -(s : Int) := ⟨(-i).toNat, by omega⟩
    have e1 : scT x1 (-(s : Int)) = x1 * 2 ^ s := by unfold scT; rw [if_pos h]; congr 2; omega
    have e2 : scB x2 (-(s : Int)) = x2 := by unfold scB; rw [if_pos h]
    rw [e1, e2]
    exact scaled_neg b x1 x2 s A1 A2 n1 c1 n2 c2 w h1 h2 k1 k2 (by omega) (by omega)
  · obtain ⟨s, rfl⟩ := Int.eq_ofNat_of_zero_le (Int.not_lt.1 h)
    have e1 : scT x1 (s : Int) = x1 := by unfold scT; rw [if_neg h]
    have e2 : scB x2 (s : Int) = x2 * 2 ^ s := by unfold scB; rw [if_neg h]; simp
    rw [e1, e2]
    exact scaled_pos b x1 x2 s A1 A2 n1 c1 n2 c2 w h1 h2 k1 k2 (by omega)

end Go.Proofs.YtboaojkblmddkaaGreatDoor

/- Contracts of binaryExponent and rounded of rational numbers. -/
namespace Go.Proofs.YtboaojkblmddkaaGreatDoor
open Go.RowKit Bn

/-- the exponent of the greatest power of 2 that is at most t / b -/
def bexp (t b : Nat) : Int :=
  if scT t ((nbits t : Int) - (nbits b : Int)) < scB b ((nbits t : Int) - (nbits b : Int)) then (nbits t : Int) - (nbits b : Int) - 1 else (nbits t : Int) - (nbits b : Int)

theorem nbits_bound {x n : Nat} (h : (digs x).length ≤ n) : nbits x ≤ 64 * n := by
  rcases Nat.eq_zero_or_pos x with rfl | hx
  · simp [nbits]
  · have h1 := nbits_le hx
    have h2 := lt_of_digs_length x
    have h3 : B ^ (digs x).length ≤ B ^ n := Nat.pow_le_pow_right B_pos h
    have h4 : B ^ n = 2 ^ (64 * n) := by rw [Nat.pow_mul]; rfl
    have h5 : 2 ^ (nbits x - 1) < 2 ^ (64 * n) := by omega
    have h6 := (Nat.pow_lt_pow_iff_right (by omega : 1 < 2)).1 h5
    omega

theorem ncmp_lt {x y : Nat} (h : x < y) : ncmp x y = -1 := by unfold ncmp; rw [if_pos h]
theorem ncmp_ge {x y : Nat} (h : ¬ x < y) : 0 ≤ ncmp x y := by unfold ncmp; rw [if_neg h]; split <;> omega

set_option maxHeartbeats 4000000 in
set_option maxRecDepth 100000 in
theorem binaryExponent_any (b : Bool) (x1 x2 : Nat) (A1 A2 : Option Addr) (n1 c1 n2 c2 : Nat) (w : World) (h1 : NatS w w.heap.size A1 n1 c1 x1) (h2 : NatS w w.heap.size A2 n2 c2 x2) (k1 : n1 ≤ 134217728) (k2 : n2 ≤ 134217728) :
    Calls Tryz.prog 182 #[.agg #[.bool b, .slice A1 n1 c1, .slice A2 n2 c2]] w fun e w' => e = .returned (.int .i64 (bexp x1 x2)) ∧ Below w.heap.size w w' := by
  have hb1 : Below w.heap.size w (w.alloc (.cells #[.bool b, .slice A1 n1 c1, .slice A2 n2 c2] 176)) := (Below.refl _ _).alloc (Nat.le_refl _) _
  have hx0 : ResBlk (w.alloc (.cells #[.bool b, .slice A1 n1 c1, .slice A2 n2 c2] 176)) w.heap.size b (.slice A1 n1 c1) (.slice A2 n2 c2) := ResBlk.new w _ _ _
  have hn1 := nbits_bound (Nat.le_of_eq h1.len)
  have hn2 := nbits_bound (Nat.le_of_eq h2.len)
  have HV0 : Hid (bexp x1 x2 = if scT x1 ((nbits x1 : Int) - (nbits x2 : Int)) < scB x2 ((nbits x1 : Int) - (nbits x2 : Int)) then (nbits x1 : Int) - (nbits x2 : Int) - 1 else (nbits x1 : Int) - (nbits x2 : Int)) := rfl
  go_enter Tryz.func182, Tryz.ntmps182
  go_wp2_with fail
  generalize (w.alloc (.cells #[.bool b, .slice A1 n1 c1, .slice A2 n2 c2] 176)) = w3 at *
  obtain ⟨a0, a1, a2, _, _, _, al⟩ := hx0.cells
  have q1 := h1.later hb1
  have q2 := h2.later hb1
  have HB1 : ∀ q, Calls Tryz.prog 202 #[.slice A1 n1 c1] (w3.drewN q) fun e w' => e = .returned (.int .i64 (nbits x1)) ∧ w3.drewN q = w' := fun q => bitLength_any A1 n1 c1 x1 (w3.drewN q) (q1.later (below_drewN (Below.refl _ _) q)) (by omega)
  have HB2 : ∀ q, Calls Tryz.prog 202 #[.slice A2 n2 c2] (w3.drewN q) fun e w' => e = .returned (.int .i64 (nbits x2)) ∧ w3.drewN q = w' := fun q => bitLength_any A2 n2 c2 x2 (w3.drewN q) (q2.later (below_drewN (Below.refl _ _) q)) (by omega)
  have hws : IntKind.i64.wrap ((nbits x1 : Int) - (nbits x2 : Int)) = (nbits x1 : Int) - (nbits x2 : Int) := IntWalk.i64_in _ (by omega)
  have H1 := Lib.hid HB1
  have H2 := Lib.hid HB2
  clear HB1 HB2
  go_quiet ((first | (go_at_call_of 202 (Value.slice A1 n1 c1); first | exact quiet_add_left (H1.out _) | exact quiet_left (H1.out _)) | (go_at_call_of 202 (Value.slice A2 n2 c2); first | exact quiet_add_left (H2.out _) | exact quiet_left (H2.out _))))
  have hbq : Below w3.heap.size w3 (w3.drewN nq) := below_drewN (Below.refl _ _) nq
  have hsc := scaled_any b x1 x2 ((nbits x1 : Int) - (nbits x2 : Int)) A1 A2 n1 c1 n2 c2 (w3.drewN nq) (q1.later hbq) (q2.later hbq) k1 k2 (by omega)
  have HSC := Lib.hid hsc
  have hib1 : -8589934592 ≤ (nbits x1 : Int) - (nbits x2 : Int) := by omega
  have hib2 : (nbits x1 : Int) - (nbits x2 : Int) ≤ 8589934592 := by omega
  generalize (nbits x1 : Int) - (nbits x2 : Int) = i at *
  clear hsc hws H1 H2
  go_wp2_with fail
  refine HSC.out.mono ?_
  rintro e w5 ⟨A5, m5, c5, A6, m6, c6, rfl, h5, h6, hb5⟩
  have hB5 : Below w.heap.size w w5 := (hb1.trans (hbq.mono hb1.size)).trans (hb5.mono hb1.size)
  have hcm := compare_any A5 A6 m5 c5 m6 c6 _ _ w5 h5 h6
  by_cases hlt : scT x1 i < scB x2 i
  · rw [ncmp_lt hlt] at hcm
    have HV : Hid (bexp x1 x2 = i - 1) := by unfold Hid; rw [HV0.out, if_pos hlt]
    clear hlt
    go_wp2_with fail
    refine hcm.mono ?_
    rintro e w6 ⟨rfl, k, rfl⟩
    go_wp2
    go_ret
    exact ⟨by rw [HV.out]; rfl, below_drewN hB5 k⟩
  · have hg := ncmp_ge hlt
    have HV : Hid (bexp x1 x2 = i) := by unfold Hid; rw [HV0.out, if_neg hlt]
    generalize ncmp (scT x1 i) (scB x2 i) = cv at hcm hg
    have hd : decide (cv < 0) = false := by simp; omega
    clear hlt
    go_wp2_with fail
    refine hcm.mono ?_
    rintro e w6 ⟨rfl, k, rfl⟩
    go_wp2
    go_ret
    exact ⟨by rw [HV.out]; rfl, below_drewN hB5 k⟩

theorem len_shift {x n s : Nat} (h : (digs x).length ≤ n) : (digs (x * 2 ^ s)).length ≤ n + s / 64 + 1 := by
  refine digs_length_le ?_
  have h1 := lt_of_digs_length x
  have h2 : B ^ (digs x).length ≤ B ^ n := Nat.pow_le_pow_right B_pos h
  have h3 : 2 ^ s < 2 ^ (64 * (s / 64 + 1)) := Nat.pow_lt_pow_right (by omega) (by omega)
  have h4 : 2 ^ (64 * (s / 64 + 1)) = B ^ (s / 64 + 1) := by rw [Nat.pow_mul]; rfl
  rw [h4] at h3
  rw [Nat.add_assoc, Nat.pow_add]
  exact Nat.mul_lt_mul'' (Nat.lt_of_lt_of_le h1 h2) h3

/-- the nearest integer, the even one of two -/
def near (t b : Nat) : Nat := if b < t % b * 2 ∨ (t % b * 2 = b ∧ t / b % 2 = 1) then t / b + 1 else t / b

set_option maxHeartbeats 4000000 in
set_option maxRecDepth 100000 in
theorem rounded_any (b : Bool) (x1 x2 : Nat) (i : Int) (A1 A2 : Option Addr) (n1 c1 n2 c2 : Nat) (w : World) (h1 : NatS w w.heap.size A1 n1 c1 x1) (h2 : NatS w w.heap.size A2 n2 c2 x2) (k1 : n1 ≤ 134217728) (k2 : n2 ≤ 134217728) (hs : -1073741824 ≤ i ∧ i ≤ 1073741824)
    (hp : 0 < scB x2 i) (hq : scT x1 i / scB x2 i < 9223372036854775808) :
    Calls Tryz.prog 183 #[.agg #[.bool b, .slice A1 n1 c1, .slice A2 n2 c2], .int .i64 i] w fun e w' => e = .returned (.int .u64 (near (scT x1 i) (scB x2 i) : Int)) ∧ Below w.heap.size w w' := by
  have hb1 : Below w.heap.size w (w.alloc (.cells #[.bool b, .slice A1 n1 c1, .slice A2 n2 c2] 176)) := (Below.refl _ _).alloc (Nat.le_refl _) _
  have hsc := scaled_any b x1 x2 i A1 A2 n1 c1 n2 c2 _ (h1.later hb1) (h2.later hb1) k1 k2 (by omega)
  have hlT : (digs (scT x1 i)).length ≤ 151000000 := by
    unfold scT; split
    · have := len_shift (s := (-i).toNat) (Nat.le_of_eq h1.len); omega
    · rw [h1.len]; omega
  have hlB : (digs (scB x2 i)).length ≤ 151000000 := by
    unfold scB; split
    · rw [h2.len]; omega
    · have := len_shift (s := i.toNat) (Nat.le_of_eq h2.len); omega
  generalize scT x1 i = t at *
  generalize scB x2 i = u at *
  go_enter Tryz.func183, Tryz.ntmps183
  go_wp2_with fail
  refine hsc.mono ?_
  rintro e w3 ⟨A3, n3, c3, A4, n4, c4, rfl, h3, h4, hb3⟩
  have hB3 : Below w.heap.size w w3 := hb1.trans (hb3.mono hb1.size)
  rw [h3.len] at hlT
  rw [h4.len] at hlB
  go_wp2_with fail
  refine (over_any A3 A4 n3 c3 n4 c4 t u w3 h3 h4 hp (by omega)).mono ?_
  rintro e w5 ⟨A5, n5, c5, A6, n6, c6, rfl, h5, h6, hb5⟩
  have hB5 : Below w.heap.size w w5 := hB3.trans (hb5.mono hB3.size)
  have h4' := h4.later hb5
  have l6 : n6 ≤ n4 := by
    rw [← h6.len, ← h4.len]; exact digs_length_mono (Nat.le_of_lt (Nat.mod_lt _ hp))
  have hz := isZero_val A5 n5 c5 (t / u) w5 h5
  -- the whole part
  obtain ⟨z, hzv, hcellz⟩ : ∃ z : Bool, decide (t / u = 0) = z ∧ (z = false → ∃ ad, A5 = some ad ∧ 0 < n5 ∧ w5.cell? (ad.add 0) = some (.int .u64 ((t / u : Nat) : Int))) := by
    refine ⟨_, rfl, fun hz0 => ?_⟩
    have hne : t / u ≠ 0 := by simpa using hz0
    have hlen : 0 < n5 := by rw [← h5.len]; exact digs_length_pos (Nat.pos_of_ne_zero hne)
    obtain ⟨ad, e, _, hc⟩ := h5.words.word (k := 0) hlen
    refine ⟨ad, e, hlen, ?_⟩
    rw [hc, digs_pos (Nat.pos_of_ne_zero hne)]
    simp only [List.getD_cons_zero]
    rw [Nat.mod_eq_of_lt (by rw [B_def]; omega)]
  rw [hzv] at hz
  have h2m : ∀ W : World, Below w5.heap.size w5 W → Calls Tryz.prog 149 #[.slice A6 n6 c6, .int .i64 1] W (RetNat W (t % u * 2)) := fun W hb => by
    have h := shiftedLeft_any A6 n6 c6 (t % u) 1 W (h6.later hb) (by omega) (by omega)
    rw [Nat.pow_one] at h
    exact h
  have HN : Hid (near t u = if u < t % u * 2 ∨ (t % u * 2 = u ∧ t / u % 2 = 1) then t / u + 1 else t / u) := rfl
  have hz0 : z = true → t / u = 0 := by intro h; rw [h] at hzv; simpa using hzv
  have HZ0 := Lib.hid hz0
  generalize t / u = q at hq hcellz HN HZ0 hz
  generalize t % u = r at HN h2m
  have H2M := Lib.hid h2m
  clear h2m hzv hz0 h5 h3 h4 hlT hp
  have hc1 : ncmp (r * 2) u = -1 ∧ r * 2 < u ∨ ncmp (r * 2) u = 0 ∧ r * 2 = u ∨ ncmp (r * 2) u = 1 ∧ u < r * 2 := by
    rcases Nat.lt_trichotomy (r * 2) u with h | h | h
    · exact .inl ⟨ncmp_lt h, h⟩
    · exact .inr (.inl ⟨by unfold ncmp; rw [if_neg (by omega)]; rw [if_pos h], h⟩)
    · exact .inr (.inr ⟨by unfold ncmp; rw [if_neg (by omega), if_neg (by omega)], h⟩)
  have HC1 := Lib.hid hc1
  clear hc1
  cases z
  · obtain ⟨ad, rfl, hn5, hcell⟩ := hcellz rfl
    have e0 : ad.add 0 = ad := by simp [Addr.add]
    rw [e0] at hcell
    clear e0
    clear hcellz HZ0
    go_wp2_with fail
    refine hz.mono ?_
    rintro e w6 ⟨rfl, rfl⟩
    clear hz
    go_wp2_with fail
    refine (H2M.out w5 (Below.refl _ _)).mono ?_
    rintro e w7 ⟨A7, n7, c7, rfl, h7, hb7⟩
    have hcm := compare_any A7 A4 n7 c7 n4 c4 _ _ w7 h7 (h4'.later hb7)
    have hB7 := hB5.trans (hb7.mono hB5.size)
    rcases HC1.out with ⟨e1, h1⟩ | ⟨e1, h1⟩ | ⟨e1, h1⟩
    · have HV : Hid (near t u = q) := by unfold Hid; rw [HN.out, if_neg (by omega)]
      rw [e1] at hcm
      clear e1 h1
      go_wp2_with fail
      refine hcm.mono ?_
      rintro e w8 ⟨rfl, k, rfl⟩
      go_wp2
      go_ret
      exact ⟨by rw [HV.out]; rfl, below_drewN hB7 k⟩
    · by_cases hm : q % 2 = 1
      · have HV : Hid (near t u = q + 1) := by unfold Hid; rw [HN.out, if_pos (.inr ⟨h1, hm⟩)]
        rw [e1] at hcm
        have hm2 : ((q : Int) % 2 == 1) = true := by simp; omega
        clear e1 h1 hm
        go_wp2_with fail
        refine hcm.mono ?_
        rintro e w8 ⟨rfl, k, rfl⟩
        go_wp2
        go_ret
        exact ⟨by rw [HV.out]; rfl, below_drewN hB7 k⟩
      · have HV : Hid (near t u = q) := by unfold Hid; rw [HN.out, if_neg (by omega)]
        rw [e1] at hcm
        have hm2 : ((q : Int) % 2 == 1) = false := by simp; omega
        clear e1 h1 hm
        go_wp2_with fail
        refine hcm.mono ?_
        rintro e w8 ⟨rfl, k, rfl⟩
        go_wp2
        go_ret
        exact ⟨by rw [HV.out]; rfl, below_drewN hB7 k⟩
    · have HV : Hid (near t u = q + 1) := by unfold Hid; rw [HN.out, if_pos (.inl h1)]
      rw [e1] at hcm
      clear e1 h1
      go_wp2_with fail
      refine hcm.mono ?_
      rintro e w8 ⟨rfl, k, rfl⟩
      go_wp2
      go_ret
      exact ⟨by rw [HV.out]; rfl, below_drewN hB7 k⟩
  · have hq0 := HZ0.out rfl
    subst hq0
    clear hcellz HZ0
    go_wp2_with fail
    refine hz.mono ?_
    rintro e w6 ⟨rfl, rfl⟩
    clear hz
    go_wp2_with fail
    refine (H2M.out w5 (Below.refl _ _)).mono ?_
    rintro e w7 ⟨A7, n7, c7, rfl, h7, hb7⟩
    have hcm := compare_any A7 A4 n7 c7 n4 c4 _ _ w7 h7 (h4'.later hb7)
    have hB7 := hB5.trans (hb7.mono hB5.size)
    rcases HC1.out with ⟨e1, h1⟩ | ⟨e1, h1⟩ | ⟨e1, h1⟩
    · have HV : Hid (near t u = 0) := by unfold Hid; rw [HN.out, if_neg (by omega)]
      rw [e1] at hcm
      clear e1 h1
      go_wp2_with fail
      refine hcm.mono ?_
      rintro e w8 ⟨rfl, k, rfl⟩
      go_wp2
      go_ret
      exact ⟨by rw [HV.out]; rfl, below_drewN hB7 k⟩
    · have HV : Hid (near t u = 0) := by unfold Hid; rw [HN.out, if_neg (by omega)]
      rw [e1] at hcm
      clear e1 h1
      go_wp2_with fail
      refine hcm.mono ?_
      rintro e w8 ⟨rfl, k, rfl⟩
      go_wp2
      go_ret
      exact ⟨by rw [HV.out]; rfl, below_drewN hB7 k⟩
    · have HV : Hid (near t u = 1) := by unfold Hid; rw [HN.out, if_pos (.inl h1)]
      rw [e1] at hcm
      clear e1 h1
      go_wp2_with fail
      refine hcm.mono ?_
      rintro e w8 ⟨rfl, k, rfl⟩
      go_wp2
      go_ret
      exact ⟨by rw [HV.out]; rfl, below_drewN hB7 k⟩

end Go.Proofs.YtboaojkblmddkaaGreatDoor
