/- Contract of write: the text of a rational number. -/
import Derived.Test.YthmiamppfncfoaaGreatDoorCText
import Derived.Test.YthmiamppfncfoaaGreatDoorCRat2
import Derived.Deep.RegionHeld3
namespace Go.Proofs.YthmiamppfncfoaaGreatDoor
open Go.RowKit Bn

def writeS (q : Q) : List UInt8 := (if q.neg then 45 :: Lib.decDigits q.top else Lib.decDigits q.top) ++ (if q.bot = 1 then [] else 47 :: Lib.decDigits q.bot)
def writeE (q : Q) : Int := if q.bot = 0 then 6 else if 600 < (Lib.decDigits q.top).length ∨ 600 < (Lib.decDigits q.bot).length then 4 else 0
def writeT (q : Q) : List UInt8 := if writeE q = 0 then writeS q else []

def RetText (w : World) (l : List UInt8) (x : Int) (e : Ending) (w' : World) : Prop := ∃ s : ByteArray, e = .returned (.tuple #[.string s, .int .i64 x]) ∧ s.data.toList = l ∧ Below w.heap.size w w'

set_option maxHeartbeats 4000000 in
set_option maxRecDepth 100000 in
theorem write_any (q : Q) (A1 A2 : Option Addr) (n1 c1 n2 c2 : Nat) (w : World) (hT : Tabs w) (h1 : NatS w w.heap.size A1 n1 c1 q.top) (h2 : NatS w w.heap.size A2 n2 c2 q.bot) (k1 : n1 ≤ 268435456) (k2 : n2 ≤ 268435456) :
    Calls Tryz.prog 126 #[.agg #[.bool q.neg, .slice A1 n1 c1, .slice A2 n2 c2]] w (RetText w (writeT q) (writeE q)) := by
  obtain ⟨neg, top, bot⟩ := q
  dsimp only at h1 h2 ⊢
  have hb1 : Below w.heap.size w (w.alloc (.cells #[.bool neg, .slice A1 n1 c1, .slice A2 n2 c2] 93)) := (Below.refl _ _).alloc (Nat.le_refl _) _
  have hx1 : ResBlk (w.alloc (.cells #[.bool neg, .slice A1 n1 c1, .slice A2 n2 c2] 93)) w.heap.size neg (.slice A1 n1 c1) (.slice A2 n2 c2) := ResBlk.new w _ _ _
  have hz := isZero_val A2 n2 c2 bot _ (h2.later hb1)
  by_cases hb0 : bot = 0
  · have hE : writeE ⟨neg, top, bot⟩ = 6 := by unfold writeE; rw [if_pos hb0]
    have hW : writeT ⟨neg, top, bot⟩ = [] := by unfold writeT; rw [hE]; rfl
    have hd : decide (bot = 0) = true := by simpa using hb0
    rw [hE, hW]
    rw [hd] at hz
    clear hE hW hb0 hd
    go_enter Tryz.func126, Tryz.ntmps126
    go_wp2_with fail
    refine hz.mono ?_
    rintro e w1 ⟨rfl, rfl⟩
    go_wp2
    go_ret2
    exact ⟨⟨#[]⟩, rfl, rfl, hb1⟩
  · have hd : decide (bot = 0) = false := by simpa using hb0
    rw [hd] at hz
    have hT1 := hT.later hb1
    have ht1 := fun (W : World) (hb : Below (w.alloc (.cells #[.bool neg, .slice A1 n1 c1, .slice A2 n2 c2] 93)).heap.size (w.alloc (.cells #[.bool neg, .slice A1 n1 c1, .slice A2 n2 c2] 93)) W) => text_any A1 n1 c1 top W (hT1.later hb) ((h1.later hb1).later hb) (by omega)
    have ht2 := fun (W : World) (hb : Below (w.alloc (.cells #[.bool neg, .slice A1 n1 c1, .slice A2 n2 c2] 93)).heap.size (w.alloc (.cells #[.bool neg, .slice A1 n1 c1, .slice A2 n2 c2] 93)) W) => text_any A2 n2 c2 bot W (hT1.later hb) ((h2.later hb1).later hb) (by omega)
    have ho := fun (W : World) (hb : Below (w.alloc (.cells #[.bool neg, .slice A1 n1 c1, .slice A2 n2 c2] 93)).heap.size (w.alloc (.cells #[.bool neg, .slice A1 n1 c1, .slice A2 n2 c2] 93)) W) => isOne_any A2 n2 c2 bot W ((h2.later hb1).later hb)
    obtain ⟨s1, hs1⟩ : ∃ s1 : ByteArray, s1 = ⟨(Lib.decDigits top).toArray⟩ := ⟨_, rfl⟩
    obtain ⟨s2, hs2⟩ : ∃ s2 : ByteArray, s2 = ⟨(Lib.decDigits bot).toArray⟩ := ⟨_, rfl⟩
    have e1 : s1.data.toList = Lib.decDigits top := by rw [hs1]
    have e2 : s2.data.toList = Lib.decDigits bot := by rw [hs2]
    simp only [← hs1] at ht1
    simp only [← hs2] at ht2
    have hE : Hid (writeE ⟨neg, top, bot⟩ = if 600 < s1.size ∨ 600 < s2.size then 4 else 0) := by
      unfold Hid writeE
      rw [if_neg hb0, ← e1, ← e2]; simp
    have hS : Hid (writeS ⟨neg, top, bot⟩ = (if neg then 45 :: s1.data.toList else s1.data.toList) ++ (if bot = 1 then [] else 47 :: s2.data.toList)) := by
      unfold Hid writeS; rw [← e1, ← e2]
    have hsz1 : s1.size < 8589934592 := by
      have h0 : s1.size = (Lib.decDigits top).length := by rw [← e1]; simp
      have h3 := Dec.dec_length_le (k := 20 * n1 + 1) (r := top) (by omega) (by
        have h4 := lt_of_digs_length top
        rw [h1.len] at h4
        refine Nat.lt_of_lt_of_le h4 ?_
        have h5 : B ≤ 10 ^ 20 := by rw [B_def]; omega
        have h6 := Nat.pow_le_pow_left h5 n1
        rw [← Nat.pow_mul] at h6
        exact Nat.le_trans h6 (Nat.pow_le_pow_right (by omega) (by omega)))
      omega
    have hsz2 : s2.size < 8589934592 := by
      have h0 : s2.size = (Lib.decDigits bot).length := by rw [← e2]; simp
      have h3 := Dec.dec_length_le (k := 20 * n2 + 1) (r := bot) (by omega) (by
        have h4 := lt_of_digs_length bot
        rw [h2.len] at h4
        refine Nat.lt_of_lt_of_le h4 ?_
        have h5 : B ≤ 10 ^ 20 := by rw [B_def]; omega
        have h6 := Nat.pow_le_pow_left h5 n2
        rw [← Nat.pow_mul] at h6
        exact Nat.le_trans h6 (Nat.pow_le_pow_right (by omega) (by omega)))
      omega
    have HT1 := Lib.hid ht1
    have HT2 := Lib.hid ht2
    have HO := Lib.hid ho
    have HS1 := Lib.hid hsz1
    have HS2 := Lib.hid hsz2
    have HE2 := Lib.hid e1
    clear ht1 ht2 ho hs1 hs2 e1 e2 hd hb0 hT1 hsz1 hsz2
    go_enter Tryz.func126, Tryz.ntmps126
    go_wp2_with fail
    refine hz.mono ?_
    rintro e w1 ⟨rfl, rfl⟩
    clear hz
    generalize (w.alloc (.cells #[.bool neg, .slice A1 n1 c1, .slice A2 n2 c2] 93)) = w3 at *
    obtain ⟨a0, a1, a2, _, _, _, al⟩ := hx1.cells
    go_wp2_with fail
    go_region_held3 (fun w' => w'.cell? ⟨w.heap.size, 0, none⟩ = some (.bool neg) ∧ w'.cell? ⟨w.heap.size, 1, none⟩ = some (.slice A1 n1 c1) ∧ w'.cell? ⟨w.heap.size, 2, none⟩ = some (.slice A2 n2 c2))
      (first | exact ⟨a0, a1, a2⟩ | exact ⟨((hb5.cell (p := ⟨w.heap.size, 0, none⟩) al).trans a0), ((hb5.cell (p := ⟨w.heap.size, 1, none⟩) al).trans a1), ((hb5.cell (p := ⟨w.heap.size, 2, none⟩) al).trans a2)⟩ | exact ⟨((hb6.cell (p := ⟨w.heap.size, 0, none⟩) (al6)).trans ((hb5.cell (p := ⟨w.heap.size, 0, none⟩) al).trans a0)), ((hb6.cell (p := ⟨w.heap.size, 1, none⟩) (al6)).trans ((hb5.cell (p := ⟨w.heap.size, 1, none⟩) al).trans a1)), ((hb6.cell (p := ⟨w.heap.size, 2, none⟩) (al6)).trans ((hb5.cell (p := ⟨w.heap.size, 2, none⟩) al).trans a2))⟩)
      (first
        | (go_at_call_of 133 (Value.slice A1 n1 c1); refine (HT1.out w3.drew (Below.drew (Below.refl _ _))).mono ?_; rintro e w4 ⟨rfl, hb5⟩; have al6 := Nat.lt_of_lt_of_le al hb5.size)
        | (go_at_call_of 133 (Value.slice A2 n2 c2); refine (HT2.out w4 (Below.trans (Below.drew (Below.refl _ _)) hb5)).mono ?_; rintro e w6 ⟨rfl, hb6⟩))
    have hB6 : Below w3.heap.size w3 w6 := (Below.trans (Below.drew (Below.refl _ _)) hb5).trans (hb6.mono (by have := hb5.size; exact this))
    have b0 := (hB6.cell (p := ⟨w.heap.size, 0, none⟩) al).trans a0
    have b2 := (hB6.cell (p := ⟨w.heap.size, 2, none⟩) al).trans a2
    have ho := HO.out w6 hB6
    have hBw := hb1.trans (hB6.mono hb1.size)
    clear a0 a1 a2 hb5 hb6 hx1
    by_cases hl : 600 < s1.size ∨ 600 < s2.size
    · have hmx : decide ((600 : Int) < max (s1.size : Int) (s2.size : Int)) = true := by simp only [decide_eq_true_eq]; omega
      have hE4 : writeE ⟨neg, top, bot⟩ = 4 := by rw [hE.out, if_pos hl]
      have hW : writeT ⟨neg, top, bot⟩ = [] := by unfold writeT; rw [hE4]; rfl
      have HE4 := Lib.hid hE4
      have HW := Lib.hid hW
      clear hE4 hW hl ho
      go_wp2
      go_ret2
      exact ⟨⟨#[]⟩, by rw [HE4.out]; rfl, by rw [HW.out], hBw⟩
    · have hmx : decide ((600 : Int) < max (s1.size : Int) (s2.size : Int)) = false := by simp only [decide_eq_false_iff_not]; omega
      have hE3 : writeE ⟨neg, top, bot⟩ = 0 := by rw [hE.out, if_neg hl]
      have hS2 : writeT ⟨neg, top, bot⟩ = (if neg then 45 :: s1.data.toList else s1.data.toList) ++ (if bot = 1 then [] else 47 :: s2.data.toList) := by
        unfold writeT; rw [if_pos hE3]; exact hS.out
      have HE3 := Lib.hid hE3
      have hz1 : s1.size ≤ 600 := by omega
      have hz2 : s2.size ≤ 600 := by omega
      clear hE3 hl
      by_cases h1 : bot = 1 <;> cases neg
      · rw [show decide (bot = 1) = true from by simpa using h1] at ho
        rw [if_neg (by simp), if_pos h1] at hS2
        have HW := Lib.hid hS2
        clear h1 hS2
        go_wp2_with fail
        refine ho.mono ?_
        rintro e w7 ⟨rfl, rfl⟩
        go_wp2
        go_ret2
        refine ⟨_, by rw [HE3.out]; rfl, ?_, hBw⟩
        rw [HW.out]
        simp
      · rw [show decide (bot = 1) = true from by simpa using h1] at ho
        rw [if_pos rfl, if_pos h1] at hS2
        have HW := Lib.hid hS2
        clear h1 hS2
        go_wp2_with fail
        refine ho.mono ?_
        rintro e w7 ⟨rfl, rfl⟩
        go_wp2
        go_ret2
        refine ⟨_, by rw [HE3.out]; rfl, ?_, hBw⟩
        rw [HW.out]
        simp
      · rw [show decide (bot = 1) = false from by simpa using h1] at ho
        rw [if_neg (by simp), if_neg h1] at hS2
        have HW := Lib.hid hS2
        clear h1 hS2
        go_wp2_with fail
        refine ho.mono ?_
        rintro e w7 ⟨rfl, rfl⟩
        go_wp2
        go_ret2
        refine ⟨_, by rw [HE3.out]; rfl, ?_, hBw⟩
        rw [HW.out]
        simp
      · rw [show decide (bot = 1) = false from by simpa using h1] at ho
        rw [if_pos rfl, if_neg h1] at hS2
        have HW := Lib.hid hS2
        clear h1 hS2
        go_wp2_with fail
        refine ho.mono ?_
        rintro e w7 ⟨rfl, rfl⟩
        go_wp2
        go_ret2
        refine ⟨_, by rw [HE3.out]; rfl, ?_, hBw⟩
        rw [HW.out]
        simp

end Go.Proofs.YthmiamppfncfoaaGreatDoor
