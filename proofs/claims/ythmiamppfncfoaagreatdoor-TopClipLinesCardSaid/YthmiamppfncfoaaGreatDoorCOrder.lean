/- What read gives; contracts of Check and Order. -/
import Derived.Test.YthmiamppfncfoaaGreatDoorCRead
import Derived.Test.YthmiamppfncfoaaGreatDoorCRat2
import Derived.Test.YthmiamppfncfoaaGreatDoorCErr0
import Derived.Test.YthmiamppfncfoaaGreatDoorCEx1
namespace Go.Proofs.YthmiamppfncfoaaGreatDoor
open Go.RowKit Bn

theorem readE_zero {l : List UInt8} (h : readE l = 0) :
    isDec (topL l) = true ∧ (topL l).length ≤ 600 ∧ (negL l = true → topL l ≠ [48]) ∧
      (fracL l = true → isDec (botL l) = true ∧ botL l ≠ [48] ∧ botL l ≠ [49] ∧ (botL l).length ≤ 600 ∧ Nat.gcd (decVal (topL l)) (decVal (botL l)) = 1) := by
  unfold readE readE' at h
  by_cases h1 : isDec (topL l) = false ∨ (negL l = true ∧ topL l = [48])
  · rw [if_pos h1] at h; cases h
  · rw [if_neg h1] at h
    by_cases h2 : fracL l = true ∧ (isDec (botL l) = false ∨ botL l = [48] ∨ botL l = [49])
    · rw [if_pos h2] at h; cases h
    · rw [if_neg h2] at h
      by_cases h3 : 600 < (topL l).length ∨ 600 < (botL l).length
      · rw [if_pos h3] at h; cases h
      · rw [if_neg h3] at h
        by_cases h4 : fracL l = true ∧ Nat.gcd (decVal (topL l)) (decVal (botL l)) ≠ 1
        · rw [if_pos h4] at h; cases h
        · refine ⟨by cases hd : isDec (topL l) <;> simp_all, by omega, fun hn e => h1 (.inr ⟨hn, e⟩), fun hf => ⟨?_, fun e => h2 ⟨hf, .inr (.inl e)⟩, fun e => h2 ⟨hf, .inr (.inr e)⟩, by omega, ?_⟩⟩
          · cases hd : isDec (botL l)
            · exact absurd ⟨hf, .inl hd⟩ h2
            · rfl
          · exact Classical.byContradiction fun e => h4 ⟨hf, e⟩

theorem decVal_pos {l : List UInt8} (h : isDec l = true) (h0 : l ≠ [48]) : 0 < decVal l := by
  unfold isDec at h
  rw [Bool.and_eq_true, Bool.or_eq_true] at h
  obtain ⟨hd, h | h⟩ := h
  · exact absurd (by simpa using h) h0
  · cases l with
    | nil => simp at h
    | cons c t =>
      simp at h
      have e : digits (c :: t) = (digB (c.toNat : Int) && digits t) := rfl
      rw [e, Bool.and_eq_true] at hd
      have hc := hd.1
      unfold digB at hc
      simp only [Bool.and_eq_true, decide_eq_true_eq] at hc
      have hne : c.toNat ≠ 48 := fun e => h (UInt8.toNat_inj.1 (by rw [e]; rfl))
      rw [decVal_cons]
      have : 0 < (c.toNat - 48) * 10 ^ t.length := Nat.mul_pos (by omega) (Nat.pow_pos (by omega))
      omega

theorem readQ_bot {l : List UInt8} (h : readE l = 0) : 0 < (readQ l).bot := by
  obtain ⟨_, _, _, hf⟩ := readE_zero h
  unfold readQ
  rw [if_pos h]
  cases hb : fracL l
  · simp
  · obtain ⟨h1, h2, _⟩ := hf hb
    simpa using decVal_pos h1 h2
theorem readQ_len {l : List UInt8} (h : readE l = 0) : (digs (readQ l).top).length ≤ 600 ∧ (digs (readQ l).bot).length ≤ 600 := by
  obtain ⟨h1, h2, _, hf⟩ := readE_zero h
  unfold readQ
  rw [if_pos h]
  refine ⟨digs_len_dec (isDec_digits h1) h2, ?_⟩
  cases hb : fracL l
  · simp only [Bool.false_eq_true, if_false]
    exact Nat.le_trans (digs_length_le (k := 1) (by rw [B_def]; omega)) (by omega)
  · obtain ⟨h3, _, _, h4, _⟩ := hf hb
    simpa using digs_len_dec (isDec_digits h3) h4
theorem readQ_gcd {l : List UInt8} (h : readE l = 0) : Nat.gcd (readQ l).top (readQ l).bot = 1 := by
  obtain ⟨_, _, _, hf⟩ := readE_zero h
  unfold readQ
  rw [if_pos h]
  cases hb : fracL l
  · simp
  · simpa using (hf hb).2.2.2.2
theorem readQ_neg {l : List UInt8} (h : readE l = 0) : (readQ l).neg = true → 0 < (readQ l).top := by
  obtain ⟨h1, _, h3, _⟩ := readE_zero h
  unfold readQ
  rw [if_pos h]
  intro hn
  exact decVal_pos h1 (h3 hn)

theorem check_any (s : ByteArray) (w : World) (hT : Tabs w) (hs : s.size ≤ 4294967296) :
    Calls Tryz.prog 44 #[.string s] w fun e w' => e = .returned (.int .i64 (readE s.data.toList)) ∧ Below w.heap.size w w' := by
  have hr := read_any s w hT hs
  generalize readE s.data.toList = x at hr ⊢
  generalize readQ s.data.toList = q at hr
  go_enter Tryz.func44, Tryz.ntmps44
  go_wp2_with fail
  refine hr.mono ?_
  rintro e w1 ⟨v, rfl, ⟨A, n, c, A', n', c', rfl, h1, h2⟩, hb⟩
  go_wp2
  go_ret
  exact ⟨rfl, hb.alloc hb.size _⟩

set_option maxHeartbeats 2000000 in
set_option maxRecDepth 100000 in
theorem order_any (s t : ByteArray) (w : World) (hT : Tabs w) (hs : s.size ≤ 4294967296) (ht : t.size ≤ 4294967296) :
    Calls Tryz.prog 88 #[.string s, .string t] w fun e w' =>
      e = .returned (.tuple #[.int .i64 (if readE s.data.toList ≠ 0 then 0 else if readE t.data.toList ≠ 0 then 0 else rcmp (readQ s.data.toList) (readQ t.data.toList)), .int .i64 (if readE s.data.toList ≠ 0 then readE s.data.toList else readE t.data.toList)]) ∧ Below w.heap.size w w' := by
  have hr := read_any s w hT hs
  have hr2 := fun W : World => fun h : Tabs W => read_any t W h ht
  have hl1 := @readQ_len s.data.toList
  have hl2 := @readQ_len t.data.toList
  generalize readE s.data.toList = x at hr hl1 ⊢
  generalize readQ s.data.toList = p at hr hl1 ⊢
  generalize readE t.data.toList = y at hr2 hl2 ⊢
  generalize readQ t.data.toList = q at hr2 hl2 ⊢
  by_cases hx : x = 0
  · subst hx
    by_cases hy : y = 0
    · subst hy
      obtain ⟨l1, l2⟩ := hl1 rfl
      obtain ⟨l3, l4⟩ := hl2 rfl
      clear hl1 hl2
      simp only [ne_eq, not_true_eq_false, if_false]
      go_enter Tryz.func88, Tryz.ntmps88
      go_wp2_with fail
      refine hr.mono ?_
      rintro e w1 ⟨v, rfl, ⟨A1, n1, c1, A2, n2, c2, rfl, h1, h2⟩, hb1⟩
      rw [h1.len] at l1
      rw [h2.len] at l2
      have hb2 : Below w1.heap.size w1 (w1.alloc (.cells #[.bool p.neg, .slice A1 n1 c1, .slice A2 n2 c2] 93)) := (Below.refl _ _).alloc (Nat.le_refl _) _
      have hr3 := hr2 _ ((hT.later hb1).later hb2)
      have HR3 := Lib.hid hr3
      clear hr2 hr3 hr
      go_wp2_with fail
      refine HR3.out.mono ?_
      rintro e w3 ⟨v, rfl, ⟨A3, n3, c3, A4, n4, c4, rfl, h3, h4⟩, hb3⟩
      rw [h3.len] at l3
      rw [h4.len] at l4
      have hx1 : ResBlk w3 w1.heap.size p.neg (.slice A1 n1 c1) (.slice A2 n2 c2) := (ResBlk.new w1 _ _ _).below hb3 (by simp)
      have hB3 : Below w.heap.size w w3 := (hb1.trans (hb2.mono hb1.size)).trans (hb3.mono (by have := hb1.size; simp; omega))
      have hb4 : Below w3.heap.size w3 (w3.alloc (.cells #[.bool q.neg, .slice A3 n3 c3, .slice A4 n4 c4] 93)) := (Below.refl _ _).alloc (Nat.le_refl _) _
      obtain ⟨x0, x1, x2, _, _, _, xl⟩ := hx1.cells
      clear HR3
      go_wp2_with fail
      refine (nfirst_two 0 0 _ _ _ (by simp)).mono ?_
      rintro e w5 ⟨rfl, rfl⟩
      have hb5 : Below w3.heap.size w3 ((w3.alloc (.cells #[.bool q.neg, .slice A3 n3 c3, .slice A4 n4 c4] 93)).alloc (.cells #[.int .i64 0, .int .i64 0] 31)) := hb4.alloc (by simp) _
      have hcm := ratCompare_any p q A1 A2 A3 A4 n1 c1 n2 c2 n3 c3 n4 c4 _ (((((h1.later hb2).later hb3)).later hb5)) (((((h2.later hb2).later hb3)).later hb5)) (h3.later hb5) (h4.later hb5) (by omega) (by omega) (by omega) (by omega)
      have HCM := Lib.hid hcm
      clear hcm
      go_wp2_with fail
      refine HCM.out.mono ?_
      rintro e w6 ⟨rfl, hb6⟩
      go_wp2
      go_ret2
      exact ⟨rfl, (hB3.trans (hb5.mono hB3.size)).trans (hb6.mono (by have := hB3.size; simp; omega))⟩
    · have HV : Hid (y ≠ 0) := hy
      have hyb : (y != 0) = true := by simpa using hy
      simp only [ne_eq, not_true_eq_false, if_false, hy, not_false_eq_true, if_true]
      clear hl1 hl2 hy
      go_enter Tryz.func88, Tryz.ntmps88
      go_wp2_with fail
      refine hr.mono ?_
      rintro e w1 ⟨v, rfl, ⟨A1, n1, c1, A2, n2, c2, rfl, h1, h2⟩, hb1⟩
      have hb2 : Below w1.heap.size w1 (w1.alloc (.cells #[.bool p.neg, .slice A1 n1 c1, .slice A2 n2 c2] 93)) := (Below.refl _ _).alloc (Nat.le_refl _) _
      have hr3 := hr2 _ ((hT.later hb1).later hb2)
      have HR3 := Lib.hid hr3
      clear hr2 hr3 hr
      go_wp2_with fail
      refine HR3.out.mono ?_
      rintro e w3 ⟨v, rfl, ⟨A3, n3, c3, A4, n4, c4, rfl, h3, h4⟩, hb3⟩
      have hB3 : Below w.heap.size w w3 := (hb1.trans (hb2.mono hb1.size)).trans (hb3.mono (by have := hb1.size; simp; omega))
      clear HR3
      go_wp2_with fail
      refine (nfirst_two 0 y _ _ _ (by simp)).mono ?_
      rintro e w5 ⟨rfl, rfl⟩
      go_wp2
      go_ret2
      exact ⟨rfl, (hB3.alloc hB3.size _).alloc (by have := hB3.size; simp; omega) _⟩
  · have hxb : (x != 0) = true := by simpa using hx
    simp only [ne_eq, hx, not_false_eq_true, if_true]
    clear hl1 hl2
    go_enter Tryz.func88, Tryz.ntmps88
    go_wp2_with fail
    refine hr.mono ?_
    rintro e w1 ⟨v, rfl, ⟨A1, n1, c1, A2, n2, c2, rfl, h1, h2⟩, hb1⟩
    have hb2 : Below w1.heap.size w1 (w1.alloc (.cells #[.bool p.neg, .slice A1 n1 c1, .slice A2 n2 c2] 93)) := (Below.refl _ _).alloc (Nat.le_refl _) _
    have hr3 := hr2 _ ((hT.later hb1).later hb2)
    have HR3 := Lib.hid hr3
    clear hr2 hr3 hr
    go_wp2_with fail
    refine HR3.out.mono ?_
    rintro e w3 ⟨v, rfl, ⟨A3, n3, c3, A4, n4, c4, rfl, h3, h4⟩, hb3⟩
    have hB3 : Below w.heap.size w w3 := (hb1.trans (hb2.mono hb1.size)).trans (hb3.mono (by have := hb1.size; simp; omega))
    clear HR3
    go_wp2_with fail
    refine (nfirst_two x y _ _ _ (by simp)).mono ?_
    rintro e w5 ⟨rfl, rfl⟩
    simp only [ne_eq, hx, not_false_eq_true, if_true]
    go_wp2
    go_ret2
    exact ⟨rfl, (hB3.alloc hB3.size _).alloc (by have := hB3.size; simp; omega) _⟩

end Go.Proofs.YthmiamppfncfoaaGreatDoor

/- Contracts of package probe: exact, checkGain, nearestFloat's and isBelow's parts. -/
namespace Go.Proofs.YthmiamppfncfoaaGreatDoor
open Go.RowKit Bn
open Flt

/-- the text of a single's exact value, empty if it is no number -/
def exT (b : Nat) : List UInt8 := if fin Ieee.single b then writeT (exQ b) else []

def RetStr (w : World) (l : List UInt8) (e : Ending) (w' : World) : Prop := ∃ s : ByteArray, e = .returned (.string s) ∧ s.data.toList = l ∧ Below w.heap.size w w'

theorem exact_any (b : Nat) (w : World) (hT : Tabs w) : Calls Tryz.prog 91 #[.float .f32 b] w (RetStr w (exT b)) := by
  have h := Exact_any b w hT
  unfold exT
  generalize (if fin Ieee.single b = true then writeT (exQ b) else []) = l at *
  generalize (if fin Ieee.single b = true then writeE (exQ b) else 1) = x at *
  have H := Lib.hid h
  clear h
  go_enter Tryz.func91, Tryz.ntmps91
  go_wp2_with fail
  refine H.out.mono ?_
  rintro e w1 ⟨s, rfl, hs, hb⟩
  go_wp2_with fail
  go_ret
  exact ⟨s, rfl, hs, hb⟩

/-- what Order returns -/
def ordO (a b : List UInt8) : Int := if readE a ≠ 0 then 0 else if readE b ≠ 0 then 0 else rcmp (readQ a) (readQ b)
def ordE (a b : List UInt8) : Int := if readE a ≠ 0 then readE a else readE b

theorem checkGain_any (s : ByteArray) (w : World) (hT : Tabs w) (hs : s.size ≤ 4294967296) :
    Calls Tryz.prog 65 #[.string s] w fun e w' =>
      e = .returned (.int .i64 (if ordE s.data.toList [48] = 0 ∧ ordO s.data.toList [48] ≤ 0 then 3 else ordE s.data.toList [48])) ∧ Below w.heap.size w w' := by
  have h := order_any s { data := #[48] } w hT hs (by decide)
  have e1 : (if readE s.data.toList ≠ 0 then readE s.data.toList else readE ({ data := #[48] } : ByteArray).data.toList) = ordE s.data.toList [48] := rfl
  have e2 : (if readE s.data.toList ≠ 0 then 0 else if readE ({ data := #[48] } : ByteArray).data.toList ≠ 0 then 0 else rcmp (readQ s.data.toList) (readQ ({ data := #[48] } : ByteArray).data.toList)) = ordO s.data.toList [48] := rfl
  rw [e1, e2] at h
  clear e1 e2
  generalize ordE s.data.toList [48] = x at *
  generalize ordO s.data.toList [48] = o at *
  have H := Lib.hid h
  clear h
  by_cases hx : x = 0
  · subst hx
    by_cases ho : o ≤ 0
    · have hd : decide (o ≤ 0) = true := by simpa using ho
      rw [if_pos ⟨rfl, ho⟩]
      go_enter Tryz.func65, Tryz.ntmps65
      go_wp2_with fail
      refine H.out.mono ?_
      rintro e w1 ⟨rfl, hb⟩
      go_wp2_with fail
      go_ret
      exact ⟨rfl, hb⟩
    · have hd : decide (o ≤ 0) = false := by simpa using ho
      rw [if_neg (fun h => ho h.2)]
      go_enter Tryz.func65, Tryz.ntmps65
      go_wp2_with fail
      refine H.out.mono ?_
      rintro e w1 ⟨rfl, hb⟩
      go_wp2_with fail
      go_ret
      exact ⟨rfl, hb⟩
  · have hd : (x == 0) = false := by simpa using hx
    rw [if_neg (fun h => hx h.1)]
    go_enter Tryz.func65, Tryz.ntmps65
    go_wp2_with fail
    refine H.out.mono ?_
    rintro e w1 ⟨rfl, hb⟩
    go_wp2_with fail
    go_ret
    exact ⟨rfl, hb⟩

theorem writeT_len (q : Q) : (writeT q).length ≤ 1300 := by
  unfold writeT
  by_cases h : writeE q = 0
  · rw [if_pos h]
    unfold writeE at h
    by_cases hb : q.bot = 0
    · rw [if_pos hb] at h; cases h
    · rw [if_neg hb] at h
      by_cases hl : 600 < (Lib.decDigits q.top).length ∨ 600 < (Lib.decDigits q.bot).length
      · rw [if_pos hl] at h; cases h
      · unfold writeS
        rw [List.length_append]
        have h1 : (if q.neg = true then 45 :: Lib.decDigits q.top else Lib.decDigits q.top).length ≤ 601 := by
          split
          · rw [List.length_cons]; omega
          · omega
        have h2 : (if q.bot = 1 then [] else 47 :: Lib.decDigits q.bot).length ≤ 601 := by
          split
          · exact Nat.zero_le _
          · rw [List.length_cons]; omega
        omega
  · rw [if_neg h]; exact Nat.zero_le _
theorem exT_len (b : Nat) : (exT b).length ≤ 1300 := by
  unfold exT; split
  · exact writeT_len _
  · exact Nat.zero_le _

/-- is a voltage below an edge: by the nearest float, and where this is the edge by the exact value -/
def belowB (v : List UInt8) (n e : Nat) : Bool :=
  if (FloatKind.f32.format.order n e != some .eq) = true then FloatKind.f32.format.order n e == some .lt else decide (ordO v (exT e) < 0)

theorem isBelow_any (s : ByteArray) (n ed : Nat) (w : World) (hT : Tabs w) (hs : s.size ≤ 4294967296) :
    Calls Tryz.prog 69 #[.string s, .float .f32 n, .float .f32 ed] w fun e w' => e = .returned (.bool (belowB s.data.toList n ed)) ∧ Below w.heap.size w w' := by
  unfold belowB
  by_cases hq : (FloatKind.f32.format.order n ed != some .eq) = true
  · rw [if_pos hq]
    go_enter Tryz.func69, Tryz.ntmps69
    go_wp2_with fail
    go_ret
    exact ⟨rfl, Below.refl _ _⟩
  · rw [if_neg hq]
    have hq' : (FloatKind.f32.format.order n ed != some .eq) = false := by simpa using hq
    have h := exact_any ed w hT
    have hl := exT_len ed
    generalize exT ed = l at *
    have H := Lib.hid h
    clear h hq
    go_enter Tryz.func69, Tryz.ntmps69
    go_wp2_with fail
    refine H.out.mono ?_
    rintro e w1 ⟨t, rfl, ht, hb⟩
    have hsz : t.size = l.length := by rw [← ht]; exact (Array.length_toList).symm
    have h2 := order_any s t w1 (hT.later hb) hs (by omega)
    rw [ht] at h2
    have e2 : (if readE s.data.toList ≠ 0 then 0 else if readE l ≠ 0 then 0 else rcmp (readQ s.data.toList) (readQ l)) = ordO s.data.toList l := rfl
    have e3 : (if readE s.data.toList ≠ 0 then readE s.data.toList else readE l) = ordE s.data.toList l := rfl
    rw [e2, e3] at h2
    clear e2 e3
    have H2 := Lib.hid h2
    clear h2 H
    go_wp2_with fail
    refine H2.out.mono ?_
    rintro e w2 ⟨rfl, hb2⟩
    go_wp2_with fail
    go_ret
    exact ⟨rfl, hb.trans (hb2.mono hb.size)⟩

end Go.Proofs.YthmiamppfncfoaaGreatDoor
