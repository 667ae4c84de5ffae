/- Contract of strings.Cut at the separator '/'. -/
import Derived.Test.YthmiamppfncfoaaGreatDoorCMem
import Derived.Test.YthmiamppfncfoaaGreatDoorCShelf
import Derived.Lib.IndexLaws
namespace Go.Proofs.YthmiamppfncfoaaGreatDoor
open Go.RowKit

/-- the two parts of a text around its first slash, and whether there is one -/
def cutL (l : List UInt8) : List UInt8 × List UInt8 × Bool :=
  if 0 ≤ Lib.indexByte l 47 then (l.take (Lib.indexByte l 47).toNat, l.drop ((Lib.indexByte l 47).toNat + 1), true) else (l, [], false)

theorem indexByte_lt (l : List UInt8) (c : UInt8) : Lib.indexByte l c < l.length ∨ Lib.indexByte l c = -1 := by
  by_cases h : Lib.indexByte l c < 0
  · have := Lib.indexByte_ge l c; omega
  · obtain ⟨o, ho⟩ := Int.eq_ofNat_of_zero_le (Int.not_lt.1 h)
    have := (Lib.indexByte_some ho).1
    have h2 : o < l.length := by
      rcases Nat.lt_or_ge o l.length with h3 | h3
      · exact h3
      · rw [List.getElem?_eq_none h3] at this; cases this
    omega

def slashB : ByteArray := ⟨#[47]⟩

set_option maxHeartbeats 1000000 in
set_option maxRecDepth 100000 in
theorem index_slash (s : ByteArray) (w : World) :
    Calls Tryz.prog 114 #[.string s, .string { data := #[47] }] w fun e w' => e = .returned (.int .i64 (Lib.indexByte s.data.toList 47)) ∧ w = w' := by
  have h := fun W : World => Tryz.stringslite_IndexByte s 47 W
  have e47 : (47 : Int).toNat.toUInt8 = 47 := by decide
  rw [e47] at h
  clear e47
  by_cases hs : s.data.toList = [47]
  · have hb : ([47] == s.toList) = true := by
      have : s.toList = s.data.toList := ByteArray.toList_eq s
      rw [this, hs]; rfl
    have hv : Hid (Lib.indexByte s.data.toList 47 = 0) := by unfold Hid; rw [hs]; rfl
    clear hs h
    go_enter Tryz.func114, Tryz.ntmps114
    go_wp2
    go_ret
    exact ⟨by rw [hv.out]; rfl, rfl⟩
  · have hb : ([47] == s.toList) = false := by
      have : s.toList = s.data.toList := ByteArray.toList_eq s
      rw [this]
      exact beq_eq_false_iff_ne.2 fun e => hs e.symm
    clear hs
    generalize Lib.indexByte s.data.toList 47 = i at h ⊢
    go_enter Tryz.func114, Tryz.ntmps114
    go_wp2_with fail
    refine (h _).mono ?_
    rintro e w1 ⟨rfl, hw⟩
    subst hw
    go_wp2
    go_ret
    exact ⟨rfl, rfl⟩

set_option maxHeartbeats 1000000 in
set_option maxRecDepth 100000 in
theorem slcut_slash (s : ByteArray) (w : World) (hs : s.size ≤ 4294967296) :
    Calls Tryz.prog 92 #[.string s, .string { data := #[47] }] w fun e w' => (∃ a b : ByteArray, e = .returned (.tuple #[.string a, .string b, .bool (cutL s.data.toList).2.2]) ∧ a.data.toList = (cutL s.data.toList).1 ∧ b.data.toList = (cutL s.data.toList).2.1) ∧ ∃ n, w' = w.drewN n := by
  obtain ⟨i, hi⟩ : ∃ i, i = Lib.indexByte s.data.toList 47 := ⟨_, rfl⟩
  have hc := fun W : World => index_slash s W
  rw [← hi] at hc
  have hsz : s.data.toList.length = s.size := by simp
  have hlt := indexByte_lt s.data.toList 47
  rw [← hi, hsz] at hlt
  go_enter Tryz.func92, Tryz.ntmps92
  by_cases h0 : i < 0
  · have hcut : Hid (cutL s.data.toList = (s.data.toList, [], false)) := by unfold Hid cutL; rw [← hi, if_neg (by omega)]
    clear hi hlt hsz
    go_wp2_with fail
    refine (hc _).mono ?_
    rintro e w1 ⟨rfl, rfl⟩
    go_wp2
    go_ret3
    exact ⟨⟨s, ⟨#[]⟩, by rw [hcut.out]; rfl, by rw [hcut.out], by rw [hcut.out]⟩, 0, rfl⟩
  · obtain ⟨k, rfl⟩ := Int.eq_ofNat_of_zero_le (Int.not_lt.1 h0)
    have hk : k < s.size := by omega
    have hcut : Hid (cutL s.data.toList = (s.data.toList.take k, s.data.toList.drop (k + 1), true)) := by unfold Hid cutL; rw [← hi, if_pos (by omega)]; simp
    clear hi hlt hsz
    have a1 : IntKind.i64.wrap ((k : Int) + 1) = (k : Int) + 1 := IntWalk.i64_in _ (by omega)
    have a2 : ((k : Int) + 1).toNat = k + 1 := by omega
    go_wp2_with fail
    refine (hc _).mono ?_
    rintro e w1 ⟨rfl, rfl⟩
    go_wp2_with fail
    go_quiet (fail)
    go_wp2
    go_ret3
    refine ⟨⟨s.extract 0 k, s.extract (k + 1) s.size, by rw [hcut.out]; rfl, ?_, ?_⟩, nq, rfl⟩
    · rw [hcut.out, Lib.extract_data]; simp
    · rw [hcut.out, Lib.extract_data]; exact List.take_of_length_le (by simp)

set_option maxHeartbeats 1000000 in
theorem cut_slash (s : ByteArray) (w : World) (hs : s.size ≤ 4294967296) :
    Calls Tryz.prog 71 #[.string s, .string { data := #[47] }] w fun e w' => (∃ a b : ByteArray, e = .returned (.tuple #[.string a, .string b, .bool (cutL s.data.toList).2.2]) ∧ a.data.toList = (cutL s.data.toList).1 ∧ b.data.toList = (cutL s.data.toList).2.1) ∧ ∃ n, w' = w.drewN n := by
  have hc := slcut_slash s w hs
  generalize cutL s.data.toList = C at hc ⊢
  obtain ⟨c1, c2, c3⟩ := C
  go_enter Tryz.func71, Tryz.ntmps71
  go_wp2_with fail
  refine hc.mono ?_
  rintro e w1 ⟨⟨a, b, rfl, h1, h2⟩, n, rfl⟩
  go_wp2
  go_ret3
  exact ⟨⟨a, b, rfl, h1, h2⟩, n, rfl⟩

end Go.Proofs.YthmiamppfncfoaaGreatDoor
