/- Contract of probe's Aligned, of valid records and skews. -/
import Derived.Test.YthmiamppfncfoaaGreatDoorCAlg
import Derived.Deep.RegionHeld3
namespace Go.Proofs.YthmiamppfncfoaaGreatDoor
open Go.RowKit
open Flt

theorem info_fls : (Tryz.prog.info? 30).map (fun i => (i.zero, i.size, i.bytes)) = some (some (.slice none 0 0), 1, 24) := by kernel_rfl
theorem cpz_enter (args : Array Value) (w : World) : (callFunc 27 args).run Tryz.prog w = .ok (.enter 27 args) w := by kernel_rfl

/-- common.Transformed with PositiveZero -/
theorem trn_posz (A : Option Addr) (n c : Nat) (l : List Nat) (w : World) (h : Reads w w.heap.size 1 A n (l.map f32v)) (hn : n ≤ 4096) :
    Calls Tryz.prog 26 #[.slice A n c, .func (.func 27) #[] #[]] w fun e w' =>
      e = .returned (.slice (some ⟨w.heap.size, 0, none⟩) n n) ∧ w'.ownsRow w.heap.size 24 1 (.slice (some ⟨w.heap.size, 0, none⟩) n n) n ((l.map posz).map f32v) ∧ Below w.heap.size w w' := by
  have hl := h.lenM
  have HT := trn_ff 27 #[] none (fun _ _ => True) A n c (l.map f32v) (l.map posz) w cpz_enter hn h (by rw [List.length_map]; exact hl) (fun b hb => by cases hb) trivial (fun _ _ _ _ _ => trivial) (by
    intro W i x y hi hg _ hx hy
    have hil : i < l.length := by omega
    rw [List.getElem?_map, List.getElem?_eq_getElem hil] at hx hy
    injection hx with hx
    injection hy with hy
    subst hx
    subst hy
    refine (cposZero_any l[i] W).mono ?_
    rintro e w' ⟨rfl, rfl⟩
    exact ⟨rfl, grown_self _ _, trivial⟩)
  refine HT.mono ?_
  rintro e w' ⟨he, ho, hg, _⟩
  exact ⟨he, ho, gnone hg (Nat.le_refl _)⟩

/-- rows of one's own: their slices lie in row G, they themselves behind it -/
def Laid (W : World) (B G m : Nat) (gs : List Nat) (rows : List (List Nat)) : Prop :=
  gs.length = rows.length ∧ ∀ i (h : i < rows.length) (h2 : i < gs.length), G < gs[i] ∧ rows[i].length = m ∧ W.ownsRow B 24 1 (.slice (some ⟨gs[i], 0, none⟩) m m) m (rows[i].map f32v)
def sl1 (m g : Nat) : Value := .slice (some ⟨g, 0, none⟩) m m

theorem Laid.below {W W' : World} {B G m : Nat} {gs : List Nat} {rows : List (List Nat)} (h : Laid W B G m gs rows) (hb : Below W.heap.size W W') : Laid W' B G m gs rows :=
  ⟨h.1, fun i hi h2 => by
    obtain ⟨h3, h4, h5⟩ := h.2 i hi h2
    exact ⟨h3, h4, own_kept h5 (only_of_below hb none) (by simp)⟩⟩
theorem Laid.set {W : World} {B G m : Nat} {gs : List Nat} {rows : List (List Nat)} (h : Laid W B G m gs rows) (k : Nat) (u : Value) : Laid (W.setCell ⟨G, k, none⟩ u) B G m gs rows :=
  ⟨h.1, fun i hi h2 => by
    obtain ⟨h3, h4, h5⟩ := h.2 i hi h2
    exact ⟨h3, h4, own_kept h5 (only_setCell (g := G) (only_of_below (Below.refl _ _) _) (p := ⟨G, k, none⟩) (.inl rfl) u) (by intro e; injection e with e; omega)⟩⟩
theorem Laid.snoc {W : World} {B G m g : Nat} {gs : List Nat} {rows : List (List Nat)} {r : List Nat} (h : Laid W B G m gs rows) (hg : G < g) (hr : r.length = m) (ho : W.ownsRow B 24 1 (.slice (some ⟨g, 0, none⟩) m m) m (r.map f32v)) : Laid W B G m (gs ++ [g]) (rows ++ [r]) := by
  refine ⟨by rw [List.length_append, List.length_append, h.1]; rfl, fun i hi h2 => ?_⟩
  have hl := h.1
  by_cases hlt : i < rows.length
  · rw [List.getElem_append_left (by omega), List.getElem_append_left hlt]
    exact h.2 i hlt (by omega)
  · have e : i = rows.length := by rw [List.length_append] at hi; simp at hi; omega
    subst e
    rw [List.getElem_append_right (by omega), List.getElem_append_right (Nat.le_refl _)]
    simp only [hl, Nat.sub_self, List.getElem_singleton]
    exact ⟨hg, hr, ho⟩
theorem Laid.rowsR {W : World} {B G m n c : Nat} {gs : List Nat} {rows : List (List Nat)} (h : Laid W B G m gs rows) (hn : rows.length = n) (ho : W.ownsRow B 30 1 (.slice (some ⟨G, 0, none⟩) n c) n (gs.map (sl1 m))) (hm : m ≤ 4096) : RowsR f32v W W.heap.size (some ⟨G, 0, none⟩) n rows := by
  refine ⟨hn, _, Reads.of_own ho, fun i hi => ?_⟩
  have h2 : i < gs.length := by rw [h.1]; exact hi
  obtain ⟨h3, h4, h5⟩ := h.2 i hi h2
  refine ⟨some ⟨gs[i], 0, none⟩, m, ?_, by omega, by unfold maxLen; omega, ?_⟩
  · rw [List.getElem?_map, List.getElem?_eq_getElem h2, h4]; rfl
  · rw [h4]; exact Reads.of_own h5

set_option maxHeartbeats 2000000 in
set_option maxRecDepth 100000 in
theorem aligned_short (A A' : Option Addr) (n c c' : Nat) (rows : List (List Nat)) (sk : List Int) (w : World) (h : RowsR f32v w w.heap.size A n rows) (h' : Reads w w.heap.size 1 A' n (sk.map i64v)) (hv : Valid rows sk) (hlt : toT rows sk ≤ frT sk) :
    Calls Tryz.prog 7 #[.slice A n c, .slice A' n c'] w fun e w' => e = .returned (.tuple #[.slice none 0 0, .int .i64 16]) ∧ Below w.heap.size w w' := by
  have hl := h.1
  have h1 := hv.some_
  have h8 := hv.few
  have K1 := Lib.hid (checkRecords_ok A n c rows w h (by omega) (by omega) hv.len hv.fin)
  have K2 := Lib.hid (fun (W : World) (hb : Below w.heap.size w W) => checkSkews_ok A' n c' sk W (h'.later hb) (by omega) hv.small)
  have K3 := Lib.hid (fun (W : World) (hb : Below w.heap.size w W) => commonTimes_ok A A' n c c' rows sk W (h.later hb) (h'.later hb) (by omega) hv.len hv.small)
  generalize toT rows sk = tt at *
  generalize frT sk = fr at *
  have hd : decide (tt ≤ fr) = true := by simpa using hlt
  clear hl h1 h8 h h' hv
  go_enter Tryz.func7, Tryz.ntmps7
  go_wp2_with fail
  refine K1.out.mono ?_
  rintro e w1 ⟨rfl, hb1⟩
  go_wp2_with fail
  refine (K2.out w1 hb1).mono ?_
  rintro e w2 ⟨rfl, hb2⟩
  have hB2 := hb1.trans (hb2.mono hb1.size)
  go_wp2_with fail
  refine (cfirst_two 0 0 w2 31 w2.heap.size rfl).mono ?_
  rintro e w3 ⟨rfl, rfl⟩
  have hB3 : Below w.heap.size w (w2.alloc (.cells #[.int .i64 0, .int .i64 0] 31)) := hB2.alloc hB2.size _
  generalize w2.alloc (.cells #[.int .i64 0, .int .i64 0] 31) = w3 at *
  go_wp2_with fail
  refine (K3.out w3 hB3).mono ?_
  rintro e w4 ⟨rfl, rfl⟩
  go_wp2_with fail
  go_ret2
  exact ⟨rfl, hB3⟩

end Go.Proofs.YthmiamppfncfoaaGreatDoor
