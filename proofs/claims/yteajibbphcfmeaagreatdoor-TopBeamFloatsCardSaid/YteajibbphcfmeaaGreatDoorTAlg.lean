/- Contracts of probe's checkRecords, checkSkews, commonTimes, of valid records and skews. -/
import Derived.Test.YteajibbphcfmeaaGreatDoorTRkd3
import Derived.Test.YteajibbphcfmeaaGreatDoorTEx3
import Derived.IntWalk
import Derived.Test.YteajibbphcfmeaaGreatDoorTDw2
namespace Go.Proofs.YteajibbphcfmeaaGreatDoor
open Go.RowKit
open Flt
end Go.Proofs.YteajibbphcfmeaaGreatDoor
namespace Go.Proofs.YteajibbphcfmeaaGreatDoor
open Go.RowKit
def Grow {α:Type} (f : α→Value) (tS tE:TypeId) (W:World) (B:Nat) (v:Value) (n:Nat) (rows:List (List α)):Prop:=
 rows.length=n∧∃ vs:List Value,W.ownsRow B tS 1 v n vs∧∀ i (h:i<rows.length),∃ u,vs[i]? = some u∧W.ownsRow B tE 1 u rows[i].length (rows[i].map f)
section
variable {α:Type} {f : α→Value} {tS tE:TypeId} {W W':World} {B n:Nat} {v:Value} {rows:List (List α)}
theorem Grow.nil:Grow f tS tE W B (.slice none 0 0) 0 ([]:List (List α)):=
 ⟨rfl,[],⟨rfl,.inl ⟨rfl,rfl⟩⟩,fun i hi=>absurd hi (by simp)⟩
theorem own_belw {w w':World} {base size n:Nat} {e:TypeId} {v:Value} {xs:List Value} (h:w.ownsRow base e size v n xs) (hb:Below w.heap.size w w'):w'.ownsRow base e size v n xs:=
 h.kept (only_of_below hb none) (by cases v.ownBlock<;>simp)
theorem Grow.below (h:Grow f tS tE W B v n rows) (hb:Below W.heap.size W W'):Grow f tS tE W' B v n rows:=by
 obtain ⟨hl,vs,ho,hv⟩:=h
 exact ⟨hl,vs,own_belw ho hb,fun i hi=>by
  obtain ⟨u,h1,h2⟩:=hv i hi
  exact ⟨u,h1,own_belw h2 hb⟩⟩
end
theorem own_empty (w:World) (B:Nat) (e:TypeId) (hB:B≤w.heap.size):(w.alloc (.cells #[] e)).ownsRow B e 1 (.slice (some ⟨w.heap.size,0,none⟩) 0 0) 0 []:=
 own_of_block (heap_alloc_new w _) hB (Nat.zero_le _) rfl
end Go.Proofs.YteajibbphcfmeaaGreatDoor
