/- Contracts of package number's root of a number, and of Root. -/
import Derived.Test.YteajibbphcfmeaaGreatDoorTSp6
import Derived.Test.YteajibbphcfmeaaGreatDoorTFlb
namespace Go.Proofs.YteajibbphcfmeaaGreatDoor
open Go.RowKit Bn
theorem ncompare_b (A A':Option Addr) (n c n' c' x y:Nat) (w:World) (ha:NatS w w.heap.size A n c x) (hb:NatS w w.heap.size A' n' c' y) :
  Calls Tryz.prog 129 #[.slice A n c,.slice A' n' c'] w fun e w'=>e = .returned (.int .i64 (ncmp x y))∧Below w.heap.size w w':=
 (compare_any A A' n c n' c' x y w ha hb).mono fun _ _ ⟨he,nq,hw⟩=>⟨he,by rw [hw];exact below_drewN (Below.refl _ _) nq⟩
end Go.Proofs.YteajibbphcfmeaaGreatDoor
