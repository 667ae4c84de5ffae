/- Contracts of package number's root of a number, and of Root. -/
import Derived.Test.YtbkgkoenppkhpaaGreatDoorGSp6
import Derived.Test.YtbkgkoenppkhpaaGreatDoorGDiv4
import Derived.Deep.LoopGhost
import Derived.Test.YtbkgkoenppkhpaaGreatDoorGCo2
import Derived.Laws.StructEq
namespace Go.Proofs.YtbkgkoenppkhpaaGreatDoor
open Go.RowKit Bn
theorem zkx (A A':Option Addr) (n c n' c' x y:Nat) (w:World) (ha:NatS w w.heap.size A n c x) (hb:NatS w w.heap.size A' n' c' y) :
  Calls Tryz.prog 130 #[.slice A n c,.slice A' n' c'] w fun e w'=>e = .returned (.int .i64 (ncmp x y))∧Below w.heap.size w w':=
 (zaR A A' n c n' c' x y w ha hb).mono fun _ _ ⟨he,nq,hw⟩=>⟨he,by rw [hw];exact zac (Below.refl _ _) nq⟩
end Go.Proofs.YtbkgkoenppkhpaaGreatDoor
