/- Short names: a fact laid behind Hid; the block made next; two ways one behind the other. -/
import Derived.Test.YtbkgkoenppkhpaaGreatDoorProg
import Derived.Lib.Hide
import Derived.WalkKit
namespace Go.Proofs.YtbkgkoenppkhpaaGreatDoor
open Go.RowKit
theorem Aa {p:Prop} (h:p):Hid p:=Lib.hid h
theorem Ac {w:World} {o:Obj}:Below w.heap.size w (w.alloc o):=(Below.refl _ _).alloc (Nat.le_refl _) _
theorem Ad {w w1 w2:World} (h:Below w.heap.size w w1) (g:Below w1.heap.size w1 w2):Below w.heap.size w w2:=h.trans (g.mono h.size)
end Go.Proofs.YtbkgkoenppkhpaaGreatDoor
