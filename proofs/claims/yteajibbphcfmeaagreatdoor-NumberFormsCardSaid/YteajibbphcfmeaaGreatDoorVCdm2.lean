/- Plain facts: a voltage is below an edge, as the program decides it, if it is less than the edge. No program. -/
import Derived.Test.YteajibbphcfmeaaGreatDoorVPr4
import Derived.Test.YteajibbphcfmeaaGreatDoorVRat8
import Derived.Test.YteajibbphcfmeaaGreatDoorVRb24
import Derived.Test.YteajibbphcfmeaaGreatDoorVRat2
namespace Go.Proofs.YteajibbphcfmeaaGreatDoor
open Go.RowKit Bn
open Flt
theorem zlm {l:List UInt8} (h:zam l=0):LowQ (zag l):=⟨zd5 h,zlq h,zlp h⟩
end Go.Proofs.YteajibbphcfmeaaGreatDoor
namespace Go.Proofs.YteajibbphcfmeaaGreatDoor
open Go.RowKit Dn
theorem zie {a:ByteArray} (h:zam a.data.toList=0):NumQ a (zag a.data.toList):=⟨(zhN _ h).symm,zlm h⟩
end Go.Proofs.YteajibbphcfmeaaGreatDoor
