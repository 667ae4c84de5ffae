/- The shelf holds internal/strconv.ParseUint already. -/
import Derived.Shelf.Strconv.ParseUint10At
import Derived.Test.YtjhgadajpliclaaGreatDoorIShelf
namespace Go.Proofs
end Go.Proofs
