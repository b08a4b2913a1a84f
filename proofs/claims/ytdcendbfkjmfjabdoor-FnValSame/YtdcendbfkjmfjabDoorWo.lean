/- impl.edgesThat, impl.edgesWithout, impl.EdgeDrop: contracts. -/
import Derived.Test.YtdcendbfkjmfjabDoorIt
import Derived.Test.YtdcendbfkjmfjabDoorGa
namespace Go.Proofs.YtdcendbfkjmfjabDoor
open Go.RowKit Go.Shelf

end Go.Proofs.YtdcendbfkjmfjabDoor
