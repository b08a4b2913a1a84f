/- impl.edgesThat, impl.edgesWithout, impl.EdgeDrop: contracts. -/
import Derived.Test.YtiplklcabcpccaaGreatDoorIt
import Derived.Test.YtiplklcabcpccaaGreatDoorGa
namespace Go.Proofs.YtiplklcabcpccaaGreatDoor
open Go.RowKit Go.Shelf

end Go.Proofs.YtiplklcabcpccaaGreatDoor
