/- slices.BinarySearchFunc over edges in order: contract. -/
import Derived.Test.YtiplklcabcpccaaGreatDoorAdP
import Derived.Test.YtiplklcabcpccaaGreatDoorOk1
import Derived.Test.YtiplklcabcpccaaGreatDoorGa
import Derived.BigQuiet
import Derived.Lib.QuietBelow
namespace Go.Proofs.YtiplklcabcpccaaGreatDoor
open Go.RowKit Go.Shelf
attribute [local go_sem ↓] Go.wp_at_zero Go.wp_at_succ

end Go.Proofs.YtiplklcabcpccaaGreatDoor
