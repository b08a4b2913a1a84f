/- slices.BinarySearchFunc over edges in order: contract. -/
import Derived.Test.YtomfimgjkdkpaaaGreatDoorAdP
import Derived.Test.YtomfimgjkdkpaaaGreatDoorOk1
import Derived.Test.YtomfimgjkdkpaaaGreatDoorGa
import Derived.BigQuiet
import Derived.Lib.QuietBelow
namespace Go.Proofs.YtomfimgjkdkpaaaGreatDoor
open Go.RowKit Go.Shelf
attribute [local go_sem ↓] Go.wp_at_zero Go.wp_at_succ

end Go.Proofs.YtomfimgjkdkpaaaGreatDoor
