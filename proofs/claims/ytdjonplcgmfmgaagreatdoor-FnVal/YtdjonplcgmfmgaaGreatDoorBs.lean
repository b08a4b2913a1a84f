/- slices.BinarySearchFunc over edges in order: contract. -/
import Derived.Test.YtdjonplcgmfmgaaGreatDoorAdP
import Derived.Test.YtdjonplcgmfmgaaGreatDoorOk1
import Derived.Test.YtdjonplcgmfmgaaGreatDoorGa
import Derived.BigQuiet
import Derived.Lib.QuietBelow
namespace Go.Proofs.YtdjonplcgmfmgaaGreatDoor
open Go.RowKit Go.Shelf
attribute [local go_sem ↓] Go.wp_at_zero Go.wp_at_succ

end Go.Proofs.YtdjonplcgmfmgaaGreatDoor
