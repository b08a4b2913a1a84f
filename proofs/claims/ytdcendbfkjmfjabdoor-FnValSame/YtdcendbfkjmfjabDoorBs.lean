/- slices.BinarySearchFunc over edges in order: contract. -/
import Derived.Test.YtdcendbfkjmfjabDoorAdP
import Derived.Test.YtdcendbfkjmfjabDoorOk1
import Derived.Test.YtdcendbfkjmfjabDoorGa
import Derived.BigQuiet
import Derived.Lib.QuietBelow
namespace Go.Proofs.YtdcendbfkjmfjabDoor
open Go.RowKit Go.Shelf
attribute [local go_sem ↓] Go.wp_at_zero Go.wp_at_succ

end Go.Proofs.YtdcendbfkjmfjabDoor
