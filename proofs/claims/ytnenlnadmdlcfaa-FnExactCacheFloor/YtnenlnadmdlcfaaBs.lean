/- slices.BinarySearchFunc over edges in order: contract. -/
import Derived.Test.YtnenlnadmdlcfaaAdP
import Derived.Test.YtnenlnadmdlcfaaOk1
import Derived.Test.YtnenlnadmdlcfaaGa
import Derived.BigQuiet
import Derived.Lib.QuietBelow
namespace Go.Proofs.Ytnenlnadmdlcfaa
open Go.RowKit Go.Shelf
attribute [local go_sem ↓] Go.wp_at_zero Go.wp_at_succ

end Go.Proofs.Ytnenlnadmdlcfaa
