/- Lists of values (a number and kin each): what it means that a slice reads as one; eqValS, eqGraph: contracts. -/
import Derived.Test.YthmbhcgecnkgeaaVa
import Derived.Test.YthmbhcgecnkgeaaGv
import Derived.BigQuiet
import Derived.Lib.QuietBelow
import Derived.Deep.RegionHeld3
namespace Go.Proofs.Ythmbhcgecnkgeaa
open Go.RowKit
attribute [local go_sem ↓] Go.wp_at_zero Go.wp_at_succ

end Go.Proofs.Ythmbhcgecnkgeaa
