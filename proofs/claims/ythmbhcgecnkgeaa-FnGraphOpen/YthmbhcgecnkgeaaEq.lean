/- The law's own helpers szEdgeS, eqEdge, eqEdgeS: contracts. -/
import Derived.Test.YthmbhcgecnkgeaaPl
import Derived.Deep.RegionHeld3
import Derived.Deep.DrawnRows
namespace Go.Proofs.Ythmbhcgecnkgeaa
open Go.RowKit
attribute [local go_sem ↓] Go.wp_at_zero Go.wp_at_succ

end Go.Proofs.Ythmbhcgecnkgeaa
