/- The draws of a key: contracts. -/
import Derived.Test.YthmbhcgecnkgeaaNm
import Derived.Test.YthmbhcgecnkgeaaDk
namespace Go.Proofs.Ythmbhcgecnkgeaa
open Go.RowKit

end Go.Proofs.Ythmbhcgecnkgeaa
