/- The draws of a key: contracts. -/
import Derived.Test.YtkmhnjgncnoddaaGreatNm
import Derived.Test.YtkmhnjgncnoddaaGreatDk
namespace Go.Proofs.YtkmhnjgncnoddaaGreat
open Go.RowKit

end Go.Proofs.YtkmhnjgncnoddaaGreat
