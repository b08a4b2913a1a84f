/- The draws of a key: contracts. -/
import Derived.Test.YtkmhnjgncnoddaaNm
import Derived.Test.YtkmhnjgncnoddaaDk
namespace Go.Proofs.Ytkmhnjgncnoddaa
open Go.RowKit

end Go.Proofs.Ytkmhnjgncnoddaa
