/- The draws of a key: contracts. -/
import Derived.Test.YtpdfhffmhlgcmaaNm
import Derived.Test.YtpdfhffmhlgcmaaDk
namespace Go.Proofs.Ytpdfhffmhlgcmaa
open Go.RowKit

end Go.Proofs.Ytpdfhffmhlgcmaa
