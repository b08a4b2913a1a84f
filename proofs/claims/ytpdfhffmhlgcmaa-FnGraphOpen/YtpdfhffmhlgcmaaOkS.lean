/- spec.EdgeOk: contract. -/
import Derived.Test.YtpdfhffmhlgcmaaOk1
import Derived.BigQuiet
import Derived.Lib.QuietBelow
namespace Go.Proofs.Ytpdfhffmhlgcmaa
open Go.RowKit
attribute [local go_sem ↓] Go.wp_at_zero Go.wp_at_succ

end Go.Proofs.Ytpdfhffmhlgcmaa
