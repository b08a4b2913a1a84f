/- impl.EdgeTime: its test, the iterator with it, the function; spec.EdgeTime: contracts. -/
import Derived.Test.YtpdfhffmhlgcmaaWo
namespace Go.Proofs.Ytpdfhffmhlgcmaa
open Go.RowKit Go.Shelf
attribute [local go_sem] Oper.semAt_some

def inTime (low high : Int) (x : Int × Int) : Bool := decide (low ≤ x.2) && decide (x.2 ≤ high)

end Go.Proofs.Ytpdfhffmhlgcmaa
