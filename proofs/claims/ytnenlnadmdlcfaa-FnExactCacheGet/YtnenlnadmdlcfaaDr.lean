/- spec.l1Drop, spec.EdgeDrop, impl.EdgeDrop: contracts. -/
import Derived.Test.YtnenlnadmdlcfaaOkS
import Derived.Test.YtnenlnadmdlcfaaOkI
import Derived.Test.YtnenlnadmdlcfaaWo
namespace Go.Proofs.Ytnenlnadmdlcfaa
open Go.RowKit

/-- What EdgeDrop answers. -/
def dropL (l : List (Int × Int)) (who : Int) : List (Int × Int) := if okL l = true then l.filter (notWho who) else []
def dropB (l : List (Int × Int)) (who : Int) : Bool := okL l && decide ((l.filter (notWho who)).length < l.length)

theorem dropL_length (l : List (Int × Int)) (who : Int) : (dropL l who).length ≤ l.length := by
  unfold dropL
  split
  · exact List.length_filter_le _ _
  · simp


end Go.Proofs.Ytnenlnadmdlcfaa
