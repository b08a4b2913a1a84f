/- What every row here asks of the program: two closed facts. -/
import Derived.Test.YtilbaiohcfhcaaaRows
import Derived.WalkKit
import Derived.ProofKit
namespace Go.Proofs.Ytilbaiohcfhcaaa
open Go.ChangeShapes Go.WideShapes Go.ChangeAt Go.RowKit
theorem Try.own : ownKnob Try.prog.godebug = none := by kernel_rfl
theorem Try.laidOut : laidOutB Try.prog = true := by kernel_rfl
end Go.Proofs.Ytilbaiohcfhcaaa
