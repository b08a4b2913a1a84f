/- What every row here asks of the program: two closed facts. -/
import Derived.Test.YtkmhnjgncnoddaaGreatRows
import Derived.WalkKit
import Derived.ProofKit
namespace Go.Proofs.YtkmhnjgncnoddaaGreat
open Go.ChangeShapes Go.WideShapes Go.ChangeAt Go.RowKit
theorem Tryz.own : ownKnob Tryz.prog.godebug = none := by kernel_rfl
theorem Tryz.laidOut : laidOutB Tryz.prog = true := by kernel_rfl
end Go.Proofs.YtkmhnjgncnoddaaGreat
