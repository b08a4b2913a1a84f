/- What every row here asks of the program: two closed facts. -/
import Derived.Test.YtnpfkhbnfihbdacDoorRows
import Derived.WalkKit
import Derived.ProofKit
namespace Go.Proofs.YtnpfkhbnfihbdacDoor
open Go.ChangeShapes Go.WideShapes Go.ChangeAt Go.RowKit
theorem Tryd.own : ownKnob Tryd.prog.godebug = none := by kernel_rfl
theorem Tryd.laidOut : laidOutB Tryd.prog = true := by kernel_rfl
end Go.Proofs.YtnpfkhbnfihbdacDoor
