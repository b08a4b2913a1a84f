/- impl.edgesThat, impl.edgesWithout, impl.EdgeDrop: contracts. -/
import Derived.Test.YtnenlnadmdlcfaaIt
import Derived.Test.YtnenlnadmdlcfaaGa
namespace Go.Proofs.Ytnenlnadmdlcfaa
open Go.RowKit Go.Shelf

end Go.Proofs.Ytnenlnadmdlcfaa
