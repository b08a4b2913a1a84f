/- impl.edgesThat's iterator with the test of edgesWithout: contract. -/
import Derived.Test.YtnenlnadmdlcfaaItP
namespace Go.Proofs.Ytnenlnadmdlcfaa
open Go.RowKit Go.Shelf

abbrev encE (x : Int × Int) : Array Value := #[.agg #[.int .i64 x.1, .int .i64 x.2]]

attribute [local go_sem] Oper.semAt_some

def notWho (who : Int) (x : Int × Int) : Bool := x.1 != who

end Go.Proofs.Ytnenlnadmdlcfaa
