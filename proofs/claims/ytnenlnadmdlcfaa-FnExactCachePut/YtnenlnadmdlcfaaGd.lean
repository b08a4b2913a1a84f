/- Lists of values (a number and kin each): what it means that a slice reads as one; eqValS, eqGraph: contracts. -/
import Derived.Test.YtnenlnadmdlcfaaVa
import Derived.Test.YtnenlnadmdlcfaaGv
import Derived.BigQuiet
import Derived.Lib.QuietBelow
import Derived.Deep.RegionHeld3
namespace Go.Proofs.Ytnenlnadmdlcfaa
open Go.RowKit
attribute [local go_sem ↓] Go.wp_at_zero Go.wp_at_succ

/-- Two places of lists of values, and a callee that tells whether they are one: a loop over them. -/
theorem eqVal_two (x y : ValD) (u v : Value) (w : World) (hu : Rd w u x.2) (hv : Rd w v y.2) :
    Calls Try.prog 34 #[.agg #[.int .i64 x.1, u], .agg #[.int .i64 y.1, v]] w fun e w' => e = .returned (.bool (eqD x y)) ∧ Below w.heap.size w w' := eqVal_any _ _ _ _ _ _ _ hu hv

end Go.Proofs.Ytnenlnadmdlcfaa
