/- The law's own mark and held helpers of lists of Row: contracts. Written by a program (gk.py). -/
import Derived.Test.YtefhpbcdjgllnaaGreatGrA
import Derived.Deep.DrawnRows
import Derived.Lib.QuietBelow
namespace Go.Proofs.YtefhpbcdjgllnaaGreat
open Go.RowKit
attribute [local go_sem ↓] Go.wp_at_zero Go.wp_at_succ

end Go.Proofs.YtefhpbcdjgllnaaGreat
