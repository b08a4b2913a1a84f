/- The law's own helpers markVal, heldVal: contracts. -/
import Derived.Test.YtgoincapfoclgaaMark
import Derived.Test.YtgoincapfoclgaaVa
namespace Go.Proofs.Ytgoincapfoclgaa
open Go.RowKit
attribute [local go_sem ↓] Go.wp_at_zero Go.wp_at_succ

theorem grown_two {w w' w'' : World} {row : Option Nat} (h : w.grownBy w' row) (k : w'.grownBy w'' row) : w.grownBy w'' row :=
  ⟨k.os.trans h.os, k.tape.trans h.tape, k.output.trans h.output, Nat.le_trans h.size k.size, fun i hi hne => (k.block i (Nat.lt_of_lt_of_le hi h.size) hne).trans (h.block i hi hne)⟩

end Go.Proofs.Ytgoincapfoclgaa
