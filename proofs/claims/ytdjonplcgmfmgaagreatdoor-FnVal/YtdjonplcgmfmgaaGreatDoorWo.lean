/- impl.edgesThat, impl.edgesWithout, impl.EdgeDrop: contracts. -/
import Derived.Test.YtdjonplcgmfmgaaGreatDoorIt
import Derived.Test.YtdjonplcgmfmgaaGreatDoorGa
namespace Go.Proofs.YtdjonplcgmfmgaaGreatDoor
open Go.RowKit Go.Shelf

set_option maxHeartbeats 400000 in
theorem that_any (ao : Option Addr) (n cap g : Nat) (lb : Array Value) (w : World) :
    Calls Tryz.prog 31 #[.slice ao n cap, .func (.func g) #[] lb] w fun e w' => e = .returned (.func (.func 56) #[] #[.pointer (some ⟨w.heap.size, 0, none⟩), .pointer (some ⟨w.heap.size + 1, 0, none⟩)]) ∧
      w' = (w.alloc (.cells #[.slice ao n cap] 23)).alloc (.cells #[.func (.func g) #[] lb] 56) := by
  go_enter Tryz.func31, Tryz.ntmps31
  go_wp2
  go_ret
  exact ⟨by simp, rfl⟩

end Go.Proofs.YtdjonplcgmfmgaaGreatDoor
