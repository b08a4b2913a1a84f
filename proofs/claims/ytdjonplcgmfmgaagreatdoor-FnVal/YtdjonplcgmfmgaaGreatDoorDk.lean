/- The draw of a kind and somebody: contract. -/
import Derived.Test.YtdjonplcgmfmgaaGreatDoorRk
namespace Go.Proofs.YtdjonplcgmfmgaaGreatDoor
open Go.RowKit

/-- A slice of n bytes. -/
def Bs (w : World) (v : Value) (n : Nat) : Prop := ∃ ao cap, v = .slice ao n cap ∧ n ≤ maxLen ∧ n ≤ cap ∧ cap ≤ maxLen ∧ Byt w w.heap.size ao n
theorem Bs.later {w w' : World} {v : Value} {n : Nat} (h : Bs w v n) (hb : Below w.heap.size w w') : Bs w' v n := by
  obtain ⟨ao, cap, hv, h0, h1, h2, h3⟩ := h
  refine ⟨ao, cap, hv, h0, h1, h2, fun hn => ?_⟩
  obtain ⟨b, off, ha, hlt, hc⟩ := (h3.kept (grownBelowR hb) (fun _ e => by cases e)) hn
  exact ⟨b, off, ha, Nat.lt_of_lt_of_le hlt hb.size, hc⟩

end Go.Proofs.YtdjonplcgmfmgaaGreatDoor
