/- The law's own helpers of Cache: contracts. Written by a program (gs.py). -/
import Derived.Test.YtfdcnolcjgjfjaaGreatDoorKInt
import Derived.Test.YtfdcnolcjgjfjaaGreatDoorZInt
import Derived.Test.YtfdcnolcjgjfjaaGreatDoorTInt
import Derived.Test.YtfdcnolcjgjfjaaGreatDoorMInt
import Derived.Test.YtfdcnolcjgjfjaaGreatDoorKItem
import Derived.Test.YtfdcnolcjgjfjaaGreatDoorZItem
import Derived.Test.YtfdcnolcjgjfjaaGreatDoorTItem
import Derived.Test.YtfdcnolcjgjfjaaGreatDoorMItem
import Derived.Test.YtfdcnolcjgjfjaaGreatDoorVm
namespace Go.Proofs.YtfdcnolcjgjfjaaGreatDoor
open Go.RowKit
attribute [local go_sem ↓] Go.wp_at_zero Go.wp_at_succ

def ToCache (w w' : World) (L0 L1 : List KD) (e : Ending) : Prop :=
  ∃ (v0 v1 : Value) (B1 : Nat), e = .returned (.agg #[v0, v1]) ∧ OwnM 29 4 3 true w' (Span w.heap.size B1) v0 L0 ∧ OwnM 3 1 1 false w' (Span B1 w'.heap.size) v1 L1 ∧ w.heap.size ≤ B1 ∧ B1 ≤ w'.heap.size
/-- The lists of a Cache read so. -/
structure RSCache (w : World) (v0 v1 : Value) (L0 L1 : List KD) : Prop where
  h0 : RdM 4 3 true w v0 L0
  h1 : RdM 1 1 false w v1 L1
theorem RSCache.later {w w' : World} {v0 v1 : Value} {L0 L1 : List KD} (h : RSCache w v0 v1 L0 L1) (hb : Below w.heap.size w w') : RSCache w' v0 v1 L0 L1 := ⟨h.h0.later hb, h.h1.later hb⟩
theorem RSCache.open {w : World} {v0 v1 : Value} {L0 L1 : List KD} (h : RSCache w v0 v1 L0 L1) : ∃ (o0 o1 : Option Addr) (c0 c1 : Nat), v0 = .slice o0 L0.length c0 ∧ v1 = .slice o1 L1.length c1 := by
  obtain ⟨o0, c0, e0, _⟩ := h.h0
  obtain ⟨o1, c1, e1, _⟩ := h.h1
  exact ⟨o0, o1, c0, c1, e0, e1⟩
end Go.Proofs.YtfdcnolcjgjfjaaGreatDoor
