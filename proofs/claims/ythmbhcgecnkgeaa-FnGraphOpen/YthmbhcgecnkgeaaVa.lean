/- The law's own helpers szVal, toVal, eqVal: contracts. -/
import Derived.Test.YthmbhcgecnkgeaaEq
import Derived.Test.YthmbhcgecnkgeaaTo
namespace Go.Proofs.Ythmbhcgecnkgeaa
open Go.RowKit
attribute [local go_sem ↓] Go.wp_at_zero Go.wp_at_succ

theorem Own.apartSet {w : World} {B : Nat} {v : Value} {l : List (Int × Int)} {p : Addr} (h : Own w B v l) (hp : p.block < B) (u : Value) : Own (w.setCell p u) B v l := by
  refine ⟨h.1, ?_⟩
  rcases h.2 with hn | ⟨g, cap, cur, rfl, hbg, hgg, rest⟩
  · exact .inl hn
  · exact .inr ⟨g, cap, cur, rfl, hbg, (Below.heap_setCell w p u g (by omega)).trans hgg, rest⟩

end Go.Proofs.Ythmbhcgecnkgeaa
