/- Contracts and plain facts, several texts in one. -/
import Derived.Test.YtddpoheoecafjaaGreatGrA
import Derived.Test.YtddpoheoecafjaaGreatGrB
/- Part: Both CacheSame: contracts. Written by a program (gcs.py). -/
namespace Go.Proofs.YtddpoheoecafjaaGreat
open Go.RowKit
attribute [local go_sem ↓] Go.wp_at_zero Go.wp_at_succ

theorem eqK_3 (p0 p1 p2 t0 t1 t2 : Int) (la lb : List (Int × Int)) : eqK ([p0, p1, p2], la) ([t0, t1, t2], lb) = (decide (p0 = t0) && (decide (p1 = t1) && (p2 == t2 && eqL la lb))) := by
  by_cases h0 : p0 = t0 <;> by_cases h1 : p1 = t1 <;> by_cases h2 : p2 = t2 <;> simp [eqK, eqL, h0, h1, h2]
theorem iVSame_k (n m : Int) (va vb : Value) (la lb : List (Int × Int)) (w : World) (ha : Rd w va la) (hb : Rd w vb lb) {c : Bool} (hc : (n == m && eqL la lb) = c) :
    Calls Tryz.prog 130 #[.agg #[.int .i64 n, va], .agg #[.int .i64 m, vb]] w fun e w' => e = .returned (.bool c) ∧ Below w.heap.size w w' := hc ▸ implVSame_any n m va vb la lb w ha hb

end Go.Proofs.YtddpoheoecafjaaGreat

/- Part: Both CacheSame: contracts. Written by a program (gcb.py). -/
namespace Go.Proofs.YtddpoheoecafjaaGreat
open Go.RowKit
attribute [local go_sem ↓] Go.wp_at_zero Go.wp_at_succ

end Go.Proofs.YtddpoheoecafjaaGreat
