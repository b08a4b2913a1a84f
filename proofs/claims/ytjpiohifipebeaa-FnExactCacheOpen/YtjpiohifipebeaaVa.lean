/- The law's own helpers szVal, toVal, eqVal: contracts. -/
import Derived.Test.YtjpiohifipebeaaEq
import Derived.Test.YtjpiohifipebeaaTo
namespace Go.Proofs.Ytjpiohifipebeaa
open Go.RowKit
attribute [local go_sem ↓] Go.wp_at_zero Go.wp_at_succ

theorem Own.apartSet {w : World} {B : Nat} {v : Value} {l : List (Int × Int)} {p : Addr} (h : Own w B v l) (hp : p.block < B) (u : Value) : Own (w.setCell p u) B v l := by
  refine ⟨h.1, ?_⟩
  rcases h.2 with hn | ⟨g, cap, cur, rfl, hbg, hgg, rest⟩
  · exact .inl hn
  · exact .inr ⟨g, cap, cur, rfl, hbg, (Below.heap_setCell w p u g (by omega)).trans hgg, rest⟩

set_option maxHeartbeats 1000000 in
theorem eqVal_any (n m : Int) (va vb : Value) (la lb : List (Int × Int)) (w : World) (ha : Rd w va la) (hb : Rd w vb lb) :
    Calls Try.prog 21 #[.agg #[.int .i64 n, va], .agg #[.int .i64 m, vb]] w fun e w' => e = .returned (.bool (n == m && eqL la lb)) ∧ Below w.heap.size w w' := by
  by_cases hn : (n == m) = true
  · have := beq_iff_eq.1 hn
    subst this
    go_enter Try.func21, Try.ntmps21
    go_wp2_with fail
    refine (eqEdgeS_any _ _ la lb _ (ha.later (by go_grown)) (hb.later (by go_grown))).mono ?_
    rintro e w2 ⟨rfl, b2⟩
    have bb : Below w.heap.size w w2 := (Below.trans (by go_grown) (b2.mono (by first | omega | (simp; done) | (simp; omega))))
    go_wp2
    all_goals
      go_ret
      exact ⟨by simp_all, bb⟩
  · have hne : (n != m) = true := by simpa using hn
    go_enter Try.func21, Try.ntmps21
    go_wp2
    go_ret
    exact ⟨by simp [hn], by go_grown⟩
theorem eqVal_self (n : Int) (va vb : Value) (l : List (Int × Int)) (w : World) (ha : Rd w va l) (hb : Rd w vb l) :
    Calls Try.prog 21 #[.agg #[.int .i64 n, va], .agg #[.int .i64 n, vb]] w fun e w' => e = .returned (.bool true) ∧ Below w.heap.size w w' :=
  (eqVal_any n n va vb l l w ha hb).mono fun _ _ ⟨he, hw⟩ => ⟨by rw [he, eqL_refl]; simp, hw⟩
end Go.Proofs.Ytjpiohifipebeaa
