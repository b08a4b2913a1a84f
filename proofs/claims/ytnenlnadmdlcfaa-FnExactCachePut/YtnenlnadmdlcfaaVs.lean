/- Both ValSame: contracts. -/
import Derived.Test.YtnenlnadmdlcfaaSame
namespace Go.Proofs.Ytnenlnadmdlcfaa
open Go.RowKit
attribute [local go_sem ↓] Go.wp_at_zero Go.wp_at_succ

/-- Are two values one? (A name that the walk does not take apart.) -/
def eqV (n m : Int) (la lb : List (Int × Int)) : Bool := n == m && eqL la lb
theorem eqV_no {n m : Int} {la lb : List (Int × Int)} (h : (n == m) = false) : eqV n m la lb = false := by simp [eqV, h]
theorem eqV_yes (n : Int) (la lb : List (Int × Int)) : eqV n n la lb = eqL la lb := by simp [eqV]
theorem eqV_refl (n : Int) (l : List (Int × Int)) : eqV n n l l = true := by simp [eqV, eqL_refl]

set_option maxHeartbeats 1000000 in
theorem implVSame_any (n m : Int) (va vb : Value) (la lb : List (Int × Int)) (w : World) (ha : Rd w va la) (hb : Rd w vb lb) :
    Calls Try.prog 85 #[.agg #[.int .i64 n, va], .agg #[.int .i64 m, vb]] w fun e w' => e = .returned (.bool (eqV n m la lb)) ∧ Below w.heap.size w w' := by
  obtain ⟨aa, ca, rfl, hla, hca⟩ := id ha
  obtain ⟨ab, cb, rfl, hlb, hcb⟩ := id hb
  clear hla hlb hca hcb
  by_cases hn : (n == m) = true
  · have := beq_iff_eq.1 hn
    subst this
    rw [eqV_yes]
    clear hn
    go_enter Try.func85, Try.ntmps85
    go_wp2_with fail
    refine (implSame_any _ _ la lb _ (ha.later (by go_grown)) (hb.later (by go_grown))).mono ?_
    rintro e w2 ⟨rfl, b2⟩
    have bb : Below w.heap.size w w2 := (Below.trans (by go_grown) (b2.mono (by first | omega | (simp; done) | (simp; omega))))
    go_wp2
    all_goals
      go_ret
      exact ⟨by simp_all, bb⟩
  · have hne : (n == m) = false := by simpa using hn
    rw [eqV_no hne]
    go_enter Try.func85, Try.ntmps85
    go_wp2
    go_ret
    exact ⟨by simp, by go_grown⟩

end Go.Proofs.Ytnenlnadmdlcfaa
