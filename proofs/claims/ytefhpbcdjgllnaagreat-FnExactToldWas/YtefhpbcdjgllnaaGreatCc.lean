/- What a cache is asked, plainly; spec.l5Item: contract. -/
import Derived.Test.YtefhpbcdjgllnaaGreatGrA
import Derived.Test.YtefhpbcdjgllnaaGreatGrC
namespace Go.Proofs.YtefhpbcdjgllnaaGreat
open Go.RowKit
attribute [local go_sem ↓] Go.wp_at_zero Go.wp_at_succ

def verR (n : Int) : Bool := decide (0 ≤ n ∧ n ≤ 60)
theorem verR_iff {n : Int} : verR n = true ↔ 0 ≤ n ∧ n ≤ 60 := by simp [verR]
/-- An item that is right. -/
def itR (p0 p1 p2 : Int) (l : List (Int × Int)) : Bool := verR p1 && okV p0 p2 l
/-- A floor. -/
def flr (F : List KD) (k : Nat) : Int := (F.getD k kd0).1.getD 0 0
def keyK (x : KD) : Int := x.1.getD 0 0
def verK (x : KD) : Int := x.1.getD 1 0
def rightK (x : KD) : Bool := itR (keyK x) (verK x) (x.1.getD 2 0) x.2
/-- The first k floors are right; the first i items are. -/
def FlrTo (F : List KD) (k : Nat) : Prop := ∀ j, j < k → verR (flr F j) = true
def ItmAt (I F : List KD) (i : Nat) : Prop := rightK (I.getD i kd0) = true ∧ verK (I.getD i kd0) = flr F (keyK (I.getD i kd0)).toNat ∧ ∀ k, k < i → keyK (I.getD k kd0) ≠ keyK (I.getD i kd0)
def ItmTo (I F : List KD) (n : Nat) : Prop := ∀ i, i < n → ItmAt I F i
instance (F : List KD) (k : Nat) : Decidable (FlrTo F k) := inferInstanceAs (Decidable (∀ j, j < k → verR (flr F j) = true))
instance (I F : List KD) (i : Nat) : Decidable (ItmAt I F i) := inferInstanceAs (Decidable (_ ∧ _ ∧ ∀ k, k < i → keyK (I.getD k kd0) ≠ keyK (I.getD i kd0)))
instance (I F : List KD) (n : Nat) : Decidable (ItmTo I F n) := inferInstanceAs (Decidable (∀ i, i < n → ItmAt I F i))
/-- Is it a cache? -/
def okC (I F : List KD) : Bool := decide (F.length = 24 ∧ I.length ≤ 4 ∧ FlrTo F 24 ∧ ItmTo I F I.length)
theorem okC_iff {I F : List KD} : okC I F = true ↔ F.length = 24 ∧ I.length ≤ 4 ∧ FlrTo F 24 ∧ ItmTo I F I.length := by simp [okC]
theorem okC_no {I F : List KD} (h : ¬ (F.length = 24 ∧ I.length ≤ 4 ∧ FlrTo F 24 ∧ ItmTo I F I.length)) : okC I F = false := by
  rw [Bool.eq_false_iff]
  exact fun e => h (okC_iff.1 e)
/-- All floors of a list are there and right. -/
def vsR (L : List KD) : Bool := decide (L.length = 24 ∧ FlrTo L 24)
theorem rightK_key {x : KD} (h : rightK x = true) : 0 ≤ keyK x ∧ keyK x < 24 := by
  unfold rightK itR at h
  rw [Bool.and_eq_true] at h
  by_cases hk : 0 ≤ keyK x ∧ keyK x < 24
  · exact hk
  · rw [okV_out hk] at h
    cases h.2

set_option maxRecDepth 100000 in
set_option maxHeartbeats 2000000 in
theorem specItem_any (p0 p1 p2 : Int) (v : Value) (l : List (Int × Int)) (w : World) (h : Rd w v l) {c : Bool} (hc : itR p0 p1 p2 l = c) :
    Calls Tryz.prog 19 #[.agg #[.int .i64 p0, .int .i64 p1, .int .i64 p2, v]] w fun e w' => e = .returned (.bool c) ∧ Below w.heap.size w w' := by
  have HR := hid h
  obtain ⟨ao, ac, hv, _⟩ := h
  subst hv
  by_cases h0 : 0 ≤ p1
  · by_cases h1 : p1 ≤ 60
    · have hv : verR p1 = true := verR_iff.2 ⟨h0, h1⟩
      have hco := fun (W : World) (hr : Rd W (.slice ao l.length ac) l) => specOkV_any p0 p2 _ l W hr
      simp only [itR, hv, Bool.true_and] at hc
      rw [hc] at hco
      have hge : decide (p1 ≥ 0) = true := by simp; omega
      cases c with
      | true =>
        go_enter Tryz.func19, Tryz.ntmps19
        go_wp2_with (first | (go_at_call 45; refine (hco _ (HR.out.later (by go_grown))).mono ?_; rintro e w2 ⟨rfl, b2⟩; have bb : Below w.heap.size w w2 := (Below.trans (by go_grown) (b2.mono (by first | omega | (simp; done) | (simp; omega))))))
        all_goals
          go_ret
          exact ⟨by simp, bb⟩
      | false =>
        go_enter Tryz.func19, Tryz.ntmps19
        go_wp2_with (first | (go_at_call 45; refine (hco _ (HR.out.later (by go_grown))).mono ?_; rintro e w2 ⟨rfl, b2⟩; have bb : Below w.heap.size w w2 := (Below.trans (by go_grown) (b2.mono (by first | omega | (simp; done) | (simp; omega))))))
        all_goals
          go_ret
          exact ⟨by simp, bb⟩
    · have hv : verR p1 = false := by simp [verR]; omega
      simp only [itR, hv, Bool.false_and] at hc
      subst hc
      go_enter Tryz.func19, Tryz.ntmps19
      go_wp2
      go_ret
      exact ⟨by simp, by go_grown⟩
  · have hv : verR p1 = false := by simp [verR]; omega
    simp only [itR, hv, Bool.false_and] at hc
    subst hc
    go_enter Tryz.func19, Tryz.ntmps19
    go_wp2
    go_ret
    exact ⟨by simp, by go_grown⟩
end Go.Proofs.YtefhpbcdjgllnaaGreat
