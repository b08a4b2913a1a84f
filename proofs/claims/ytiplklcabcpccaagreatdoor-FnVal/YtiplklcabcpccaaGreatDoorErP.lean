/- Plain: a list is its first ones and then the others; an ok list's later ones and then the earlier ones. -/
import Derived.Test.YtiplklcabcpccaaGreatDoorRa
import Derived.Test.YtiplklcabcpccaaGreatDoorTi
import Derived.Test.YtiplklcabcpccaaGreatDoorOkP
import Derived.Test.YtiplklcabcpccaaGreatDoorSo
namespace Go.Proofs.YtiplklcabcpccaaGreatDoor

theorem range_both (l : List (Int × Int)) (k : Int) (h : 0 ≤ k) : rangeL l 0 k ++ rangeL l k l.length = l := by
  obtain ⟨n, rfl⟩ := Int.eq_ofNat_of_zero_le h
  have e : rangeL l (n : Int) (l.length : Int) = l.drop n := by
    rw [rangeL, fromL, if_neg (by omega), Int.toNat_natCast, Int.toNat_natCast]
    exact List.take_of_length_le (by simp)
  rw [e, rangeL, fromL, if_neg (by omega), Int.toNat_natCast]
  simp
theorem times_both {l : List (Int × Int)} (h : okL l = true) (k : Int) : l.filter (inTime (k + 1) 1000) ++ l.filter (inTime 0 k) = l := by
  induction l with
  | nil => rfl
  | cons e r ih =>
    rw [okL, Bool.and_eq_true, Bool.and_eq_true] at h
    obtain ⟨⟨h1, h2⟩, h3⟩ := h
    have hr := rightB_iff.1 h1
    have ih := ih h3
    by_cases hk : e.2 ≤ k
    · have hi : inTime 0 k e = true := by simp [inTime]; omega
      have hn : inTime (k + 1) 1000 e = false := by simp [inTime]; omega
      have hnone : r.filter (inTime (k + 1) 1000) = [] := by
        rw [List.filter_eq_nil_iff]
        intro x hx
        have := List.all_eq_true.1 h2 x hx
        simp only [Bool.and_eq_true] at this
        have := aheadB_iff.1 this.1
        simp [inTime]; omega
      rw [hnone, List.nil_append] at ih
      rw [List.filter_cons, List.filter_cons, hi, hn, hnone, ih]
      rfl
    · have hi : inTime 0 k e = false := by simp [inTime]; omega
      have hn : inTime (k + 1) 1000 e = true := by simp [inTime]; omega
      rw [List.filter_cons, List.filter_cons, hi, hn]
      show e :: _ ++ _ = _
      rw [List.cons_append]
      exact congrArg (e :: ·) ih
theorem times_length {l : List (Int × Int)} (h : okL l = true) (k : Int) : (l.filter (inTime 0 k)).length + (l.filter (inTime (k + 1) 1000)).length = l.length := by
  have := congrArg List.length (times_both h k)
  rw [List.length_append] at this
  omega
theorem digits_le (k : Nat) : ∀ u : Nat, u < 10 ^ (k + 1) → Lib.nDigits u ≤ k + 1 := by
  induction k with
  | zero => intro u h; rw [Lib.nDigits_small (by simpa using h)]; omega
  | succ k ih =>
    intro u h
    by_cases hu : u < 10
    · rw [Lib.nDigits_small hu]; omega
    · rw [Lib.nDigits_big hu]
      have := ih (u / 10) (by
        rw [Nat.pow_succ] at h
        exact Nat.div_lt_of_lt_mul (by rw [Nat.mul_comm]; exact h))
      omega
theorem itoa_le (n : Int) (k : Nat) (h0 : 0 ≤ n) (h1 : n.toNat < 10 ^ (k + 1)) : (Lib.itoa n).length ≤ k + 1 := by
  obtain ⟨u, rfl⟩ := Int.eq_ofNat_of_zero_le h0
  rw [Lib.itoa_nonneg, Lib.decDigits_length]
  exact digits_le k u (by simpa using h1)
theorem edge_short {x : Int × Int} (h : rightB x = true) : (edgeT x).length ≤ 6 := by
  have hr := rightB_iff.1 h
  have h1 := itoa_le x.1 0 hr.1 (by simp; omega)
  have h2 := itoa_le x.2 3 hr.2.2.1 (by simp; omega)
  simp [edgeT]
  omega
theorem rights_of_ok {l : List (Int × Int)} (h : okL l = true) : ∀ x ∈ l, rightB x = true := by
  induction l with
  | nil => intro x hx; cases hx
  | cons e r ih =>
    rw [okL, Bool.and_eq_true, Bool.and_eq_true] at h
    intro x hx
    rcases List.mem_cons.1 hx with rfl | hx
    · exact h.1.1
    · exact ih h.2 x hx
theorem tail_short (r : List (Int × Int)) (h : ∀ x ∈ r, (edgeT x).length ≤ 6) : (Lib.joinTail [32] (r.map edgeT)).length ≤ 7 * r.length := by
  induction r with
  | nil => simp [Lib.joinTail]
  | cons e r ih =>
    have h1 := h e (by simp)
    have h2 := ih fun x hx => h x (by simp [hx])
    simp [Lib.joinTail] at h2 ⊢
    omega
theorem text_short {l : List (Int × Int)} (h : okL l = true) : (textL l).length ≤ 2 + 7 * l.length := by
  have hs : ∀ x ∈ l, (edgeT x).length ≤ 6 := fun x hx => edge_short (rights_of_ok h x hx)
  cases l with
  | nil => simp [textL, innerL, Lib.join_nil]
  | cons e r =>
    have h1 := hs e (by simp)
    have h2 := tail_short r fun x hx => hs x (by simp [hx])
    simp [textL, innerL, Lib.join_cons] at h2 ⊢
    omega
end Go.Proofs.YtiplklcabcpccaaGreatDoor
