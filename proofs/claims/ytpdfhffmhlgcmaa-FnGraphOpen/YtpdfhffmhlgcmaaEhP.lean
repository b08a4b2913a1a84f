/- Plain: who is in a list that is ok, and what is left without him. -/
import Derived.Test.YtpdfhffmhlgcmaaAdQ
import Derived.Test.YtpdfhffmhlgcmaaDr
import Derived.Test.YtpdfhffmhlgcmaaTi
namespace Go.Proofs.Ytpdfhffmhlgcmaa

theorem hasL_mem {l : List (Int × Int)} {who : Int} : (hasL l who).2 = true → (who, (hasL l who).1) ∈ l := by
  induction l with
  | nil => intro h; simp [hasL] at h
  | cons e r ih =>
    unfold hasL
    by_cases he : e.1 = who
    · rw [if_pos he]; intro _; subst he; exact List.mem_cons_self
    · rw [if_neg he]; intro h; exact List.mem_cons_of_mem _ (ih h)
theorem hasL_none {l : List (Int × Int)} {who : Int} : (hasL l who).2 = false → ∀ x ∈ l, x.1 ≠ who := by
  induction l with
  | nil => intro _ x hx; cases hx
  | cons e r ih =>
    unfold hasL
    by_cases he : e.1 = who
    · rw [if_pos he]; intro h; cases h
    · rw [if_neg he]
      intro h x hx
      rcases List.mem_cons.1 hx with rfl | hx
      · exact he
      · exact ih h x hx
theorem hasL_fst {l : List (Int × Int)} {who : Int} (h : (hasL l who).2 = false) : hasL l who = (0, false) := by
  induction l with
  | nil => rfl
  | cons e r ih =>
    unfold hasL at h ⊢
    by_cases he : e.1 = who
    · rw [if_pos he] at h; cases h
    · rw [if_neg he] at h ⊢; exact ih h
theorem hasL_of_mem {l : List (Int × Int)} (h : okL l = true) {x : Int × Int} (hx : x ∈ l) : hasL l x.1 = (x.2, true) := by
  induction l with
  | nil => cases hx
  | cons e r ih =>
    obtain ⟨_, her, hr⟩ := okL_cons.1 h
    unfold hasL
    rcases List.mem_cons.1 hx with rfl | hx
    · rw [if_pos rfl]
    · rw [if_neg (her x hx).2]; exact ih hr hx
theorem filter_none {l : List (Int × Int)} {who : Int} (h : ∀ x ∈ l, x.1 ≠ who) : l.filter (notWho who) = l := by
  rw [List.filter_eq_self]; intro x hx; simpa [notWho] using h x hx
theorem filter_one {l : List (Int × Int)} {who : Int} (h : okL l = true) (hh : (hasL l who).2 = true) : (l.filter (notWho who)).length + 1 = l.length := by
  induction l with
  | nil => simp [hasL] at hh
  | cons e r ih =>
    obtain ⟨_, her, hr⟩ := okL_cons.1 h
    unfold hasL at hh
    by_cases he : e.1 = who
    · rw [List.filter_cons_of_neg (by simp [notWho, he]), filter_none (fun x hx => by rw [← he]; exact Ne.symm (her x hx).2)]; rfl
    · rw [if_neg he] at hh
      rw [List.filter_cons_of_pos (by simp [notWho, he])]
      simp only [List.length_cons]
      rw [ih hr hh]
theorem dropB_no {l : List (Int × Int)} {who : Int} (h : okL l = false) : dropB l who = false := by simp [dropB, h]
theorem dropL_no {l : List (Int × Int)} {who : Int} (h : okL l = false) : dropL l who = [] := by simp [dropL, h]
theorem dropL_yes {l : List (Int × Int)} {who : Int} (h : okL l = true) : dropL l who = l.filter (notWho who) := by simp [dropL, h]
theorem dropB_has {l : List (Int × Int)} {who : Int} (h : okL l = true) : dropB l who = (hasL l who).2 := by
  cases hh : (hasL l who).2 with
  | true =>
    have := filter_one h hh
    unfold dropB
    rw [h, Bool.true_and]
    exact decide_eq_true (by omega)
  | false =>
    unfold dropB
    rw [h, filter_none (hasL_none hh), Bool.true_and]
    exact decide_eq_false (Nat.lt_irrefl _)
/-- The first of a list that is ok has the latest time. -/
theorem okL_first {l : List (Int × Int)} (h : okL l = true) {k : Nat} (hk : k < l.length) : (l.getD k (0, 0)).2 ≤ (l.getD 0 (0, 0)).2 := by
  have hG := (okL_iff l).1 h
  by_cases h0 : k = 0
  · subst h0; exact Int.le_refl _
  · have := ((hG k hk).2 0 (by omega)).1
    rw [aheadB_iff] at this
    omega
end Go.Proofs.Ytpdfhffmhlgcmaa
