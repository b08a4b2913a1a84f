/- What a message is asked, plainly: as the document says it, and as the program asks it. No walk stands here. -/
import Derived.Test.YtddpoheoecafjaaGreatMa
import Derived.Test.YtddpoheoecafjaaGreatOq
import Derived.Test.YtddpoheoecafjaaGreatCc
namespace Go.Proofs.YtddpoheoecafjaaGreat
open Go.RowKit

/-- The four numbers that every message has. -/
def headM (t p i s : Int) : Bool := decide (0 ≤ t ∧ t < 2 ∧ 0 ≤ p ∧ p < 2 ∧ 0 ≤ i ∧ i ≤ 1000 ∧ 0 ≤ s ∧ s ≤ 1000)
/-- What each kind has, as the document says it. -/
def bodyM (k t p i s oa ob oc od ky ve nu co : Int) (l : List (Int × Int)) (V : List KD) : Bool :=
  decide (k = 1 ∧ (oa = 0 ∧ ob = 0 ∧ oc = 0 ∧ od = 0) ∧ (partOf ky = p ∧ ve = 0 ∧ nu = 0 ∧ l = []) ∧ V = [] ∧ co = 0) ||
  decide (k = 2 ∧ (oa = 0 ∧ ob = 0 ∧ oc = 0 ∧ od = 0) ∧ (itR ky ve nu l = true ∧ partOf ky = p) ∧ V = [] ∧ co = 0) ||
  decide (k = 3 ∧ opOk oa ob oc od = true ∧ partOf (opKey oa ob oc od) = p ∧ (ky = 0 ∧ ve = 0 ∧ nu = 0 ∧ l = []) ∧ V = [] ∧ co = 0) ||
  decide (k = 4 ∧ (oa = 0 ∧ ob = 0 ∧ oc = 0 ∧ od = 0) ∧ (itR ky ve nu l = true ∧ partOf ky = p) ∧ V = [] ∧ 0 ≤ co ∧ co ≤ 5) ||
  decide (k = 5 ∧ (oa = 0 ∧ ob = 0 ∧ oc = 0 ∧ od = 0) ∧ (itR ky ve nu l = true ∧ partOf ky = p) ∧ V = [] ∧ co = 0 ∧ i = 0 ∧ s = 0) ||
  decide (k = 6 ∧ (oa = 0 ∧ ob = 0 ∧ oc = 0 ∧ od = 0) ∧ partOf ky = p ∧ 0 ≤ ve ∧ ve ≤ 60 ∧ nu = 0 ∧ l = [] ∧ V = [] ∧ co = 0 ∧ i = 0 ∧ s = 0) ||
  decide (k = 7 ∧ (oa = 0 ∧ ob = 0 ∧ oc = 0 ∧ od = 0) ∧ (ky = 0 ∧ ve = 0 ∧ nu = 0 ∧ l = []) ∧ V = [] ∧ co = 0 ∧ s = 0) ||
  decide (k = 8 ∧ (oa = 0 ∧ ob = 0 ∧ oc = 0 ∧ od = 0) ∧ (ky = 0 ∧ ve = 0 ∧ nu = 0 ∧ l = []) ∧ vsR V = true ∧ co = 0 ∧ s = 0) ||
  decide (k = 9 ∧ opOk oa ob oc od = true ∧ partOf (opOther oa ob oc od) = p ∧ (ky = 0 ∧ ve = 0 ∧ nu = 0 ∧ l = []) ∧ V = [] ∧ co = 0 ∧ t = 0 ∧ i = 0 ∧ 1 ≤ s) ||
  decide (k = 10 ∧ (oa = 0 ∧ ob = 0 ∧ oc = 0 ∧ od = 0) ∧ (ky = 0 ∧ ve = 0 ∧ nu = 0 ∧ l = []) ∧ V = [] ∧ co = 0 ∧ t = 0 ∧ i = 0 ∧ 1 ≤ s)
def okM (k t p i s oa ob oc od ky ve nu co : Int) (l : List (Int × Int)) (V : List KD) : Bool := headM t p i s && bodyM k t p i s oa ob oc od ky ve nu co l V
/-- Is nothing there that the kind has not? -/
def aloneM (k oa ob oc od ky ve nu co : Int) (l : List (Int × Int)) (V : List KD) : Bool := decide (
  (k = 3 ∨ k = 9 ∨ (oa = 0 ∧ ob = 0 ∧ oc = 0 ∧ od = 0)) ∧ (k = 8 ∨ V = []) ∧ (k = 4 ∨ co = 0) ∧ (k = 4 ∨ k = 2 ∨ k = 5 ∨ (nu = 0 ∧ l = [])) ∧
  (k = 4 ∨ k = 2 ∨ k = 5 ∨ k = 6 ∨ ve = 0) ∧ (k = 4 ∨ k = 2 ∨ k = 5 ∨ k = 6 ∨ k = 1 ∨ ky = 0))
def numsM (k t i s : Int) : Bool := decide ((k = 5 ∨ k = 6 → i = 0) ∧ (k = 5 ∨ k = 6 ∨ k = 7 ∨ k = 8 → s = 0) ∧ (k = 9 ∨ k = 10 → t = 0 ∧ i = 0 ∧ 1 ≤ s))
def toldM (k p oa ob oc od ky ve nu co : Int) (l : List (Int × Int)) (V : List KD) : Bool := decide (
  (k = 4 ∧ 0 ≤ co ∧ co ≤ 5 ∧ itR ky ve nu l = true ∧ partOf ky = p) ∨
  ((k = 1 ∨ k = 2 ∨ k = 5 ∨ k = 6) ∧ itR ky ve nu l = true ∧ partOf ky = p) ∨
  (k = 3 ∧ partOf (opKey oa ob oc od) = p) ∨ (k = 9 ∧ partOf (opOther oa ob oc od) = p) ∨ (k = 8 ∧ vsR V = true) ∨ k = 7 ∨ k = 10)
theorem part_in {k p : Int} (h : partOf k = p) (hp : 0 ≤ p) : 0 ≤ k ∧ k < 24 := by
  by_cases hk : 0 ≤ k ∧ k < 24
  · exact hk
  · rw [partOf, if_neg hk] at h
    omega
theorem itR_zero {k v : Int} (h0 : 0 ≤ k) (h1 : k < 24) : itR k v 0 [] = verR v := by
  have hv : okV k 0 [] = true := by
    rw [okV, if_pos ⟨h0, h1⟩]
    split
    · simp
    · decide
  rw [itR, hv, Bool.and_true]
theorem opKey_ok {a b c d p : Int} (h : partOf (opKey a b c d) = p) (hp : 0 ≤ p) : opOk a b c d = true := by
  rcases op_ways a b c d with ⟨_, e, _⟩ | ⟨_, e, _⟩ | ⟨_, e, _⟩ | ⟨_, _, _, _, e, _⟩
  · exact e
  · exact e
  · exact e
  · rw [e] at h
    have := part_in h hp
    omega
theorem opOther_ok {a b c d p : Int} (h : partOf (opOther a b c d) = p) (hp : 0 ≤ p) : opOk a b c d = true := by
  rcases op_ways a b c d with ⟨_, e, _⟩ | ⟨_, e, _⟩ | ⟨_, e, _⟩ | ⟨_, _, _, _, _, e⟩
  · exact e
  · exact e
  · exact e
  · rw [e] at h
    have := part_in h hp
    omega
/-- What the program asks is what the document says. -/
theorem okM_asked (k t p i s oa ob oc od ky ve nu co : Int) (l : List (Int × Int)) (V : List KD) :
    okM k t p i s oa ob oc od ky ve nu co l V = (headM t p i s && aloneM k oa ob oc od ky ve nu co l V && numsM k t i s && toldM k p oa ob oc od ky ve nu co l V) := by
  rw [Bool.eq_iff_iff]
  simp only [okM, Bool.and_eq_true, Bool.or_eq_true, or_assoc, headM, bodyM, aloneM, numsM, toldM, decide_eq_true_eq]
  constructor
  · rintro ⟨hh, hb⟩
    have hp : 0 ≤ p := hh.2.2.1
    rcases hb with ⟨rfl, ho, ⟨hk, rfl, rfl, rfl⟩, hV, hc⟩ | ⟨rfl, ho, ⟨hi, hk⟩, hV, hc⟩ | ⟨rfl, ho, hk, ⟨h1, h2, h3, h4⟩, hV, hc⟩ | ⟨rfl, ho, ⟨hi, hk⟩, hV, hc⟩ | ⟨rfl, ho, ⟨hi, hk⟩, hV, hc, h5, h6⟩ |
      ⟨rfl, ho, hk, hv0, hv1, rfl, rfl, hV, hc, h5, h6⟩ | ⟨rfl, ho, ⟨h1, h2, h3, h4⟩, hV, hc, h6⟩ | ⟨rfl, ho, ⟨h1, h2, h3, h4⟩, hV, hc, h6⟩ | ⟨rfl, ho, hk, ⟨h1, h2, h3, h4⟩, hV, hc, h5, h6, h7⟩ | ⟨rfl, ho, ⟨h1, h2, h3, h4⟩, hV, hc, h5, h6, h7⟩
    · have hin := part_in hk hp
      have hz : itR ky 0 0 [] = true := by rw [itR_zero hin.1 hin.2]; decide
      simp_all
    · simp_all
    · simp_all
    · simp_all
    · simp_all
    · have hin := part_in hk hp
      have hz := (itR_zero (v := ve) hin.1 hin.2).trans (verR_iff.2 ⟨hv0, hv1⟩)
      simp_all
    · simp_all
    · simp_all
    · simp_all
    · simp_all
  · rintro ⟨⟨⟨hh, h1, h2, h3, h4, h5, h6⟩, hn1, hn2, hn3⟩, ht⟩
    have hp : 0 ≤ p := hh.2.2.1
    refine ⟨hh, ?_⟩
    rcases ht with ⟨rfl, hc0, hc1, hi, hk⟩ | ⟨rfl | rfl | rfl | rfl, hi, hk⟩ | ⟨rfl, hk⟩ | ⟨rfl, hk⟩ | ⟨rfl, hv⟩ | rfl | rfl
    · simp_all
    · simp_all
    · simp_all
    · simp_all
    · have hin := part_in hk hp
      have hv : verR ve = true := by
        have : nu = 0 ∧ l = [] := by simpa using h4
        obtain ⟨rfl, rfl⟩ := this
        rw [itR_zero hin.1 hin.2] at hi
        exact hi
      have := verR_iff.1 hv
      simp_all
    · have := opKey_ok hk hp
      simp_all
    · have := opOther_ok hk hp
      simp_all
    · simp_all
    · simp_all
    · simp_all
end Go.Proofs.YtddpoheoecafjaaGreat
