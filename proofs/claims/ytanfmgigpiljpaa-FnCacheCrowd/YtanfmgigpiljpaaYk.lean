/- Items put into an empty cache: which stay (plain facts, for FnCacheCrowd). -/
import Derived.Test.YtanfmgigpiljpaaYi
namespace Go.Proofs.Ytanfmgigpiljpaa
open Go.RowKit

/-- A key is seen, unless it was or four were. -/
def stepC (s : List Int) (k : Int) : List Int := if s.length < 4 ∧ ¬ k ∈ s then s ++ [k] else s
def seenC (s : List Int) (R : List Int) : List Int := R.foldl stepC s
def headC (k : Int) (s : List Int) : List Int := (k :: s.filter (fun y => !(y == k))).take 4
theorem stepC_ok {s : List Int} {k : Int} (hn : s.Nodup) (h4 : s.length ≤ 4) : (stepC s k).Nodup ∧ (stepC s k).length ≤ 4 := by
  unfold stepC
  split
  · rename_i h
    refine ⟨List.nodup_append.2 ⟨hn, by simp, fun a ha b hb e => ?_⟩, by simp; omega⟩
    simp only [List.mem_singleton] at hb
    exact h.2 (by rw [← hb, ← e]; exact ha)
  · exact ⟨hn, h4⟩
theorem filter_len : ∀ {s : List Int} {k : Int}, s.Nodup → s.length ≤ (s.filter (fun y => !(y == k))).length + 1
  | [], _, _ => by simp
  | a :: r, k, h => by
    have ⟨h1, h2⟩ := List.nodup_cons.1 h
    by_cases e : a = k
    · subst e
      have hf : r.filter (fun y => !(y == a)) = r := List.filter_eq_self.2 (fun y hy => by
        have : y ≠ a := fun e => h1 (by rw [← e]; exact hy)
        simpa using this)
      rw [List.filter_cons_of_neg (by simp), hf]
      simp
    · rw [List.filter_cons_of_pos (by simpa using e), List.length_cons, List.length_cons]
      have := filter_len (k := k) h2
      omega
theorem stepC_head {s : List Int} (hn : s.Nodup) (h4 : s.length ≤ 4) (k x : Int) : stepC (headC k s) x = headC k (stepC s x) := by
  have hl := filter_len (k := k) hn
  have hle := List.length_filter_le (fun y => !(y == k)) s
  by_cases hA : s.length < 4 ∧ ¬ x ∈ s
  · have e1 : stepC s x = s ++ [x] := by unfold stepC; rw [if_pos hA]
    rw [e1]
    by_cases ex : x = k
    · subst ex
      have e2 : headC x (s ++ [x]) = headC x s := by unfold headC; simp
      rw [e2]
      unfold stepC
      rw [if_neg]
      intro h
      exact h.2 (by unfold headC; rw [List.take_succ_cons]; simp)
    · have hf : (s ++ [x]).filter (fun y => !(y == k)) = s.filter (fun y => !(y == k)) ++ [x] := by
        rw [List.filter_append]
        simp [ex]
      have e2 : headC k s = k :: s.filter (fun y => !(y == k)) := by
        unfold headC
        exact List.take_of_length_le (by rw [List.length_cons]; omega)
      have hx : ¬ x ∈ k :: s.filter (fun y => !(y == k)) := by
        intro h
        rcases List.mem_cons.1 h with h | h
        · exact ex h
        · exact hA.2 (List.mem_filter.1 h).1
      rw [e2]
      unfold headC
      rw [hf]
      by_cases h3 : (s.filter (fun y => !(y == k))).length < 3
      · unfold stepC
        rw [if_pos ⟨by rw [List.length_cons]; omega, hx⟩, ← List.cons_append]
        exact (List.take_of_length_le (by rw [List.length_append, List.length_cons, List.length_singleton]; omega)).symm
      · unfold stepC
        rw [if_neg (fun h => by have := h.1; rw [List.length_cons] at this; omega), ← List.cons_append, List.take_append_of_le_length (by rw [List.length_cons]; omega)]
        exact (List.take_of_length_le (by rw [List.length_cons]; omega)).symm
  · have e1 : stepC s x = s := by unfold stepC; rw [if_neg hA]
    rw [e1]
    unfold stepC
    rw [if_neg]
    intro h
    by_cases h4' : s.length < 4
    · have hx : x ∈ s := by
        by_cases hx : x ∈ s
        · exact hx
        · exact absurd ⟨h4', hx⟩ hA
      refine h.2 ?_
      have e2 : headC k s = k :: s.filter (fun y => !(y == k)) := by
        unfold headC
        exact List.take_of_length_le (by rw [List.length_cons]; omega)
      rw [e2]
      by_cases ex : x = k
      · rw [ex]; exact List.mem_cons_self
      · exact List.mem_cons_of_mem _ (List.mem_filter.2 ⟨hx, by simpa using ex⟩)
    · have := h.1
      unfold headC at this
      rw [List.length_take, List.length_cons] at this
      omega
theorem seenC_head (k : Int) : ∀ (R : List Int) {s : List Int}, s.Nodup → s.length ≤ 4 → seenC (headC k s) R = headC k (seenC s R)
  | [], _, _, _ => rfl
  | x :: R, s, hn, h4 => by
    show seenC (stepC (headC k s) x) R = headC k (seenC (stepC s x) R)
    rw [stepC_head hn h4]
    exact seenC_head k R (stepC_ok hn h4).1 (stepC_ok hn h4).2
theorem seenC_cons (k : Int) (R : List Int) : seenC [] (k :: R) = headC k (seenC [] R) := by
  have := seenC_head k R (s := []) List.nodup_nil (by simp)
  rw [← this]
  rfl
theorem seenC_full {s : List Int} (h : 4 ≤ s.length) : ∀ R : List Int, seenC s R = s
  | [] => rfl
  | x :: R => by
    have e : stepC s x = s := by unfold stepC; rw [if_neg (fun q => by omega)]
    show seenC (stepC s x) R = s
    rw [e]
    exact seenC_full h R
theorem seenC_append (s : List Int) (R T : List Int) : seenC s (R ++ T) = seenC (seenC s R) T := by simp [seenC]
/-- The keys of the items, behind one more. -/
theorem keys_put (k v n : Int) (l : List (Int × Int)) (I : List KD) : (putI k v n l I).map keyK = headC k (I.map keyK) := by
  have hf : (dropI k I).map keyK = (I.map keyK).filter (fun y => !(y == k)) := by
    unfold dropI
    rw [List.filter_map]
    rfl
  unfold putI headC
  rw [List.map_take, List.map_cons, hf]
  rfl
theorem keys_step {I : List KD} {K : List Int} (h : I.map keyK = seenC [] K.reverse) (k v n : Int) (l : List (Int × Int)) : (putI k v n l I).map keyK = seenC [] (K ++ [k]).reverse := by
  rw [List.reverse_append, List.reverse_singleton, List.singleton_append, seenC_cons, keys_put, h]
end Go.Proofs.Ytanfmgigpiljpaa
