/- Plain: two edges put into a list that is ok, in either order; what a list is without the one who was put in. -/
import Derived.Test.YtkmhnjgncnoddaaGreatEhP
namespace Go.Proofs.YtkmhnjgncnoddaaGreat

/-- l with (who, at'). -/
def putL (l : List (Int × Int)) (who at' : Int) : List (Int × Int) := insL (l.filter (notWho who)) (who, at')
theorem addL_yes {l : List (Int × Int)} {who at' : Int} (h : addB l who at' = true) : addL l who at' = putL l who at' := by
  unfold addL; rw [if_pos h]; rfl
theorem addL_no {l : List (Int × Int)} {who at' : Int} (h : addB l who at' = false) : addL l who at' = [] := by
  unfold addL; rw [if_neg (by rw [h]; decide)]
theorem addB_iff {l : List (Int × Int)} {who at' : Int} : addB l who at' = true ↔ okL l = true ∧ rightB (who, at') = true := by
  simp [addB]
theorem mem_put {l : List (Int × Int)} {who at' : Int} {x : Int × Int} : x ∈ putL l who at' ↔ x = (who, at') ∨ (x ∈ l ∧ x.1 ≠ who) := by
  unfold putL; rw [mem_insL, mem_filter_notWho]
theorem okL_put {l : List (Int × Int)} {who at' : Int} (h : okL l = true) (he : rightB (who, at') = true) : okL (putL l who at') = true := okL_add h he
theorem put_put_ne {l : List (Int × Int)} {who at' other when' : Int} (h : okL l = true) (he : rightB (who, at') = true) (hf : rightB (other, when') = true) (hne : who ≠ other) :
    putL (putL l who at') other when' = putL (putL l other when') who at' := by
  refine okL_ext (okL_put (okL_put h he) hf) (okL_put (okL_put h hf) he) fun x => ?_
  rw [mem_put, mem_put, mem_put, mem_put]
  constructor
  · rintro (rfl | ⟨rfl | ⟨hx, h1⟩, h2⟩)
    · exact .inr ⟨.inl rfl, fun e => hne e.symm⟩
    · exact .inl rfl
    · exact .inr ⟨.inr ⟨hx, h2⟩, h1⟩
  · rintro (rfl | ⟨rfl | ⟨hx, h1⟩, h2⟩)
    · exact .inr ⟨.inl rfl, hne⟩
    · exact .inl rfl
    · exact .inr ⟨.inr ⟨hx, h2⟩, h1⟩
theorem put_put_eq {l : List (Int × Int)} {who at' when' : Int} (h : okL l = true) (he : rightB (who, at') = true) (hf : rightB (who, when') = true) :
    putL (putL l who at') who when' = putL l who when' := by
  refine okL_ext (okL_put (okL_put h he) hf) (okL_put h hf) fun x => ?_
  rw [mem_put, mem_put, mem_put]
  constructor
  · rintro (rfl | ⟨rfl | ⟨hx, h1⟩, h2⟩)
    · exact .inl rfl
    · exact absurd rfl h2
    · exact .inr ⟨hx, h2⟩
  · rintro (rfl | ⟨hx, h1⟩)
    · exact .inl rfl
    · exact .inr ⟨.inr ⟨hx, h1⟩, h1⟩
theorem put_drop {l : List (Int × Int)} {who at' : Int} (h : okL l = true) (he : rightB (who, at') = true) : (putL l who at').filter (notWho who) = l.filter (notWho who) := by
  refine okL_ext (okL_filter _ _ (okL_put h he)) (okL_filter _ _ h) fun x => ?_
  rw [mem_filter_notWho, mem_filter_notWho, mem_put]
  constructor
  · rintro ⟨rfl | ⟨hx, _⟩, h2⟩
    · exact absurd rfl h2
    · exact ⟨hx, h2⟩
  · rintro ⟨hx, h2⟩
    exact ⟨.inr ⟨hx, h2⟩, h2⟩
theorem put_has {l : List (Int × Int)} {who at' : Int} (h : okL l = true) (he : rightB (who, at') = true) : hasL (putL l who at') who = (at', true) :=
  hasL_of_mem (okL_put h he) (mem_put.2 (.inl rfl))
theorem put_other {l : List (Int × Int)} {who at' i : Int} (h : okL l = true) (he : rightB (who, at') = true) (hi : i ≠ who) : hasL (putL l who at') i = hasL l i := by
  cases hh : (hasL l i).2 with
  | true =>
    have hm := hasL_mem hh
    have := hasL_of_mem (okL_put (at' := at') h he) (mem_put.2 (.inr ⟨hm, hi⟩))
    have h2 := hasL_of_mem h hm
    rw [this, h2]
  | false =>
    have hn := hasL_none hh
    rw [hasL_fst hh]
    cases hp : (hasL (putL l who at') i).2 with
    | true =>
      rcases mem_put.1 (hasL_mem hp) with e | ⟨hm, _⟩
      · exact absurd (congrArg Prod.fst e) hi
      · exact absurd rfl (hn _ hm)
    | false => exact hasL_fst hp
theorem put_length {l : List (Int × Int)} {who at' : Int} (h : okL l = true) : (putL l who at').length = if (hasL l who).2 = true then l.length else l.length + 1 := by
  unfold putL
  rw [insL_length]
  cases hh : (hasL l who).2 with
  | true => have := filter_one h hh; simp; omega
  | false => simp [filter_none (hasL_none hh)]
end Go.Proofs.YtkmhnjgncnoddaaGreat
