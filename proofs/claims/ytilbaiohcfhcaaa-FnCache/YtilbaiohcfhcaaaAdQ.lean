/- Plain: an edge put into a list that is ok: who is in it then; the list is ok; two lists that are ok and have the same edges are one. -/
import Derived.Test.YtilbaiohcfhcaaaGrE
import Derived.Test.YtilbaiohcfhcaaaHasP
namespace Go.Proofs.Ytilbaiohcfhcaaa

theorem mem_insL {l : List (Int × Int)} {e x : Int × Int} : x ∈ insL l e ↔ x = e ∨ x ∈ l := by
  rw [insL, insAt, List.mem_append, List.mem_cons]
  constructor
  · rintro (h | h | h)
    · exact .inr (List.mem_of_mem_take h)
    · exact .inl h
    · exact .inr (List.mem_of_mem_drop h)
  · rintro (h | h)
    · exact .inr (.inl h)
    · rw [← List.take_append_drop (placeN l e) l, List.mem_append] at h
      rcases h with h | h
      · exact .inl h
      · exact .inr (.inr h)
theorem insL_nil (e : Int × Int) : insL [] e = [e] := rfl
theorem insL_cons_yes {x e : Int × Int} {r : List (Int × Int)} (h : aheadB x e = true) : insL (x :: r) e = x :: insL r e := by
  simp [insL, insAt, placeN, h]
theorem insL_cons_no {x e : Int × Int} {r : List (Int × Int)} (h : aheadB x e = false) : insL (x :: r) e = e :: x :: r := by
  simp [insL, insAt, placeN, h]

theorem okL_cons {e : Int × Int} {r : List (Int × Int)} : okL (e :: r) = true ↔ rightB e = true ∧ (∀ f ∈ r, aheadB e f = true ∧ e.1 ≠ f.1) ∧ okL r = true := by
  simp only [okL, Bool.and_eq_true, List.all_eq_true, decide_eq_true_eq, and_assoc]
theorem okL_ins {l : List (Int × Int)} {e : Int × Int} (h : okL l = true) (he : rightB e = true) (hne : ∀ x ∈ l, x.1 ≠ e.1) : okL (insL l e) = true := by
  induction l with
  | nil => rw [insL_nil, okL_cons]; exact ⟨he, by simp, rfl⟩
  | cons x r ih =>
    obtain ⟨hx, hxr, hr⟩ := okL_cons.1 h
    cases ha : aheadB x e with
    | true =>
      rw [insL_cons_yes ha, okL_cons]
      refine ⟨hx, fun f hf => ?_, ih hr (fun y hy => hne y (List.mem_cons_of_mem _ hy))⟩
      rcases mem_insL.1 hf with rfl | hf
      · exact ⟨ha, hne x List.mem_cons_self⟩
      · exact hxr f hf
    | false =>
      have hex : aheadB e x = true := aheadB_total (Ne.symm (hne x List.mem_cons_self)) (by rw [ha]; decide)
      rw [insL_cons_no ha, okL_cons]
      refine ⟨he, fun f hf => ⟨?_, Ne.symm (hne f hf)⟩, h⟩
      rcases List.mem_cons.1 hf with rfl | hf
      · exact hex
      · exact aheadB_trans hex (hxr f hf).1
theorem mem_filter_notWho {l : List (Int × Int)} {who : Int} {x : Int × Int} : x ∈ l.filter (notWho who) ↔ x ∈ l ∧ x.1 ≠ who := by
  rw [List.mem_filter]; simp [notWho]
theorem okL_add {l : List (Int × Int)} {who at' : Int} (h : okL l = true) (he : rightB (who, at') = true) : okL (insL (l.filter (notWho who)) (who, at')) = true :=
  okL_ins (okL_filter _ _ h) he (fun _ hx => (mem_filter_notWho.1 hx).2)

theorem okL_ext {l m : List (Int × Int)} (hl : okL l = true) (hm : okL m = true) (h : ∀ x, x ∈ l ↔ x ∈ m) : l = m := by
  induction l generalizing m with
  | nil =>
    cases m with
    | nil => rfl
    | cons y s => exact absurd ((h y).2 List.mem_cons_self) (by simp)
  | cons x r ih =>
    obtain ⟨hx, hxr, hr⟩ := okL_cons.1 hl
    cases m with
    | nil => exact absurd ((h x).1 List.mem_cons_self) (by simp)
    | cons y s =>
      obtain ⟨hy, hys, hs⟩ := okL_cons.1 hm
      have hxy : x = y := by
        rcases List.mem_cons.1 ((h x).1 List.mem_cons_self) with e | hxs
        · exact e
        rcases List.mem_cons.1 ((h y).2 List.mem_cons_self) with e | hyr
        · exact e.symm
        have h1 := (hys x hxs).1
        have h2 := (hxr y hyr).1
        have h3 := aheadB_trans h1 h2
        rw [aheadB_iff] at h3
        omega
      subst hxy
      rw [ih hr hs]
      intro z
      constructor
      · intro hz
        rcases List.mem_cons.1 ((h z).1 (List.mem_cons_of_mem _ hz)) with rfl | hz'
        · exact absurd rfl (hxr z hz).2
        · exact hz'
      · intro hz
        rcases List.mem_cons.1 ((h z).2 (List.mem_cons_of_mem _ hz)) with rfl | hz'
        · exact absurd rfl (hys z hz).2
        · exact hz'
end Go.Proofs.Ytilbaiohcfhcaaa
