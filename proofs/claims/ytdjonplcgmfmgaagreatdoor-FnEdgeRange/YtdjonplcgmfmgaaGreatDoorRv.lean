/- impl.EdgeRead: contract. -/
import Derived.Test.YtdjonplcgmfmgaaGreatDoorRu
import Derived.Test.YtdjonplcgmfmgaaGreatDoorTj
import Derived.Test.YtdjonplcgmfmgaaGreatDoorOkI
namespace Go.Proofs.YtdjonplcgmfmgaaGreatDoor
open Go.RowKit Go.Shelf

/-- What the library reads besides memory: its table, its errors, its number. -/
structure Lib4 (w : World) : Prop where
  tab : Tab w
  err : ErrVars w
  max : MaxVar w
theorem Lib4.below {w w' : World} (h : Lib4 w) (hb : Below w.heap.size w w') : Lib4 w' := ⟨h.tab.below hb, h.err.below hb, h.max.below hb⟩

/-- What impl.EdgeRead answers: what is read, in memory of its own. -/
def ReadO (s : List UInt8) (B : Nat) (w : World) (e : Ending) : Prop := ∃ v l b, e = .returned (.tuple #[v, .bool b]) ∧ Own w B v l ∧ ReadR s l b
theorem toList_same (a : List UInt8) (s : ByteArray) : ((⟨a.toArray⟩ : ByteArray).toList = s.toList) = (a = s.data.toList) := by
  rw [ByteArray.toList_eq, ByteArray.toList_eq]

theorem readR_length {s : List UInt8} {l : List (Int × Int)} {b : Bool} (h : ReadR s l b) : l.length ≤ 200 := by
  rcases h with ⟨_, _, h1, h2⟩ | ⟨_, rfl, _⟩
  · have hl : ∀ m : List (Int × Int), m.length ≤ (innerL m).length := by
      intro m
      induction m with
      | nil => simp
      | cons e r ih =>
        cases r with
        | nil => unfold innerL; simp [edgeT, Lib.join_cons, Lib.joinTail]; omega
        | cons y r =>
          unfold innerL at ih ⊢
          rw [List.map_cons, Lib.join_cons] at ih ⊢
          rw [List.map_cons, joinTail_cons]
          simp only [List.length_cons, List.length_append] at ih ⊢
          omega
    have := hl l
    rw [← h1, textL] at h2
    simp at h2
    omega
  · simp

/-- What read in an elder world reads on while all below its end stays. -/
theorem Rd.before {B : Nat} {w0 w w' : World} {v : Value} {l : List (Int × Int)} (h0 : Rd w0 v l) (h : Rd w v l) (hB : w0.heap.size ≤ B) (hb : Below B w w') : Rd w' v l := by
  obtain ⟨ao, cap, hv, hl, hc⟩ := h
  obtain ⟨ao', cap', hv', _, hc'⟩ := h0
  subst hv
  cases hv'
  refine ⟨_, _, rfl, hl, fun h1 => ?_⟩
  obtain ⟨b, off, ha, hlt, hcc⟩ := hc h1
  obtain ⟨b', off', ha', hlt', _⟩ := hc' h1
  subst ha
  cases ha'
  refine ⟨_, _, rfl, Nat.lt_of_lt_of_le hlt hb.size, fun i hi => ?_⟩
  obtain ⟨c0, c1⟩ := hcc i hi
  exact ⟨(hb.cell (p := ⟨b, off + i * 2, none⟩) (by show b < B; omega)).trans c0, (hb.cell (p := ⟨b, off + i * 2 + 1, none⟩) (by show b < B; omega)).trans c1⟩


theorem wf_ok {l : List (Int × Int)} (h : okL l = true) : WfL l := by
  intro i hi
  obtain ⟨h0, h1, h2, h3⟩ := rightB_iff.1 (okR h (l.getD i (0, 0)) (by simp [hi]))
  omega

set_option maxRecDepth 100000 in
set_option maxHeartbeats 2000000 in
theorem implRead_any (s : ByteArray) (w : World) (hs : s.size ≤ 1048576) (hL : Lib4 w) :
    Calls Tryz.prog 11 #[.string s] w fun e w' => ReadO s.data.toList w.heap.size w' e ∧ Below w.heap.size w w' := by
  have hsl : s.data.toList.length = s.size := rfl
  by_cases h200 : s.size ≤ 200
  · have HL := hid hL
    clear hL
    go_enter Tryz.func11, Tryz.ntmps11
    go_wp2_with fail
    refine (readEdges_any s w h200 HL.out.err HL.out.max).mono ?_
    rintro e w1 ⟨⟨v, l, b, rfl, ho, hlen, hm⟩, b1⟩
    have HM := hid hm
    have HO := hid ho
    have HB1 := hid b1
    clear hm ho b1
    cases b with
    | false =>
      have HN : Hid (ReadR s.data.toList [] false) := hidT (Or.inr ⟨rfl, rfl, fun m h1 h2 => by cases (HM.out m h1 h2).1⟩)
      go_wp2
      go_ret2
      exact ⟨⟨_, [], false, by simp, World.ownsRow_nil _ _ _ _, HN.out⟩, HB1.out⟩
    | true =>
      cases hok : okL l with
      | false =>
        have HN : Hid (ReadR s.data.toList [] false) := hidT (Or.inr ⟨rfl, rfl, fun m h1 h2 => by rw [(HM.out m h1 h2).2, h1] at hok; cases hok⟩)
        go_wp2_with fail
        refine (implOk_any v l _ HO.out.rd).mono ?_
        rintro e w2 ⟨rfl, b2⟩
        rw [hok]
        have c2 := HB1.out.trans (b2.mono HB1.out.size)
        go_wp2
        go_ret2
        exact ⟨⟨_, [], false, by simp, World.ownsRow_nil _ _ _ _, HN.out⟩, c2⟩
      | true =>
        go_wp2_with fail
        refine (implOk_any v l _ HO.out.rd).mono ?_
        rintro e w2 ⟨rfl, b2⟩
        rw [hok]
        have c2 := HB1.out.trans (b2.mono HB1.out.size)
        have HO2 := hid (HO.out.later b2)
        go_wp2_with fail
        refine (implText_any v l _ HO2.out.rd (by omega) (wf_ok hok) (HL.out.tab.below c2)).mono ?_
        rintro e w3 ⟨rfl, b3⟩
        have c3 := c2.trans (b3.mono c2.size)
        have HO3 := hid (HO2.out.later b3)
        by_cases hE : textL l = s.data.toList
        · have HN : Hid (ReadR s.data.toList l true) := hidT (Or.inl ⟨rfl, hok, hE, by omega⟩)
          have hEq : ((⟨(textL l).toArray⟩ : ByteArray).toList = s.toList) := by rw [toList_same]; exact hE
          have HE := hid hEq
          obtain ⟨vo, vc, hvv, _⟩ := HO3.out.rd
          subst hvv
          generalize (⟨(textL l).toArray⟩ : ByteArray) = q at hEq ⊢
          go_wp2
          go_ret2
          exact ⟨⟨_, l, true, by simp, HO3.out, HN.out⟩, c3⟩
        · have HN : Hid (ReadR s.data.toList [] false) := hidT (Or.inr ⟨rfl, rfl, fun m h1 h2 => by exact (hE (by rw [(HM.out m h1 h2).2]; exact h2)).elim⟩)
          have hEq : (((⟨(textL l).toArray⟩ : ByteArray).toList == s.toList)) = false := by rw [beq_eq_false_iff_ne, ne_eq, toList_same]; exact hE
          generalize (⟨(textL l).toArray⟩ : ByteArray) = q at hEq ⊢
          clear hE
          go_wp2
          go_ret2
          exact ⟨⟨_, [], false, by simp, World.ownsRow_nil _ _ _ _, HN.out⟩, c3⟩
  · have HN : Hid (ReadR s.data.toList [] false) := hidT (Or.inr ⟨rfl, rfl, fun m h1 h2 => by omega⟩)
    have h2 : 200 < s.size := by omega
    clear h200
    go_enter Tryz.func11, Tryz.ntmps11
    go_wp2
    go_ret2
    exact ⟨⟨_, [], false, by simp, World.ownsRow_nil _ _ _ _, HN.out⟩, Below.refl _ _⟩
end Go.Proofs.YtdjonplcgmfmgaaGreatDoor
