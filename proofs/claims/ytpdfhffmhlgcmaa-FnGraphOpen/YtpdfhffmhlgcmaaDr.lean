/- spec.l1Drop, spec.EdgeDrop, impl.EdgeDrop: contracts. -/
import Derived.Test.YtpdfhffmhlgcmaaOkS
import Derived.Test.YtpdfhffmhlgcmaaOkI
import Derived.Test.YtpdfhffmhlgcmaaWo
namespace Go.Proofs.Ytpdfhffmhlgcmaa
open Go.RowKit

/-- What EdgeDrop answers. -/
def dropL (l : List (Int × Int)) (who : Int) : List (Int × Int) := if okL l = true then l.filter (notWho who) else []
def dropB (l : List (Int × Int)) (who : Int) : Bool := okL l && decide ((l.filter (notWho who)).length < l.length)

theorem dropL_length (l : List (Int × Int)) (who : Int) : (dropL l who).length ≤ l.length := by
  unfold dropL
  split
  · exact List.length_filter_le _ _
  · simp


set_option maxRecDepth 100000 in
set_option maxHeartbeats 1000000 in
theorem implDrop_any (v : Value) (l : List (Int × Int)) (who : Int) (w : World) (h : Rd w v l) (hll : l.length ≤ 1099511627776) :
    Calls Try.prog 95 #[v, .int .i64 who] w fun e w' => ∃ v', e = .returned (.tuple #[v', .bool (dropB l who)]) ∧ Own w' w.heap.size v' (dropL l who) ∧ Below w.heap.size w w' := by
  obtain ⟨ao, cap, hv, hml, _⟩ := id h
  subst hv
  unfold maxLen at hml
  cases hok : okL l with
  | true =>
    have e1 : dropL l who = l.filter (notWho who) := by simp [dropL, hok]
    have e2 : dropB l who = decide ((l.filter (notWho who)).length < l.length) := by simp [dropB, hok]
    rw [e1, e2]
    clear e1 e2
    go_enter Try.func95, Try.ntmps95
    go_wp2_with fail
    refine (implOk_any _ l _ h).mono ?_
    rintro e w1 ⟨rfl, b1⟩
    rw [hok]
    go_wp2_with fail
    refine (without_any _ l who _ (h.later b1) hll).mono ?_
    rintro e w2 ⟨v', rfl, own, b2⟩
    have HO := hid own
    rcases own.2 with ⟨hvv, hn⟩ | ⟨g, cp, cur, hvv, _⟩
    · subst hvv
      have HN := hid hn
      clear hn own
      go_wp2
      go_ret2
      exact ⟨_, by rw [HN.out]; simp, HO.out.mono b1.size, b1.trans (b2.mono b1.size)⟩
    · subst hvv
      clear own
      go_wp2
      go_ret2
      exact ⟨_, by simp, HO.out.mono b1.size, b1.trans (b2.mono b1.size)⟩
  | false =>
    have e1 : dropL l who = [] := by simp [dropL, hok]
    have e2 : dropB l who = false := by simp [dropB, hok]
    rw [e1, e2]
    clear e1 e2
    go_enter Try.func95, Try.ntmps95
    go_wp2_with fail
    refine (implOk_any _ l _ h).mono ?_
    rintro e w1 ⟨rfl, b1⟩
    rw [hok]
    go_wp2
    go_ret2
    exact ⟨_, by simp, World.ownsRow_nil _ _ _ _, b1⟩
end Go.Proofs.Ytpdfhffmhlgcmaa
