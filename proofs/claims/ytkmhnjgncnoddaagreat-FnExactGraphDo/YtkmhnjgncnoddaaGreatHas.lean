/- spec.EdgeHas and impl.EdgeHas: contracts. -/
import Derived.Test.YtkmhnjgncnoddaaGreatHasP
namespace Go.Proofs.YtkmhnjgncnoddaaGreat
open Go.RowKit

set_option maxHeartbeats 1000000 in
theorem specHas_any (v : Value) (l : List (Int × Int)) (who : Int) (w : World) (h : Rd w v l) :
    Calls Tryz.prog 108 #[v, .int .i64 who] w fun e w' => e = .returned (.tuple #[.int .i64 (hasL l who).1, .bool (hasL l who).2]) ∧ w' = w := by
  obtain ⟨ao, cap, rfl, hl, hc⟩ := h
  unfold maxLen at hl
  go_enter Tryz.func108, Tryz.ntmps108
  go_wp2
  go_loop [6] (fun i => ∃ k : Nat, k ≤ l.length ∧ i = .int .i64 k ∧ Hid (∀ i, i < k → (l.getD i (0, 0)).1 ≠ who)) (fun i => l.length - (intOf i).toNat)
  case atStart => exact ⟨0, Nat.zero_le _, rfl, fun i hi => absurd hi (Nat.not_lt_zero _)⟩
  case round =>
    obtain ⟨k, hk, rfl, hno⟩ := hrel
    by_cases hlt : k < l.length
    · obtain ⟨b, o, rfl, hb, hcc⟩ := hc (by omega)
      obtain ⟨c0, c1⟩ := hcc k hlt
      clear hcc hc
      by_cases he : (l.getD k (0, 0)).1 = who
      · have hval : Hid (hasL l who = ((l.getD k (0, 0)).2, true)) := hasL_hit hno hlt he
        rw [he] at c0
        clear he
        generalize l.getD k (0, 0) = x at *
        go_wp2
        go_ret2
        exact ⟨by rw [hval.out]; simp, rfl⟩
      · have hnext : Hid (∀ i, i < k + 1 → (l.getD i (0, 0)).1 ≠ who) := fun i hi => by
          by_cases e : i = k
          · rw [e]; exact he
          · exact hno i (by omega)
        have hb' : ((l.getD k (0, 0)).1 == who) = false := beq_eq_false_iff_ne.2 he
        clear he
        generalize l.getD k (0, 0) = x at *
        go_wp2
        go_round
        case rel => exact ⟨k + 1, by omega, by go_num, hnext⟩
        case measure => simp [intOf]; omega
    · have hval : Hid (hasL l who = (0, false)) := hasL_miss (fun i hi => hno i (by omega))
      go_wp2
      go_ret2
      exact ⟨by rw [hval.out]; simp, rfl⟩

end Go.Proofs.YtkmhnjgncnoddaaGreat
