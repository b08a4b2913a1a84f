/- spec.l1Drop, spec.EdgeDrop, impl.EdgeDrop: contracts. -/
import Derived.Test.YtdjonplcgmfmgaaGreatDoorOkS
import Derived.Test.YtdjonplcgmfmgaaGreatDoorOkI
import Derived.Test.YtdjonplcgmfmgaaGreatDoorWo
namespace Go.Proofs.YtdjonplcgmfmgaaGreatDoor
open Go.RowKit

/-- What EdgeDrop answers. -/
def dropL (l : List (Int × Int)) (who : Int) : List (Int × Int) := if okL l = true then l.filter (notWho who) else []
def dropB (l : List (Int × Int)) (who : Int) : Bool := okL l && decide ((l.filter (notWho who)).length < l.length)

theorem dropL_length (l : List (Int × Int)) (who : Int) : (dropL l who).length ≤ l.length := by
  unfold dropL
  split
  · exact List.length_filter_le _ _
  · simp

set_option maxRecDepth 100000 in
set_option maxHeartbeats 2000000 in
theorem l1Drop_any (v : Value) (l : List (Int × Int)) (who : Int) (w : World) (h : Rd w v l) (hll : l.length ≤ 1099511627776) :
    Calls Tryz.prog 70 #[v, .int .i64 who] w fun e w' => ∃ v', e = .returned (.tuple #[v', .bool (decide ((l.filter (notWho who)).length < l.length))]) ∧ Own w' w.heap.size v' (l.filter (notWho who)) ∧ (∃ g cp, v' = .slice (some ⟨g, 0, none⟩) (l.filter (notWho who)).length cp) ∧ Below w.heap.size w w' := by
  obtain ⟨ao, cap, rfl, _, hc⟩ := h
  obtain ⟨i0, hi, hz0, hz1, hz2⟩ := info_parts Tryz.info53
  go_enter Tryz.func70, Tryz.ntmps70
  go_wp2
  go_loopw [6, 7] (fun u i wr => ∃ k : Nat, k ≤ l.length ∧ i = .int .i64 k ∧ wr.ownsRow w.heap.size 53 2 u ((l.take k).filter (notWho who)).length (ecells ((l.take k).filter (notWho who))) ∧ (∃ g cp, u = .slice (some ⟨g, 0, none⟩) ((l.take k).filter (notWho who)).length cp) ∧ Below w.heap.size w wr) (fun _ i _ => l.length - (intOf i).toNat)
  case atStart => exact ⟨0, Nat.zero_le _, rfl, World.ownsRow_lit w #[] 0 (Nat.le_refl _) (Nat.zero_le _) rfl, ⟨_, _, rfl⟩, by go_grown⟩
  case round =>
    obtain ⟨k, hk, rfl, hrow, ⟨gu, cu, rfl⟩, hbel⟩ := hrel
    have hsz := hbel.size
    by_cases hlt : k < l.length
    · obtain ⟨b, o, rfl, hb, hcc⟩ := hc (by omega)
      obtain ⟨c0, c1⟩ := hcc k hlt
      rw [← hbel.cell (p := ⟨b, o + k * 2, none⟩) hb] at c0
      rw [← hbel.cell (p := ⟨b, o + k * 2 + 1, none⟩) hb] at c1
      have HM := hid (filter_more l (notWho who) k hlt)
      have hfl := filter_take_lt l (notWho who) k hlt
      clear hcc hc
      by_cases he : (l.getD k (0, 0)).1 = who
      · have HN : Hid ((l.take (k + 1)).filter (notWho who) = (l.take k).filter (notWho who)) := by
          have := HM.out
          rw [if_neg (by unfold notWho; rw [he]; simp)] at this
          exact this
        rw [he] at c0
        clear he HM
        generalize l.getD k (0, 0) = x at *
        go_wp2
        go_roundw
        case rel => exact ⟨k + 1, by omega, by go_num, by rw [HN.out]; exact hrow, ⟨gu, cu, by rw [HN.out]⟩, hbel⟩
        case measure => simp [intOf]; omega
      · have HN : Hid ((l.take (k + 1)).filter (notWho who) = (l.take k).filter (notWho who) ++ [l.getD k (0, 0)]) := by
          have := HM.out
          rw [if_pos (by unfold notWho; exact bne_iff_ne.2 he)] at this
          exact this
        have hne : ((l.getD k (0, 0)).1 == who) = false := beq_eq_false_iff_ne.2 he
        have hk1 : ((l.take k).filter (notWho who)).length + 1 ≤ maxLen := by unfold maxLen; omega
        have hk2 : (((l.take k).filter (notWho who)).length + 1) * 16 ≤ 140737488355328 := by omega
        clear he HM
        generalize l.getD k (0, 0) = x at *
        have hbs : w.heap.size ≤ (wr.alloc (.cells #[.int .i64 x.1, .int .i64 x.2] 53)).heap.size := by simp; omega
        go_wp2_with (first | (at_builtin; refine wpList_append_own _ rfl _ _ 23 rfl w.heap.size 53 i0 (.agg #[.int .i64 0, .int .i64 0]) 2 16 Tryz.underlying23 hi hz0 hz1 hz2 rfl (by decide) _ _ _ rfl (hrow.alloc _) ⟨wr.heap.size, 0, none⟩ 1 1 [.int .i64 x.1, .int .i64 x.2] rfl rfl (cells_two_new _ _ _ _) (by simp [Value.oneCell']) hk1 hk2 hbs ?_; intro v' w1 hown' hgrow' _; obtain ⟨g', cap', rfl⟩ := ownsRow_succ hown'))
        go_roundw
        case rel => exact ⟨k + 1, by omega, by go_num, by rw [HN.out, ecells_append]; simpa [ecells] using hown', ⟨g', cap', by rw [HN.out]; simp⟩, (hbel.trans (((Below.refl _ wr).alloc (Nat.le_refl _) _).mono hsz)).grown hgrow' hbs (fun j ej => (hrow.lt j ej).1)⟩
        case measure => simp [intOf]; omega
    · obtain rfl : k = l.length := by omega
      rw [List.take_length] at hrow
      have HR := hid hrow
      clear hrow
      rw [List.take_length]
      go_wp2
      go_ret2
      exact ⟨_, by simp, HR.out, ⟨gu, cu, rfl⟩, hbel⟩


end Go.Proofs.YtdjonplcgmfmgaaGreatDoor
