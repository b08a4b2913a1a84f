/- impl.edgesThat, impl.edgesWithout, impl.EdgeDrop: contracts. -/
import Derived.Test.YtpdfhffmhlgcmaaIt
import Derived.Test.YtpdfhffmhlgcmaaGa
namespace Go.Proofs.Ytpdfhffmhlgcmaa
open Go.RowKit Go.Shelf

set_option maxHeartbeats 400000 in
theorem that_any (ao : Option Addr) (n cap g : Nat) (lb : Array Value) (w : World) :
    Calls Try.prog 48 #[.slice ao n cap, .func (.func g) #[] lb] w fun e w' => e = .returned (.func (.func 55) #[] #[.pointer (some ⟨w.heap.size, 0, none⟩), .pointer (some ⟨w.heap.size + 1, 0, none⟩)]) ∧
      w' = (w.alloc (.cells #[.slice ao n cap] 35)).alloc (.cells #[.func (.func g) #[] lb] 94) := by
  go_enter Try.func48, Try.ntmps48
  go_wp2
  go_ret
  exact ⟨by simp, rfl⟩

set_option maxHeartbeats 1000000 in
theorem without_any (v : Value) (l : List (Int × Int)) (who : Int) (w : World) (h : Rd w v l) (hl : l.length ≤ 1099511627776) :
    Calls Try.prog 41 #[v, .int .i64 who] w fun e w' => ∃ v', e = .returned v' ∧ Own w' w.heap.size v' (l.filter (notWho who)) ∧ Below w.heap.size w w' := by
  have H : Hid (Rd w v l) := h
  obtain ⟨ao, cap, hv, _, _⟩ := h
  subst hv
  go_enter Try.func41, Try.ntmps41
  go_wp2_with fail
  refine (that_any ao l.length cap _ _ _).mono ?_
  rintro e w3 ⟨rfl, hw3⟩
  have hB : Below w.heap.size w w3 := by rw [hw3]; go_grown
  have s3 : w3.heap.size = w.heap.size + 3 := by rw [hw3]; simp
  have z1 : w3.cell? ⟨w.heap.size + 1, 0, none⟩ = some (.slice ao l.length cap) := by rw [hw3]; simp [go_sem]
  have z2 : w3.cell? ⟨w.heap.size + 1 + 1, 0, none⟩ = some (.func (.func 49) #[] #[.pointer (some ⟨w.heap.size, 0, none⟩)]) := by rw [hw3]; simp [go_sem]
  have z3 : w3.cell? ⟨w.heap.size, 0, none⟩ = some (.int .i64 who) := by rw [hw3]; simp [go_sem]
  clear hw3
  have H3 : Hid (Rd w3 (.slice ao l.length cap) l) := Rd.later H.out hB
  go_wp2_with fail
  refine (gather_any 55 #[.pointer (some ⟨w.heap.size + 1, 0, none⟩), .pointer (some ⟨w.heap.size + 1 + 1, 0, none⟩)] (l.filter (notWho who)) l.length hl (List.length_filter_le _ _) w3 (enters_of Try.func55 (by kernel_rfl) rfl)
    (that1W_stops 2 (by omega) _ _ _ _ l who w3 H3.out z1 z2 z3)).mono ?_
  rintro e w4 ⟨v', rfl, hown, hb4⟩
  go_wp2
  go_ret
  exact ⟨v', by simp, hown.mono (by omega), hB.trans (hb4.mono (by omega))⟩
end Go.Proofs.Ytpdfhffmhlgcmaa
