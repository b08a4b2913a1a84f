/- The draws of a key: contracts. -/
import Derived.Test.YtiplklcabcpccaaGreatDoorNm
import Derived.Test.YtiplklcabcpccaaGreatDoorDk
namespace Go.Proofs.YtiplklcabcpccaaGreatDoor
open Go.RowKit

set_option maxRecDepth 100000 in
set_option maxHeartbeats 1000000 in
theorem l2Key_any (g p B : Nat) (w : World) (h : Rdr w B g p) (hp : p ≤ 100000000000) :
    Calls Tryz.prog 25 #[.pointer (some ⟨g, 0, none⟩)] w fun e w' => ∃ k : Int, e = .returned (.int .i64 k) ∧ (-1 ≤ k ∧ k ≤ 100) ∧ (∃ q, p ≤ q ∧ q ≤ p + 2 ∧ Rdr w' B g q) ∧ w.grownBy w' (some g) := by
  go_enter Tryz.func25, Tryz.ntmps25
  go_wp2_with fail
  refine (pick_any g p 16 B _ h (by omega) (by omega)).mono ?_
  rintro e w1 ⟨r, rfl, r0, r1, R1, g1⟩
  clear r1
  by_cases hr : r = 0
  · subst hr
    go_wp2_with fail
    have hN : Nums (w1.alloc (.cells #[.int .i64 (-1), .int .i64 24, .int .i64 100] 3)) w1.heap.size 3 (fun z => -1 ≤ z ∧ z ≤ 100) := by
      refine ⟨by simp, fun i hi => ?_⟩
      rcases i with _ | _ | _ | i
      · exact ⟨-1, by go_cell, by omega⟩
      · exact ⟨24, by go_cell, by omega⟩
      · exact ⟨100, by go_cell, by omega⟩
      · omega
    have hg1 := R1.2.1
    refine (num_any g (p + 1) w1.heap.size 3 3 B (fun z => -1 ≤ z ∧ z ≤ 100) _ (R1.later (by go_grown)) (by omega) (by omega) (by omega) (by omega) hN).mono ?_
    rintro e w2 ⟨k, rfl, hk, R2, g2⟩
    have g3 := grown_trans g1 (grown_trans (World.grownBy_alloc w1 _ (some g)) g2)
    clear hN g1 g2
    go_wp2
    go_ret
    exact ⟨k, by simp, hk, ⟨p + 2, by omega, by omega, R2⟩, g3⟩
  · have hr' : (r == 0) = false := by simpa using hr
    go_wp2_with fail
    refine (pick_any g (p + 1) 24 B _ R1 (by omega) (by omega)).mono ?_
    rintro e w2 ⟨k, rfl, k0, k1, R2, g2⟩
    have k2 := k1 (by omega)
    clear k1
    go_wp2
    go_ret
    exact ⟨k, by simp, by omega, ⟨p + 2, by omega, by omega, R2⟩, grown_trans g1 g2⟩

end Go.Proofs.YtiplklcabcpccaaGreatDoor
