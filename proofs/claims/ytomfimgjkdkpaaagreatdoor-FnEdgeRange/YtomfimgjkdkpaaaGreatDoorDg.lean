/- The draw of a list and two numbers: contract. -/
import Derived.Test.YtomfimgjkdkpaaaGreatDoorLl
namespace Go.Proofs.YtomfimgjkdkpaaaGreatDoor
open Go.RowKit

set_option maxHeartbeats 1000000 in
theorem drawEdgeRange_any (v : Value) (n : Nat) (w : World) (h : Bs w v n) :
    Calls Tryz.prog 5 #[v] w fun e w' => ∃ u l a b, e = .returned (.tuple #[u, .int .i64 a, .int .i64 b]) ∧ Own w' w.heap.size u l ∧ l.length ≤ 7 ∧ BdL l ∧ (-1 ≤ a ∧ a ≤ 6) ∧ (-1 ≤ b ∧ b ≤ 6) ∧ Below w.heap.size w w' := by
  obtain ⟨ao, cap, rfl, h0, h1, h2, h3⟩ := h
  go_enter Tryz.func5, Tryz.ntmps5
  go_wp2_with fail
  refine (open_any ao n cap _ h0 h1 h2 h3).mono ?_
  rintro e w1 ⟨g, rfl, R1, b1⟩
  go_wp2_with fail
  refine (l1List_any g 0 w.heap.size _ R1 (by omega)).mono ?_
  rintro e w2 ⟨u, l, q, rfl, L, hl, _, hq, hbd⟩
  have b2 : Below w.heap.size w w2 := b1.grown L.2.2.1 b1.size (fun k e => by cases e; exact R1.1)
  have HL := hid L
  have HB := hid hbd
  clear L hbd
  go_wp2_with fail
  refine (pick_any g q 8 w.heap.size _ HL.out.2.1 (by omega) (by omega)).mono ?_
  rintro e w3 ⟨a, rfl, ha0, ha1, R3, g3⟩
  have ha := ha1 (by omega)
  have L3 := hid (HL.out.kept R3 g3)
  have b3 : Below w.heap.size w w3 := b2.grown g3 b2.size (fun k e => by cases e; exact R1.1)
  clear R3 g3 HL ha1
  go_wp2_with fail
  refine (pick_any g (q + 1) 8 w.heap.size _ L3.out.2.1 (by omega) (by omega)).mono ?_
  rintro e w4 ⟨b, rfl, hb0, hb1, R4, g4⟩
  have hb := hb1 (by omega)
  have L4 := hid (L3.out.kept R4 g4)
  have b4 : Below w.heap.size w w4 := b3.grown g4 b3.size (fun k e => by cases e; exact R1.1)
  clear R4 g4 L3 hb1
  go_wp2
  go_ret3
  exact ⟨u, l, a - 1, b - 1, by simp, L4.out.1.mono b1.size, hl, HB.out, by omega, by omega, b4⟩
end Go.Proofs.YtomfimgjkdkpaaaGreatDoor
