/- The draw of a list, somebody and a time: contract. -/
import Derived.Test.YtdcendbfkjmfjaaLl
namespace Go.Proofs.Ytdcendbfkjmfjaa
open Go.RowKit

theorem nums_seven (w : World) (a b c d e f k : Int) : Nums (w.alloc (.cells #[.int .i64 a, .int .i64 b, .int .i64 c, .int .i64 d, .int .i64 e, .int .i64 f, .int .i64 k] 3)) w.heap.size 7 (fun _ => True) := by
  refine ⟨by simp, fun i hi => ?_⟩
  rcases i with _ | _ | _ | _ | _ | _ | _ | i
  · exact ⟨a, by go_cell, trivial⟩
  · exact ⟨b, by go_cell, trivial⟩
  · exact ⟨c, by go_cell, trivial⟩
  · exact ⟨d, by go_cell, trivial⟩
  · exact ⟨e, by go_cell, trivial⟩
  · exact ⟨f, by go_cell, trivial⟩
  · exact ⟨k, by go_cell, trivial⟩
  · omega

set_option maxHeartbeats 1000000 in
theorem drawEdgeAdd_any (v : Value) (n : Nat) (w : World) (h : Bs w v n) :
    Calls Try.prog 7 #[v] w fun e w' => ∃ u l who at', e = .returned (.tuple #[u, .int .i64 who, .int .i64 at']) ∧ Own w' w.heap.size u l ∧ l.length ≤ 7 ∧ Below w.heap.size w w' := by
  obtain ⟨ao, cap, rfl, h0, h1, h2, h3⟩ := h
  go_enter Try.func7, Try.ntmps7
  go_wp2_with fail
  refine (open_any ao n cap _ h0 h1 h2 h3).mono ?_
  rintro e w1 ⟨g, rfl, R1, b1⟩
  go_wp2_with fail
  refine (l1List_any g 0 w.heap.size _ R1 (by omega)).mono ?_
  rintro e w2 ⟨u, l, q, rfl, L, hl, _, hq⟩
  have b2 : Below w.heap.size w w2 := b1.grown L.2.2.1 b1.size (fun k e => by cases e; exact R1.1)
  have HL := hid L
  clear L
  go_wp2_with fail
  have hlt2 := Nat.lt_of_lt_of_le HL.out.2.2.2 HL.out.2.2.1.size
  have hA := hid (HL.out.below (w' := w2.alloc (.cells #[.int .i64 0, .int .i64 1, .int .i64 3, .int .i64 5, .int .i64 7, .int .i64 8, .int .i64 (-1)] 3)) (by go_grown))
  refine (num_any g q w2.heap.size 7 7 w.heap.size _ _ hA.out.2.1 (by omega) (by omega) (by omega) (by omega) (nums_seven w2 0 1 3 5 7 8 (-1))).mono ?_
  rintro e w3 ⟨who, rfl, _, R3, g3⟩
  have L3 := hid (hA.out.kept R3 g3)
  have b3 : Below w.heap.size w w3 := (b2.trans (((Below.refl _ w2).alloc (Nat.le_refl _) _).mono b2.size)).grown g3 (by have := b2.size; simp; omega) (fun k e => by cases e; exact R1.1)
  clear R3 g3 HL hA
  go_wp2_with fail
  have hlt3 := Nat.lt_of_lt_of_le L3.out.2.2.2 L3.out.2.2.1.size
  have hA := hid (L3.out.below (w' := w3.alloc (.cells #[.int .i64 0, .int .i64 1, .int .i64 2, .int .i64 5, .int .i64 1000, .int .i64 1001, .int .i64 (-1)] 3)) (by go_grown))
  refine (num_any g (q + 1) w3.heap.size 7 7 w.heap.size _ _ hA.out.2.1 (by omega) (by omega) (by omega) (by omega) (nums_seven w3 0 1 2 5 1000 1001 (-1))).mono ?_
  rintro e w4 ⟨at', rfl, _, R4, g4⟩
  have L4 := hid (hA.out.kept R4 g4)
  have b4 : Below w.heap.size w w4 := (b3.trans (((Below.refl _ w3).alloc (Nat.le_refl _) _).mono b3.size)).grown g4 (by have := b3.size; simp; omega) (fun k e => by cases e; exact R1.1)
  clear R4 g4 L3 hA
  go_wp2
  go_ret3
  exact ⟨u, l, who, at', by simp, L4.out.1.mono b1.size, hl, b4⟩
end Go.Proofs.Ytdcendbfkjmfjaa
