/- spec.GraphOpen as rows of its own: contract. -/
import Derived.Test.YtkmhnjgncnoddaaGreatBf
import Derived.Test.YtkmhnjgncnoddaaGreatGy
namespace Go.Proofs.YtkmhnjgncnoddaaGreat
open Go.RowKit
attribute [local go_sem ↓] Go.wp_at_zero Go.wp_at_succ

theorem made_get2 (z : Array Value) (n i : Nat) (h : i < n) : (madeCells z n).toList[i]? = some (z[i % z.size]!) := by simp [madeCells, h]
set_option maxRecDepth 100000 in
set_option maxHeartbeats 1000000 in
theorem specGOpenR_any (w : World) : Calls Tryz.prog 94 #[] w fun e w' => (∃ g xs, e = .returned (.agg #[.slice (some ⟨g, 0, none⟩) 24 24]) ∧ RowN w' w.heap.size (.slice (some ⟨g, 0, none⟩) 24 24) zeroG 24 xs) ∧ Below w.heap.size w w' := by
  obtain ⟨i0, hi, hz0, hz1, hz2⟩ := info_parts Tryz.info38
  have hby : i0.bytes * 24 ≤ 281474976710656 := by rw [hz2]; omega
  go_enter Tryz.func94, Tryz.ntmps94
  go_wp2_with (first | (at_make; refine wpList_make_full _ rfl (.const (.int .i64 24)) (.const (.int .i64 24)) 23 rfl (w.heap.size + 1) 38 i0 _ 2 Tryz.underlying23 hi hz0 hz1 .i64 .i64 _ _ 24 rfl rfl rfl rfl hby (by decide) (by simp) ?_; intro w1 hown hgrow; have r0 := hgrow.cell (show (w.alloc (.cells #[.slice none 0 0] 25)).cell? ⟨w.heap.size, 0, none⟩ = some (.slice none 0 0) by go_cell) (by simp); have r1 : w1.frozen? ⟨w.heap.size, 0, none⟩ = false := (World.frozen?_of_block (w := w.alloc (.cells #[.slice none 0 0] 25)) (a := ⟨w.heap.size, 0, none⟩) (hgrow.block w.heap.size (by simp) (by simp))).trans (by (first | go_cell | (simp [World.frozen?, World.alloc]; done) | rfl))))
  rw [World.size_alloc] at hown
  have hb1 : Below w.heap.size w w1 := ((Below.refl _ w).alloc (Nat.le_refl _) _).grown hgrow (by simp) (by simp)
  have z0 : (w1.setCell ⟨w.heap.size, 0, none⟩ (.slice (some ⟨w.heap.size + 1, 0, none⟩) 24 24)).cell? ⟨w.heap.size, 0, none⟩ = some (.slice (some ⟨w.heap.size + 1, 0, none⟩) 24 24) := by go_cell
  refine bodyPost_ret (v := .agg #[.slice (some ⟨w.heap.size + 1, 0, none⟩) 24 24]) (by simp [results, Tryz.results94, go_sem, z0]) rfl ⟨⟨w.heap.size + 1, _, rfl, RowN.mono (RowN.set (p := ⟨w.heap.size, 0, none⟩) ⟨hown, fun i hi => ?_, ?_⟩ (by show w.heap.size < w.heap.size + 1; omega) _) (by omega)⟩, hb1.setCell (p := ⟨w.heap.size, 0, none⟩) (Nat.le_refl _) _⟩
  rotate_left
  · intro i j hi hj _ ui uj h1 _ b hb
    rw [made_get2 _ _ _ (by omega)] at h1
    have h2 : some ((#[Value.int .i64 0, Value.slice none 0 0] : Array Value)[(i * 2 + 1) % 2]!) = some ui := h1
    rw [show (i * 2 + 1) % 2 = 1 from by omega] at h2
    have h3 : ui = .slice none 0 0 := (Option.some.inj h2).symm
    rw [h3] at hb
    cases hb
  rw [zeroG_get, made_get2 _ _ _ (by omega), made_get2 _ _ _ (by omega)]
  show some ((#[Value.int .i64 0, Value.slice none 0 0] : Array Value)[(i * 2) % 2]!) = _ ∧ ∃ u, some ((#[Value.int .i64 0, Value.slice none 0 0] : Array Value)[(i * 2 + 1) % 2]!) = some u ∧ _
  rw [show (i * 2) % 2 = 0 from by omega, show (i * 2 + 1) % 2 = 1 from by omega]
  exact ⟨rfl, _, rfl, World.ownsRow_nil _ _ _ _⟩
end Go.Proofs.YtkmhnjgncnoddaaGreat
