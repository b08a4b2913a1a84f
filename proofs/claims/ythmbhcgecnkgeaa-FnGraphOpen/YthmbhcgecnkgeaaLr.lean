/- The draw of a write alone: contract. -/
import Derived.Test.YthmbhcgecnkgeaaLq
namespace Go.Proofs.Ythmbhcgecnkgeaa
open Go.RowKit
attribute [local go_sem ↓] Go.wp_at_zero Go.wp_at_succ

set_option maxRecDepth 100000 in
set_option maxHeartbeats 1000000 in
theorem drawOpOk_any (v : Value) (n : Nat) (w : World) (h : Bs w v n) :
    Calls Try.prog 20 #[v] w fun e w' => ∃ k a c z, e = .returned (.agg #[.int .i64 k, .int .i64 a, .int .i64 c, .int .i64 z]) ∧ OpB k a c z ∧ Below w.heap.size w w' := by
  have hA1 := hid (V4.new w 0 0 0 0)
  have hW0 := hid (show Below w.heap.size w (w.alloc (.cells #[.int .i64 0, .int .i64 0, .int .i64 0, .int .i64 0] 24)) from by go_grown)
  have hWs : w.heap.size < (w.alloc (.cells #[.int .i64 0, .int .i64 0, .int .i64 0, .int .i64 0] 24)).heap.size := by simp
  have hbs := hid (h.later hW0.out)
  obtain ⟨ao, cap, rfl, h0, h1, h2, h3⟩ := h
  go_enter Try.func20, Try.ntmps20
  go_wp2_with fail
  generalize w.alloc (.cells #[.int .i64 0, .int .i64 0, .int .i64 0, .int .i64 0] 24) = W at hA1 hW0 hWs hbs ⊢
  obtain ⟨ao', cap', hv', _, _, _, h3'⟩ := hbs.out
  cases hv'
  refine (open_any ao n cap _ h0 h1 h2 h3').mono ?_
  rintro e w1 ⟨g, rfl, R1, b1⟩
  have hne : w.heap.size ≠ g := by have := R1.1; omega
  have hA := hid (hA1.out.below b1)
  have c1 := hW0.out.trans (b1.mono hW0.out.size)
  have HR1 := hid R1
  clear b1
  go_wp2_with fail
  refine (l3Op_any g 0 _ _ HR1.out (by omega)).mono ?_
  rintro e w2 ⟨k, a, c, z, q, rfl, hB, hq, R2, g2⟩
  have hC := hid (hA.out.kept g2 hne)
  have hB := hid hB
  have c2 : Below w.heap.size w w2 := c1.grown g2 c1.size (fun j e => by have : g = j := Option.some.inj e; have := R1.1; omega)
  have k0 := hC.out.c0
  have k1 := hC.out.c1
  have k2 := hC.out.c2
  have k3 := hC.out.c3
  have j0 := hC.out.fr 0
  have j1 := hC.out.fr 1
  have j2 := hC.out.fr 2
  have j3 := hC.out.fr 3
  clear hA HR1 g2 R2
  have e0 : ((((w2.setCell ⟨w.heap.size, 0, none⟩ (.int .i64 k)).setCell ⟨w.heap.size, 1, none⟩ (.int .i64 a)).setCell ⟨w.heap.size, 2, none⟩ (.int .i64 c)).setCell ⟨w.heap.size, 3, none⟩ (.int .i64 z)).cell? ⟨w.heap.size, 0, none⟩ = some (.int .i64 k) := by go_cell
  have e1 : ((((w2.setCell ⟨w.heap.size, 0, none⟩ (.int .i64 k)).setCell ⟨w.heap.size, 1, none⟩ (.int .i64 a)).setCell ⟨w.heap.size, 2, none⟩ (.int .i64 c)).setCell ⟨w.heap.size, 3, none⟩ (.int .i64 z)).cell? ⟨w.heap.size, 1, none⟩ = some (.int .i64 a) := by go_cell
  have e2 : ((((w2.setCell ⟨w.heap.size, 0, none⟩ (.int .i64 k)).setCell ⟨w.heap.size, 1, none⟩ (.int .i64 a)).setCell ⟨w.heap.size, 2, none⟩ (.int .i64 c)).setCell ⟨w.heap.size, 3, none⟩ (.int .i64 z)).cell? ⟨w.heap.size, 2, none⟩ = some (.int .i64 c) := by go_cell
  have e3 : ((((w2.setCell ⟨w.heap.size, 0, none⟩ (.int .i64 k)).setCell ⟨w.heap.size, 1, none⟩ (.int .i64 a)).setCell ⟨w.heap.size, 2, none⟩ (.int .i64 c)).setCell ⟨w.heap.size, 3, none⟩ (.int .i64 z)).cell? ⟨w.heap.size, 3, none⟩ = some (.int .i64 z) := by go_cell
  have HL := hid ((((c2.setCell (p := ⟨w.heap.size, 0, none⟩) (Nat.le_refl _) (.int .i64 k)).setCell (p := ⟨w.heap.size, 1, none⟩) (Nat.le_refl _) (.int .i64 a)).setCell (p := ⟨w.heap.size, 2, none⟩) (Nat.le_refl _) (.int .i64 c)).setCell (p := ⟨w.heap.size, 3, none⟩) (Nat.le_refl _) (.int .i64 z))
  go_wp2
  refine bodyPost_ret (v := .agg #[.int .i64 k, .int .i64 a, .int .i64 c, .int .i64 z]) (by simp [results, Try.results20, go_sem, e0, e1, e2, e3]) rfl ⟨_, _, _, _, rfl, hB.out, HL.out⟩
end Go.Proofs.Ythmbhcgecnkgeaa
