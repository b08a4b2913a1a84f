/- The law FnExactTierOpen: its helpers and its walk. Written by a program (gtop.py). -/
import Derived.Test.YtddpoheoecafjaaLawCOpen
import Derived.Test.YtddpoheoecafjaaSTier
namespace Go.Proofs.Ytddpoheoecafjaa
open Go.RowKit
attribute [local go_sem ↓] Go.wp_at_zero Go.wp_at_succ

set_option maxRecDepth 100000 in
set_option maxHeartbeats 4000000 in
theorem specTOpen_in (n0 : Int) (h0 : 0 ≤ n0) (h1 : n0 < 2) (w : World) : Calls Try.prog 4 #[.int .i64 n0] w fun e w' => (∃ g, e = .returned (.agg #[.int .i64 n0, .int .i64 0, .int .i64 0, .bool false, .bool false, .bool false, .bool false, .int .i64 0, .int .i64 0, .int .i64 0, .int .i64 0, .int .i64 0, .slice none 0 0, .slice (some ⟨g, 0, none⟩) 24 24]) ∧ w.heap.size ≤ g ∧ g < w'.heap.size ∧ RowN w' g 0 (fun _ => 0)) ∧ Below w.heap.size w w' := by
  have n1 : ¬ n0 < 0 := by omega
  have n2 : ¬ n0 ≥ 2 := by omega
  clear h0 h1
  go_enter Try.func4, Try.ntmps4
  go_wp2_with fail
  have r0_1 : (w.alloc (.cells #[.int .i64 0, .int .i64 0, .int .i64 0, .bool false, .bool false, .bool false, .bool false, .int .i64 0, .int .i64 0, .int .i64 0, .int .i64 0, .int .i64 0, .slice none 0 0, .slice none 0 0] 30)).cell? ⟨w.heap.size, 0, none⟩ = some (.int .i64 0) := by go_cell
  have rf0_1 : (w.alloc (.cells #[.int .i64 0, .int .i64 0, .int .i64 0, .bool false, .bool false, .bool false, .bool false, .int .i64 0, .int .i64 0, .int .i64 0, .int .i64 0, .int .i64 0, .slice none 0 0, .slice none 0 0] 30)).frozen? ⟨w.heap.size, 0, none⟩ = false := by (first | go_cell | (simp [World.frozen?, World.alloc]; done) | rfl)
  have r1_1 : (w.alloc (.cells #[.int .i64 0, .int .i64 0, .int .i64 0, .bool false, .bool false, .bool false, .bool false, .int .i64 0, .int .i64 0, .int .i64 0, .int .i64 0, .int .i64 0, .slice none 0 0, .slice none 0 0] 30)).cell? ⟨w.heap.size, 1, none⟩ = some (.int .i64 0) := by go_cell
  have rf1_1 : (w.alloc (.cells #[.int .i64 0, .int .i64 0, .int .i64 0, .bool false, .bool false, .bool false, .bool false, .int .i64 0, .int .i64 0, .int .i64 0, .int .i64 0, .int .i64 0, .slice none 0 0, .slice none 0 0] 30)).frozen? ⟨w.heap.size, 1, none⟩ = false := by (first | go_cell | (simp [World.frozen?, World.alloc]; done) | rfl)
  have r2_1 : (w.alloc (.cells #[.int .i64 0, .int .i64 0, .int .i64 0, .bool false, .bool false, .bool false, .bool false, .int .i64 0, .int .i64 0, .int .i64 0, .int .i64 0, .int .i64 0, .slice none 0 0, .slice none 0 0] 30)).cell? ⟨w.heap.size, 2, none⟩ = some (.int .i64 0) := by go_cell
  have rf2_1 : (w.alloc (.cells #[.int .i64 0, .int .i64 0, .int .i64 0, .bool false, .bool false, .bool false, .bool false, .int .i64 0, .int .i64 0, .int .i64 0, .int .i64 0, .int .i64 0, .slice none 0 0, .slice none 0 0] 30)).frozen? ⟨w.heap.size, 2, none⟩ = false := by (first | go_cell | (simp [World.frozen?, World.alloc]; done) | rfl)
  have r3_1 : (w.alloc (.cells #[.int .i64 0, .int .i64 0, .int .i64 0, .bool false, .bool false, .bool false, .bool false, .int .i64 0, .int .i64 0, .int .i64 0, .int .i64 0, .int .i64 0, .slice none 0 0, .slice none 0 0] 30)).cell? ⟨w.heap.size, 3, none⟩ = some (.bool false) := by go_cell
  have rf3_1 : (w.alloc (.cells #[.int .i64 0, .int .i64 0, .int .i64 0, .bool false, .bool false, .bool false, .bool false, .int .i64 0, .int .i64 0, .int .i64 0, .int .i64 0, .int .i64 0, .slice none 0 0, .slice none 0 0] 30)).frozen? ⟨w.heap.size, 3, none⟩ = false := by (first | go_cell | (simp [World.frozen?, World.alloc]; done) | rfl)
  have r4_1 : (w.alloc (.cells #[.int .i64 0, .int .i64 0, .int .i64 0, .bool false, .bool false, .bool false, .bool false, .int .i64 0, .int .i64 0, .int .i64 0, .int .i64 0, .int .i64 0, .slice none 0 0, .slice none 0 0] 30)).cell? ⟨w.heap.size, 4, none⟩ = some (.bool false) := by go_cell
  have rf4_1 : (w.alloc (.cells #[.int .i64 0, .int .i64 0, .int .i64 0, .bool false, .bool false, .bool false, .bool false, .int .i64 0, .int .i64 0, .int .i64 0, .int .i64 0, .int .i64 0, .slice none 0 0, .slice none 0 0] 30)).frozen? ⟨w.heap.size, 4, none⟩ = false := by (first | go_cell | (simp [World.frozen?, World.alloc]; done) | rfl)
  have r5_1 : (w.alloc (.cells #[.int .i64 0, .int .i64 0, .int .i64 0, .bool false, .bool false, .bool false, .bool false, .int .i64 0, .int .i64 0, .int .i64 0, .int .i64 0, .int .i64 0, .slice none 0 0, .slice none 0 0] 30)).cell? ⟨w.heap.size, 5, none⟩ = some (.bool false) := by go_cell
  have rf5_1 : (w.alloc (.cells #[.int .i64 0, .int .i64 0, .int .i64 0, .bool false, .bool false, .bool false, .bool false, .int .i64 0, .int .i64 0, .int .i64 0, .int .i64 0, .int .i64 0, .slice none 0 0, .slice none 0 0] 30)).frozen? ⟨w.heap.size, 5, none⟩ = false := by (first | go_cell | (simp [World.frozen?, World.alloc]; done) | rfl)
  have r6_1 : (w.alloc (.cells #[.int .i64 0, .int .i64 0, .int .i64 0, .bool false, .bool false, .bool false, .bool false, .int .i64 0, .int .i64 0, .int .i64 0, .int .i64 0, .int .i64 0, .slice none 0 0, .slice none 0 0] 30)).cell? ⟨w.heap.size, 6, none⟩ = some (.bool false) := by go_cell
  have rf6_1 : (w.alloc (.cells #[.int .i64 0, .int .i64 0, .int .i64 0, .bool false, .bool false, .bool false, .bool false, .int .i64 0, .int .i64 0, .int .i64 0, .int .i64 0, .int .i64 0, .slice none 0 0, .slice none 0 0] 30)).frozen? ⟨w.heap.size, 6, none⟩ = false := by (first | go_cell | (simp [World.frozen?, World.alloc]; done) | rfl)
  have r7_1 : (w.alloc (.cells #[.int .i64 0, .int .i64 0, .int .i64 0, .bool false, .bool false, .bool false, .bool false, .int .i64 0, .int .i64 0, .int .i64 0, .int .i64 0, .int .i64 0, .slice none 0 0, .slice none 0 0] 30)).cell? ⟨w.heap.size, 7, none⟩ = some (.int .i64 0) := by go_cell
  have rf7_1 : (w.alloc (.cells #[.int .i64 0, .int .i64 0, .int .i64 0, .bool false, .bool false, .bool false, .bool false, .int .i64 0, .int .i64 0, .int .i64 0, .int .i64 0, .int .i64 0, .slice none 0 0, .slice none 0 0] 30)).frozen? ⟨w.heap.size, 7, none⟩ = false := by (first | go_cell | (simp [World.frozen?, World.alloc]; done) | rfl)
  have r8_1 : (w.alloc (.cells #[.int .i64 0, .int .i64 0, .int .i64 0, .bool false, .bool false, .bool false, .bool false, .int .i64 0, .int .i64 0, .int .i64 0, .int .i64 0, .int .i64 0, .slice none 0 0, .slice none 0 0] 30)).cell? ⟨w.heap.size, 8, none⟩ = some (.int .i64 0) := by go_cell
  have rf8_1 : (w.alloc (.cells #[.int .i64 0, .int .i64 0, .int .i64 0, .bool false, .bool false, .bool false, .bool false, .int .i64 0, .int .i64 0, .int .i64 0, .int .i64 0, .int .i64 0, .slice none 0 0, .slice none 0 0] 30)).frozen? ⟨w.heap.size, 8, none⟩ = false := by (first | go_cell | (simp [World.frozen?, World.alloc]; done) | rfl)
  have r9_1 : (w.alloc (.cells #[.int .i64 0, .int .i64 0, .int .i64 0, .bool false, .bool false, .bool false, .bool false, .int .i64 0, .int .i64 0, .int .i64 0, .int .i64 0, .int .i64 0, .slice none 0 0, .slice none 0 0] 30)).cell? ⟨w.heap.size, 9, none⟩ = some (.int .i64 0) := by go_cell
  have rf9_1 : (w.alloc (.cells #[.int .i64 0, .int .i64 0, .int .i64 0, .bool false, .bool false, .bool false, .bool false, .int .i64 0, .int .i64 0, .int .i64 0, .int .i64 0, .int .i64 0, .slice none 0 0, .slice none 0 0] 30)).frozen? ⟨w.heap.size, 9, none⟩ = false := by (first | go_cell | (simp [World.frozen?, World.alloc]; done) | rfl)
  have r10_1 : (w.alloc (.cells #[.int .i64 0, .int .i64 0, .int .i64 0, .bool false, .bool false, .bool false, .bool false, .int .i64 0, .int .i64 0, .int .i64 0, .int .i64 0, .int .i64 0, .slice none 0 0, .slice none 0 0] 30)).cell? ⟨w.heap.size, 10, none⟩ = some (.int .i64 0) := by go_cell
  have rf10_1 : (w.alloc (.cells #[.int .i64 0, .int .i64 0, .int .i64 0, .bool false, .bool false, .bool false, .bool false, .int .i64 0, .int .i64 0, .int .i64 0, .int .i64 0, .int .i64 0, .slice none 0 0, .slice none 0 0] 30)).frozen? ⟨w.heap.size, 10, none⟩ = false := by (first | go_cell | (simp [World.frozen?, World.alloc]; done) | rfl)
  have r11_1 : (w.alloc (.cells #[.int .i64 0, .int .i64 0, .int .i64 0, .bool false, .bool false, .bool false, .bool false, .int .i64 0, .int .i64 0, .int .i64 0, .int .i64 0, .int .i64 0, .slice none 0 0, .slice none 0 0] 30)).cell? ⟨w.heap.size, 11, none⟩ = some (.int .i64 0) := by go_cell
  have rf11_1 : (w.alloc (.cells #[.int .i64 0, .int .i64 0, .int .i64 0, .bool false, .bool false, .bool false, .bool false, .int .i64 0, .int .i64 0, .int .i64 0, .int .i64 0, .int .i64 0, .slice none 0 0, .slice none 0 0] 30)).frozen? ⟨w.heap.size, 11, none⟩ = false := by (first | go_cell | (simp [World.frozen?, World.alloc]; done) | rfl)
  have r12_1 : (w.alloc (.cells #[.int .i64 0, .int .i64 0, .int .i64 0, .bool false, .bool false, .bool false, .bool false, .int .i64 0, .int .i64 0, .int .i64 0, .int .i64 0, .int .i64 0, .slice none 0 0, .slice none 0 0] 30)).cell? ⟨w.heap.size, 12, none⟩ = some (.slice none 0 0) := by go_cell
  have rf12_1 : (w.alloc (.cells #[.int .i64 0, .int .i64 0, .int .i64 0, .bool false, .bool false, .bool false, .bool false, .int .i64 0, .int .i64 0, .int .i64 0, .int .i64 0, .int .i64 0, .slice none 0 0, .slice none 0 0] 30)).frozen? ⟨w.heap.size, 12, none⟩ = false := by (first | go_cell | (simp [World.frozen?, World.alloc]; done) | rfl)
  have r13_1 : (w.alloc (.cells #[.int .i64 0, .int .i64 0, .int .i64 0, .bool false, .bool false, .bool false, .bool false, .int .i64 0, .int .i64 0, .int .i64 0, .int .i64 0, .int .i64 0, .slice none 0 0, .slice none 0 0] 30)).cell? ⟨w.heap.size, 13, none⟩ = some (.slice none 0 0) := by go_cell
  have rf13_1 : (w.alloc (.cells #[.int .i64 0, .int .i64 0, .int .i64 0, .bool false, .bool false, .bool false, .bool false, .int .i64 0, .int .i64 0, .int .i64 0, .int .i64 0, .int .i64 0, .slice none 0 0, .slice none 0 0] 30)).frozen? ⟨w.heap.size, 13, none⟩ = false := by (first | go_cell | (simp [World.frozen?, World.alloc]; done) | rfl)
  have rl_1 : w.heap.size < (w.alloc (.cells #[.int .i64 0, .int .i64 0, .int .i64 0, .bool false, .bool false, .bool false, .bool false, .int .i64 0, .int .i64 0, .int .i64 0, .int .i64 0, .int .i64 0, .slice none 0 0, .slice none 0 0] 30)).heap.size := by first | (simp; done) | (simp; omega)
  have c1 : Below w.heap.size w (w.alloc (.cells #[.int .i64 0, .int .i64 0, .int .i64 0, .bool false, .bool false, .bool false, .bool false, .int .i64 0, .int .i64 0, .int .i64 0, .int .i64 0, .int .i64 0, .slice none 0 0, .slice none 0 0] 30)) := by go_grown
  have s1 : (w.alloc (.cells #[.int .i64 0, .int .i64 0, .int .i64 0, .bool false, .bool false, .bool false, .bool false, .int .i64 0, .int .i64 0, .int .i64 0, .int .i64 0, .int .i64 0, .slice none 0 0, .slice none 0 0] 30)).heap.size = w.heap.size + 1 := by simp
  generalize (w.alloc (.cells #[.int .i64 0, .int .i64 0, .int .i64 0, .bool false, .bool false, .bool false, .bool false, .int .i64 0, .int .i64 0, .int .i64 0, .int .i64 0, .int .i64 0, .slice none 0 0, .slice none 0 0] 30)) = w1 at r0_1 rf0_1 r1_1 rf1_1 r2_1 rf2_1 r3_1 rf3_1 r4_1 rf4_1 r5_1 rf5_1 r6_1 rf6_1 r7_1 rf7_1 r8_1 rf8_1 r9_1 rf9_1 r10_1 rf10_1 r11_1 rf11_1 r12_1 rf12_1 r13_1 rf13_1 rl_1 c1 s1 ⊢
  have qr0_1 := cell_regrown r0_1
  have qr1_1 := cell_regrown r1_1
  have qr2_1 := cell_regrown r2_1
  have qr3_1 := cell_regrown r3_1
  have qr4_1 := cell_regrown r4_1
  have qr5_1 := cell_regrown r5_1
  have qr6_1 := cell_regrown r6_1
  have qr7_1 := cell_regrown r7_1
  have qr8_1 := cell_regrown r8_1
  have qr9_1 := cell_regrown r9_1
  have qr10_1 := cell_regrown r10_1
  have qr11_1 := cell_regrown r11_1
  have qr12_1 := cell_regrown r12_1
  have qr13_1 := cell_regrown r13_1
  refine (specCOpen_any _).mono ?_
  rintro e w2 ⟨⟨g, rfl, hg0, hg1, hr⟩, b2⟩
  have HR := hid hr
  clear hr
  have d2 : Below w1.heap.size w1 w2 := (Below.trans (by go_grown) (b2.mono (by first | omega | (simp; done) | (simp; omega))))
  have c2 : Below w.heap.size w w2 := c1.trans (d2.mono c1.size)
  have r0_2 : w2.cell? ⟨w.heap.size, 0, none⟩ = some (.int .i64 0) := (by rw [b2.cell (by first | omega | (simp; done) | (simp; omega))]; go_cell)
  have rf0_2 : w2.frozen? ⟨w.heap.size, 0, none⟩ = false := (by rw [b2.frozen (by first | omega | (simp; done) | (simp; omega))]; (first | go_cell | (simp [World.frozen?, World.alloc]; done) | rfl))
  have r1_2 : w2.cell? ⟨w.heap.size, 1, none⟩ = some (.int .i64 0) := (by rw [b2.cell (by first | omega | (simp; done) | (simp; omega))]; go_cell)
  have rf1_2 : w2.frozen? ⟨w.heap.size, 1, none⟩ = false := (by rw [b2.frozen (by first | omega | (simp; done) | (simp; omega))]; (first | go_cell | (simp [World.frozen?, World.alloc]; done) | rfl))
  have r2_2 : w2.cell? ⟨w.heap.size, 2, none⟩ = some (.int .i64 0) := (by rw [b2.cell (by first | omega | (simp; done) | (simp; omega))]; go_cell)
  have rf2_2 : w2.frozen? ⟨w.heap.size, 2, none⟩ = false := (by rw [b2.frozen (by first | omega | (simp; done) | (simp; omega))]; (first | go_cell | (simp [World.frozen?, World.alloc]; done) | rfl))
  have r3_2 : w2.cell? ⟨w.heap.size, 3, none⟩ = some (.bool false) := (by rw [b2.cell (by first | omega | (simp; done) | (simp; omega))]; go_cell)
  have rf3_2 : w2.frozen? ⟨w.heap.size, 3, none⟩ = false := (by rw [b2.frozen (by first | omega | (simp; done) | (simp; omega))]; (first | go_cell | (simp [World.frozen?, World.alloc]; done) | rfl))
  have r4_2 : w2.cell? ⟨w.heap.size, 4, none⟩ = some (.bool false) := (by rw [b2.cell (by first | omega | (simp; done) | (simp; omega))]; go_cell)
  have rf4_2 : w2.frozen? ⟨w.heap.size, 4, none⟩ = false := (by rw [b2.frozen (by first | omega | (simp; done) | (simp; omega))]; (first | go_cell | (simp [World.frozen?, World.alloc]; done) | rfl))
  have r5_2 : w2.cell? ⟨w.heap.size, 5, none⟩ = some (.bool false) := (by rw [b2.cell (by first | omega | (simp; done) | (simp; omega))]; go_cell)
  have rf5_2 : w2.frozen? ⟨w.heap.size, 5, none⟩ = false := (by rw [b2.frozen (by first | omega | (simp; done) | (simp; omega))]; (first | go_cell | (simp [World.frozen?, World.alloc]; done) | rfl))
  have r6_2 : w2.cell? ⟨w.heap.size, 6, none⟩ = some (.bool false) := (by rw [b2.cell (by first | omega | (simp; done) | (simp; omega))]; go_cell)
  have rf6_2 : w2.frozen? ⟨w.heap.size, 6, none⟩ = false := (by rw [b2.frozen (by first | omega | (simp; done) | (simp; omega))]; (first | go_cell | (simp [World.frozen?, World.alloc]; done) | rfl))
  have r7_2 : w2.cell? ⟨w.heap.size, 7, none⟩ = some (.int .i64 0) := (by rw [b2.cell (by first | omega | (simp; done) | (simp; omega))]; go_cell)
  have rf7_2 : w2.frozen? ⟨w.heap.size, 7, none⟩ = false := (by rw [b2.frozen (by first | omega | (simp; done) | (simp; omega))]; (first | go_cell | (simp [World.frozen?, World.alloc]; done) | rfl))
  have r8_2 : w2.cell? ⟨w.heap.size, 8, none⟩ = some (.int .i64 0) := (by rw [b2.cell (by first | omega | (simp; done) | (simp; omega))]; go_cell)
  have rf8_2 : w2.frozen? ⟨w.heap.size, 8, none⟩ = false := (by rw [b2.frozen (by first | omega | (simp; done) | (simp; omega))]; (first | go_cell | (simp [World.frozen?, World.alloc]; done) | rfl))
  have r9_2 : w2.cell? ⟨w.heap.size, 9, none⟩ = some (.int .i64 0) := (by rw [b2.cell (by first | omega | (simp; done) | (simp; omega))]; go_cell)
  have rf9_2 : w2.frozen? ⟨w.heap.size, 9, none⟩ = false := (by rw [b2.frozen (by first | omega | (simp; done) | (simp; omega))]; (first | go_cell | (simp [World.frozen?, World.alloc]; done) | rfl))
  have r10_2 : w2.cell? ⟨w.heap.size, 10, none⟩ = some (.int .i64 0) := (by rw [b2.cell (by first | omega | (simp; done) | (simp; omega))]; go_cell)
  have rf10_2 : w2.frozen? ⟨w.heap.size, 10, none⟩ = false := (by rw [b2.frozen (by first | omega | (simp; done) | (simp; omega))]; (first | go_cell | (simp [World.frozen?, World.alloc]; done) | rfl))
  have r11_2 : w2.cell? ⟨w.heap.size, 11, none⟩ = some (.int .i64 0) := (by rw [b2.cell (by first | omega | (simp; done) | (simp; omega))]; go_cell)
  have rf11_2 : w2.frozen? ⟨w.heap.size, 11, none⟩ = false := (by rw [b2.frozen (by first | omega | (simp; done) | (simp; omega))]; (first | go_cell | (simp [World.frozen?, World.alloc]; done) | rfl))
  have r12_2 : w2.cell? ⟨w.heap.size, 12, none⟩ = some (.slice none 0 0) := (by rw [b2.cell (by first | omega | (simp; done) | (simp; omega))]; go_cell)
  have rf12_2 : w2.frozen? ⟨w.heap.size, 12, none⟩ = false := (by rw [b2.frozen (by first | omega | (simp; done) | (simp; omega))]; (first | go_cell | (simp [World.frozen?, World.alloc]; done) | rfl))
  have r13_2 : w2.cell? ⟨w.heap.size, 13, none⟩ = some (.slice none 0 0) := (by rw [b2.cell (by first | omega | (simp; done) | (simp; omega))]; go_cell)
  have rf13_2 : w2.frozen? ⟨w.heap.size, 13, none⟩ = false := (by rw [b2.frozen (by first | omega | (simp; done) | (simp; omega))]; (first | go_cell | (simp [World.frozen?, World.alloc]; done) | rfl))
  have rl_2 : w.heap.size < w2.heap.size := (by have := b2.size; first | omega | (revert this; simp; done) | (revert this; simp; omega))
  clear r0_1 rf0_1 r1_1 rf1_1 r2_1 rf2_1 r3_1 rf3_1 r4_1 rf4_1 r5_1 rf5_1 r6_1 rf6_1 r7_1 rf7_1 r8_1 rf8_1 r9_1 rf9_1 r10_1 rf10_1 r11_1 rf11_1 r12_1 rf12_1 r13_1 rf13_1 rl_1
  clear b2 d2
  go_wp2_with fail
  have e0 : ((((((((((((((w2.setCell ⟨w.heap.size, 0, none⟩ (.int .i64 n0)).setCell ⟨w.heap.size, 1, none⟩ (.int .i64 0)).setCell ⟨w.heap.size, 2, none⟩ (.int .i64 0)).setCell ⟨w.heap.size, 3, none⟩ (.bool false)).setCell ⟨w.heap.size, 4, none⟩ (.bool false)).setCell ⟨w.heap.size, 5, none⟩ (.bool false)).setCell ⟨w.heap.size, 6, none⟩ (.bool false)).setCell ⟨w.heap.size, 7, none⟩ (.int .i64 0)).setCell ⟨w.heap.size, 8, none⟩ (.int .i64 0)).setCell ⟨w.heap.size, 9, none⟩ (.int .i64 0)).setCell ⟨w.heap.size, 10, none⟩ (.int .i64 0)).setCell ⟨w.heap.size, 11, none⟩ (.int .i64 0)).setCell ⟨w.heap.size, 12, none⟩ (.slice none 0 0)).setCell ⟨w.heap.size, 13, none⟩ (.slice (some ⟨g, 0, none⟩) 24 24)).cell? ⟨w.heap.size, 0, none⟩ = some (.int .i64 n0) := by go_cell
  have e1 : ((((((((((((((w2.setCell ⟨w.heap.size, 0, none⟩ (.int .i64 n0)).setCell ⟨w.heap.size, 1, none⟩ (.int .i64 0)).setCell ⟨w.heap.size, 2, none⟩ (.int .i64 0)).setCell ⟨w.heap.size, 3, none⟩ (.bool false)).setCell ⟨w.heap.size, 4, none⟩ (.bool false)).setCell ⟨w.heap.size, 5, none⟩ (.bool false)).setCell ⟨w.heap.size, 6, none⟩ (.bool false)).setCell ⟨w.heap.size, 7, none⟩ (.int .i64 0)).setCell ⟨w.heap.size, 8, none⟩ (.int .i64 0)).setCell ⟨w.heap.size, 9, none⟩ (.int .i64 0)).setCell ⟨w.heap.size, 10, none⟩ (.int .i64 0)).setCell ⟨w.heap.size, 11, none⟩ (.int .i64 0)).setCell ⟨w.heap.size, 12, none⟩ (.slice none 0 0)).setCell ⟨w.heap.size, 13, none⟩ (.slice (some ⟨g, 0, none⟩) 24 24)).cell? ⟨w.heap.size, 1, none⟩ = some (.int .i64 0) := by go_cell
  have e2 : ((((((((((((((w2.setCell ⟨w.heap.size, 0, none⟩ (.int .i64 n0)).setCell ⟨w.heap.size, 1, none⟩ (.int .i64 0)).setCell ⟨w.heap.size, 2, none⟩ (.int .i64 0)).setCell ⟨w.heap.size, 3, none⟩ (.bool false)).setCell ⟨w.heap.size, 4, none⟩ (.bool false)).setCell ⟨w.heap.size, 5, none⟩ (.bool false)).setCell ⟨w.heap.size, 6, none⟩ (.bool false)).setCell ⟨w.heap.size, 7, none⟩ (.int .i64 0)).setCell ⟨w.heap.size, 8, none⟩ (.int .i64 0)).setCell ⟨w.heap.size, 9, none⟩ (.int .i64 0)).setCell ⟨w.heap.size, 10, none⟩ (.int .i64 0)).setCell ⟨w.heap.size, 11, none⟩ (.int .i64 0)).setCell ⟨w.heap.size, 12, none⟩ (.slice none 0 0)).setCell ⟨w.heap.size, 13, none⟩ (.slice (some ⟨g, 0, none⟩) 24 24)).cell? ⟨w.heap.size, 2, none⟩ = some (.int .i64 0) := by go_cell
  have e3 : ((((((((((((((w2.setCell ⟨w.heap.size, 0, none⟩ (.int .i64 n0)).setCell ⟨w.heap.size, 1, none⟩ (.int .i64 0)).setCell ⟨w.heap.size, 2, none⟩ (.int .i64 0)).setCell ⟨w.heap.size, 3, none⟩ (.bool false)).setCell ⟨w.heap.size, 4, none⟩ (.bool false)).setCell ⟨w.heap.size, 5, none⟩ (.bool false)).setCell ⟨w.heap.size, 6, none⟩ (.bool false)).setCell ⟨w.heap.size, 7, none⟩ (.int .i64 0)).setCell ⟨w.heap.size, 8, none⟩ (.int .i64 0)).setCell ⟨w.heap.size, 9, none⟩ (.int .i64 0)).setCell ⟨w.heap.size, 10, none⟩ (.int .i64 0)).setCell ⟨w.heap.size, 11, none⟩ (.int .i64 0)).setCell ⟨w.heap.size, 12, none⟩ (.slice none 0 0)).setCell ⟨w.heap.size, 13, none⟩ (.slice (some ⟨g, 0, none⟩) 24 24)).cell? ⟨w.heap.size, 3, none⟩ = some (.bool false) := by go_cell
  have e4 : ((((((((((((((w2.setCell ⟨w.heap.size, 0, none⟩ (.int .i64 n0)).setCell ⟨w.heap.size, 1, none⟩ (.int .i64 0)).setCell ⟨w.heap.size, 2, none⟩ (.int .i64 0)).setCell ⟨w.heap.size, 3, none⟩ (.bool false)).setCell ⟨w.heap.size, 4, none⟩ (.bool false)).setCell ⟨w.heap.size, 5, none⟩ (.bool false)).setCell ⟨w.heap.size, 6, none⟩ (.bool false)).setCell ⟨w.heap.size, 7, none⟩ (.int .i64 0)).setCell ⟨w.heap.size, 8, none⟩ (.int .i64 0)).setCell ⟨w.heap.size, 9, none⟩ (.int .i64 0)).setCell ⟨w.heap.size, 10, none⟩ (.int .i64 0)).setCell ⟨w.heap.size, 11, none⟩ (.int .i64 0)).setCell ⟨w.heap.size, 12, none⟩ (.slice none 0 0)).setCell ⟨w.heap.size, 13, none⟩ (.slice (some ⟨g, 0, none⟩) 24 24)).cell? ⟨w.heap.size, 4, none⟩ = some (.bool false) := by go_cell
  have e5 : ((((((((((((((w2.setCell ⟨w.heap.size, 0, none⟩ (.int .i64 n0)).setCell ⟨w.heap.size, 1, none⟩ (.int .i64 0)).setCell ⟨w.heap.size, 2, none⟩ (.int .i64 0)).setCell ⟨w.heap.size, 3, none⟩ (.bool false)).setCell ⟨w.heap.size, 4, none⟩ (.bool false)).setCell ⟨w.heap.size, 5, none⟩ (.bool false)).setCell ⟨w.heap.size, 6, none⟩ (.bool false)).setCell ⟨w.heap.size, 7, none⟩ (.int .i64 0)).setCell ⟨w.heap.size, 8, none⟩ (.int .i64 0)).setCell ⟨w.heap.size, 9, none⟩ (.int .i64 0)).setCell ⟨w.heap.size, 10, none⟩ (.int .i64 0)).setCell ⟨w.heap.size, 11, none⟩ (.int .i64 0)).setCell ⟨w.heap.size, 12, none⟩ (.slice none 0 0)).setCell ⟨w.heap.size, 13, none⟩ (.slice (some ⟨g, 0, none⟩) 24 24)).cell? ⟨w.heap.size, 5, none⟩ = some (.bool false) := by go_cell
  have e6 : ((((((((((((((w2.setCell ⟨w.heap.size, 0, none⟩ (.int .i64 n0)).setCell ⟨w.heap.size, 1, none⟩ (.int .i64 0)).setCell ⟨w.heap.size, 2, none⟩ (.int .i64 0)).setCell ⟨w.heap.size, 3, none⟩ (.bool false)).setCell ⟨w.heap.size, 4, none⟩ (.bool false)).setCell ⟨w.heap.size, 5, none⟩ (.bool false)).setCell ⟨w.heap.size, 6, none⟩ (.bool false)).setCell ⟨w.heap.size, 7, none⟩ (.int .i64 0)).setCell ⟨w.heap.size, 8, none⟩ (.int .i64 0)).setCell ⟨w.heap.size, 9, none⟩ (.int .i64 0)).setCell ⟨w.heap.size, 10, none⟩ (.int .i64 0)).setCell ⟨w.heap.size, 11, none⟩ (.int .i64 0)).setCell ⟨w.heap.size, 12, none⟩ (.slice none 0 0)).setCell ⟨w.heap.size, 13, none⟩ (.slice (some ⟨g, 0, none⟩) 24 24)).cell? ⟨w.heap.size, 6, none⟩ = some (.bool false) := by go_cell
  have e7 : ((((((((((((((w2.setCell ⟨w.heap.size, 0, none⟩ (.int .i64 n0)).setCell ⟨w.heap.size, 1, none⟩ (.int .i64 0)).setCell ⟨w.heap.size, 2, none⟩ (.int .i64 0)).setCell ⟨w.heap.size, 3, none⟩ (.bool false)).setCell ⟨w.heap.size, 4, none⟩ (.bool false)).setCell ⟨w.heap.size, 5, none⟩ (.bool false)).setCell ⟨w.heap.size, 6, none⟩ (.bool false)).setCell ⟨w.heap.size, 7, none⟩ (.int .i64 0)).setCell ⟨w.heap.size, 8, none⟩ (.int .i64 0)).setCell ⟨w.heap.size, 9, none⟩ (.int .i64 0)).setCell ⟨w.heap.size, 10, none⟩ (.int .i64 0)).setCell ⟨w.heap.size, 11, none⟩ (.int .i64 0)).setCell ⟨w.heap.size, 12, none⟩ (.slice none 0 0)).setCell ⟨w.heap.size, 13, none⟩ (.slice (some ⟨g, 0, none⟩) 24 24)).cell? ⟨w.heap.size, 7, none⟩ = some (.int .i64 0) := by go_cell
  have e8 : ((((((((((((((w2.setCell ⟨w.heap.size, 0, none⟩ (.int .i64 n0)).setCell ⟨w.heap.size, 1, none⟩ (.int .i64 0)).setCell ⟨w.heap.size, 2, none⟩ (.int .i64 0)).setCell ⟨w.heap.size, 3, none⟩ (.bool false)).setCell ⟨w.heap.size, 4, none⟩ (.bool false)).setCell ⟨w.heap.size, 5, none⟩ (.bool false)).setCell ⟨w.heap.size, 6, none⟩ (.bool false)).setCell ⟨w.heap.size, 7, none⟩ (.int .i64 0)).setCell ⟨w.heap.size, 8, none⟩ (.int .i64 0)).setCell ⟨w.heap.size, 9, none⟩ (.int .i64 0)).setCell ⟨w.heap.size, 10, none⟩ (.int .i64 0)).setCell ⟨w.heap.size, 11, none⟩ (.int .i64 0)).setCell ⟨w.heap.size, 12, none⟩ (.slice none 0 0)).setCell ⟨w.heap.size, 13, none⟩ (.slice (some ⟨g, 0, none⟩) 24 24)).cell? ⟨w.heap.size, 8, none⟩ = some (.int .i64 0) := by go_cell
  have e9 : ((((((((((((((w2.setCell ⟨w.heap.size, 0, none⟩ (.int .i64 n0)).setCell ⟨w.heap.size, 1, none⟩ (.int .i64 0)).setCell ⟨w.heap.size, 2, none⟩ (.int .i64 0)).setCell ⟨w.heap.size, 3, none⟩ (.bool false)).setCell ⟨w.heap.size, 4, none⟩ (.bool false)).setCell ⟨w.heap.size, 5, none⟩ (.bool false)).setCell ⟨w.heap.size, 6, none⟩ (.bool false)).setCell ⟨w.heap.size, 7, none⟩ (.int .i64 0)).setCell ⟨w.heap.size, 8, none⟩ (.int .i64 0)).setCell ⟨w.heap.size, 9, none⟩ (.int .i64 0)).setCell ⟨w.heap.size, 10, none⟩ (.int .i64 0)).setCell ⟨w.heap.size, 11, none⟩ (.int .i64 0)).setCell ⟨w.heap.size, 12, none⟩ (.slice none 0 0)).setCell ⟨w.heap.size, 13, none⟩ (.slice (some ⟨g, 0, none⟩) 24 24)).cell? ⟨w.heap.size, 9, none⟩ = some (.int .i64 0) := by go_cell
  have e10 : ((((((((((((((w2.setCell ⟨w.heap.size, 0, none⟩ (.int .i64 n0)).setCell ⟨w.heap.size, 1, none⟩ (.int .i64 0)).setCell ⟨w.heap.size, 2, none⟩ (.int .i64 0)).setCell ⟨w.heap.size, 3, none⟩ (.bool false)).setCell ⟨w.heap.size, 4, none⟩ (.bool false)).setCell ⟨w.heap.size, 5, none⟩ (.bool false)).setCell ⟨w.heap.size, 6, none⟩ (.bool false)).setCell ⟨w.heap.size, 7, none⟩ (.int .i64 0)).setCell ⟨w.heap.size, 8, none⟩ (.int .i64 0)).setCell ⟨w.heap.size, 9, none⟩ (.int .i64 0)).setCell ⟨w.heap.size, 10, none⟩ (.int .i64 0)).setCell ⟨w.heap.size, 11, none⟩ (.int .i64 0)).setCell ⟨w.heap.size, 12, none⟩ (.slice none 0 0)).setCell ⟨w.heap.size, 13, none⟩ (.slice (some ⟨g, 0, none⟩) 24 24)).cell? ⟨w.heap.size, 10, none⟩ = some (.int .i64 0) := by go_cell
  have e11 : ((((((((((((((w2.setCell ⟨w.heap.size, 0, none⟩ (.int .i64 n0)).setCell ⟨w.heap.size, 1, none⟩ (.int .i64 0)).setCell ⟨w.heap.size, 2, none⟩ (.int .i64 0)).setCell ⟨w.heap.size, 3, none⟩ (.bool false)).setCell ⟨w.heap.size, 4, none⟩ (.bool false)).setCell ⟨w.heap.size, 5, none⟩ (.bool false)).setCell ⟨w.heap.size, 6, none⟩ (.bool false)).setCell ⟨w.heap.size, 7, none⟩ (.int .i64 0)).setCell ⟨w.heap.size, 8, none⟩ (.int .i64 0)).setCell ⟨w.heap.size, 9, none⟩ (.int .i64 0)).setCell ⟨w.heap.size, 10, none⟩ (.int .i64 0)).setCell ⟨w.heap.size, 11, none⟩ (.int .i64 0)).setCell ⟨w.heap.size, 12, none⟩ (.slice none 0 0)).setCell ⟨w.heap.size, 13, none⟩ (.slice (some ⟨g, 0, none⟩) 24 24)).cell? ⟨w.heap.size, 11, none⟩ = some (.int .i64 0) := by go_cell
  have e12 : ((((((((((((((w2.setCell ⟨w.heap.size, 0, none⟩ (.int .i64 n0)).setCell ⟨w.heap.size, 1, none⟩ (.int .i64 0)).setCell ⟨w.heap.size, 2, none⟩ (.int .i64 0)).setCell ⟨w.heap.size, 3, none⟩ (.bool false)).setCell ⟨w.heap.size, 4, none⟩ (.bool false)).setCell ⟨w.heap.size, 5, none⟩ (.bool false)).setCell ⟨w.heap.size, 6, none⟩ (.bool false)).setCell ⟨w.heap.size, 7, none⟩ (.int .i64 0)).setCell ⟨w.heap.size, 8, none⟩ (.int .i64 0)).setCell ⟨w.heap.size, 9, none⟩ (.int .i64 0)).setCell ⟨w.heap.size, 10, none⟩ (.int .i64 0)).setCell ⟨w.heap.size, 11, none⟩ (.int .i64 0)).setCell ⟨w.heap.size, 12, none⟩ (.slice none 0 0)).setCell ⟨w.heap.size, 13, none⟩ (.slice (some ⟨g, 0, none⟩) 24 24)).cell? ⟨w.heap.size, 12, none⟩ = some (.slice none 0 0) := by go_cell
  have e13 : ((((((((((((((w2.setCell ⟨w.heap.size, 0, none⟩ (.int .i64 n0)).setCell ⟨w.heap.size, 1, none⟩ (.int .i64 0)).setCell ⟨w.heap.size, 2, none⟩ (.int .i64 0)).setCell ⟨w.heap.size, 3, none⟩ (.bool false)).setCell ⟨w.heap.size, 4, none⟩ (.bool false)).setCell ⟨w.heap.size, 5, none⟩ (.bool false)).setCell ⟨w.heap.size, 6, none⟩ (.bool false)).setCell ⟨w.heap.size, 7, none⟩ (.int .i64 0)).setCell ⟨w.heap.size, 8, none⟩ (.int .i64 0)).setCell ⟨w.heap.size, 9, none⟩ (.int .i64 0)).setCell ⟨w.heap.size, 10, none⟩ (.int .i64 0)).setCell ⟨w.heap.size, 11, none⟩ (.int .i64 0)).setCell ⟨w.heap.size, 12, none⟩ (.slice none 0 0)).setCell ⟨w.heap.size, 13, none⟩ (.slice (some ⟨g, 0, none⟩) 24 24)).cell? ⟨w.heap.size, 13, none⟩ = some (.slice (some ⟨g, 0, none⟩) 24 24) := by go_cell
  refine bodyPost_ret (v := .agg #[.int .i64 n0, .int .i64 0, .int .i64 0, .bool false, .bool false, .bool false, .bool false, .int .i64 0, .int .i64 0, .int .i64 0, .int .i64 0, .int .i64 0, .slice none 0 0, .slice (some ⟨g, 0, none⟩) 24 24]) (by simp [results, Try.results4, go_sem, e0, e1, e2, e3, e4, e5, e6, e7, e8, e9, e10, e11, e12, e13]) rfl ⟨⟨g, rfl, by omega, by simpa using hg1, ?_⟩, ?_⟩
  · exact ((((((((((((((HR.out.set (p := ⟨w.heap.size, 0, none⟩) (by show w.heap.size ≠ _; omega) _).set (p := ⟨w.heap.size, 1, none⟩) (by show w.heap.size ≠ _; omega) _).set (p := ⟨w.heap.size, 2, none⟩) (by show w.heap.size ≠ _; omega) _).set (p := ⟨w.heap.size, 3, none⟩) (by show w.heap.size ≠ _; omega) _).set (p := ⟨w.heap.size, 4, none⟩) (by show w.heap.size ≠ _; omega) _).set (p := ⟨w.heap.size, 5, none⟩) (by show w.heap.size ≠ _; omega) _).set (p := ⟨w.heap.size, 6, none⟩) (by show w.heap.size ≠ _; omega) _).set (p := ⟨w.heap.size, 7, none⟩) (by show w.heap.size ≠ _; omega) _).set (p := ⟨w.heap.size, 8, none⟩) (by show w.heap.size ≠ _; omega) _).set (p := ⟨w.heap.size, 9, none⟩) (by show w.heap.size ≠ _; omega) _).set (p := ⟨w.heap.size, 10, none⟩) (by show w.heap.size ≠ _; omega) _).set (p := ⟨w.heap.size, 11, none⟩) (by show w.heap.size ≠ _; omega) _).set (p := ⟨w.heap.size, 12, none⟩) (by show w.heap.size ≠ _; omega) _).set (p := ⟨w.heap.size, 13, none⟩) (by show w.heap.size ≠ _; omega) _)
  · exact ((((((((((((((c2.setCell (p := ⟨w.heap.size, 0, none⟩) (Nat.le_refl _) _).setCell (p := ⟨w.heap.size, 1, none⟩) (Nat.le_refl _) _).setCell (p := ⟨w.heap.size, 2, none⟩) (Nat.le_refl _) _).setCell (p := ⟨w.heap.size, 3, none⟩) (Nat.le_refl _) _).setCell (p := ⟨w.heap.size, 4, none⟩) (Nat.le_refl _) _).setCell (p := ⟨w.heap.size, 5, none⟩) (Nat.le_refl _) _).setCell (p := ⟨w.heap.size, 6, none⟩) (Nat.le_refl _) _).setCell (p := ⟨w.heap.size, 7, none⟩) (Nat.le_refl _) _).setCell (p := ⟨w.heap.size, 8, none⟩) (Nat.le_refl _) _).setCell (p := ⟨w.heap.size, 9, none⟩) (Nat.le_refl _) _).setCell (p := ⟨w.heap.size, 10, none⟩) (Nat.le_refl _) _).setCell (p := ⟨w.heap.size, 11, none⟩) (Nat.le_refl _) _).setCell (p := ⟨w.heap.size, 12, none⟩) (Nat.le_refl _) _).setCell (p := ⟨w.heap.size, 13, none⟩) (Nat.le_refl _) _)
set_option maxRecDepth 100000 in
set_option maxHeartbeats 4000000 in
theorem specTOpen_out (n0 : Int) (h : ¬ (0 ≤ n0 ∧ n0 < 2)) (w : World) : Calls Try.prog 4 #[.int .i64 n0] w fun e w' => e = .returned (.agg #[.int .i64 0, .int .i64 0, .int .i64 0, .bool false, .bool false, .bool false, .bool false, .int .i64 0, .int .i64 0, .int .i64 0, .int .i64 0, .int .i64 0, .slice none 0 0, .slice none 0 0]) ∧ Below w.heap.size w w' := by
  by_cases n1 : n0 < 0
  · go_enter Try.func4, Try.ntmps4
    go_wp2
    refine bodyPost_ret (v := .agg #[.int .i64 0, .int .i64 0, .int .i64 0, .bool false, .bool false, .bool false, .bool false, .int .i64 0, .int .i64 0, .int .i64 0, .int .i64 0, .int .i64 0, .slice none 0 0, .slice none 0 0]) (by simp [results, Try.results4, go_sem]) rfl ⟨rfl, ?_⟩
    go_grown
  · have n2 : n0 ≥ 2 := by omega
    clear h
    go_enter Try.func4, Try.ntmps4
    go_wp2
    refine bodyPost_ret (v := .agg #[.int .i64 0, .int .i64 0, .int .i64 0, .bool false, .bool false, .bool false, .bool false, .int .i64 0, .int .i64 0, .int .i64 0, .int .i64 0, .int .i64 0, .slice none 0 0, .slice none 0 0]) (by simp [results, Try.results4, go_sem]) rfl ⟨rfl, ?_⟩
    go_grown
set_option maxRecDepth 100000 in
set_option maxHeartbeats 4000000 in
theorem implTOpen_in (n0 : Int) (h0 : 0 ≤ n0) (h1 : n0 < 2) (w : World) : Calls Try.prog 5 #[.int .i64 n0] w fun e w' => (∃ g, e = .returned (.agg #[.int .i64 n0, .int .i64 0, .int .i64 0, .bool false, .bool false, .bool false, .bool false, .int .i64 0, .int .i64 0, .int .i64 0, .int .i64 0, .int .i64 0, .slice none 0 0, .slice (some ⟨g, 84, none⟩) 24 24]) ∧ w.heap.size ≤ g ∧ g < w'.heap.size ∧ RowN w' g 84 (fun _ => 0)) ∧ Below w.heap.size w w' := by
  have n1 : ¬ n0 < 0 := by omega
  have n2 : ¬ n0 ≥ 2 := by omega
  clear h0 h1
  go_enter Try.func5, Try.ntmps5
  go_wp2_with fail
  have r0_1 : (w.alloc (.cells #[.int .i64 0, .int .i64 0, .int .i64 0, .bool false, .bool false, .bool false, .bool false, .int .i64 0, .int .i64 0, .int .i64 0, .int .i64 0, .int .i64 0, .slice none 0 0, .slice none 0 0] 30)).cell? ⟨w.heap.size, 0, none⟩ = some (.int .i64 0) := by go_cell
  have rf0_1 : (w.alloc (.cells #[.int .i64 0, .int .i64 0, .int .i64 0, .bool false, .bool false, .bool false, .bool false, .int .i64 0, .int .i64 0, .int .i64 0, .int .i64 0, .int .i64 0, .slice none 0 0, .slice none 0 0] 30)).frozen? ⟨w.heap.size, 0, none⟩ = false := by (first | go_cell | (simp [World.frozen?, World.alloc]; done) | rfl)
  have r1_1 : (w.alloc (.cells #[.int .i64 0, .int .i64 0, .int .i64 0, .bool false, .bool false, .bool false, .bool false, .int .i64 0, .int .i64 0, .int .i64 0, .int .i64 0, .int .i64 0, .slice none 0 0, .slice none 0 0] 30)).cell? ⟨w.heap.size, 1, none⟩ = some (.int .i64 0) := by go_cell
  have rf1_1 : (w.alloc (.cells #[.int .i64 0, .int .i64 0, .int .i64 0, .bool false, .bool false, .bool false, .bool false, .int .i64 0, .int .i64 0, .int .i64 0, .int .i64 0, .int .i64 0, .slice none 0 0, .slice none 0 0] 30)).frozen? ⟨w.heap.size, 1, none⟩ = false := by (first | go_cell | (simp [World.frozen?, World.alloc]; done) | rfl)
  have r2_1 : (w.alloc (.cells #[.int .i64 0, .int .i64 0, .int .i64 0, .bool false, .bool false, .bool false, .bool false, .int .i64 0, .int .i64 0, .int .i64 0, .int .i64 0, .int .i64 0, .slice none 0 0, .slice none 0 0] 30)).cell? ⟨w.heap.size, 2, none⟩ = some (.int .i64 0) := by go_cell
  have rf2_1 : (w.alloc (.cells #[.int .i64 0, .int .i64 0, .int .i64 0, .bool false, .bool false, .bool false, .bool false, .int .i64 0, .int .i64 0, .int .i64 0, .int .i64 0, .int .i64 0, .slice none 0 0, .slice none 0 0] 30)).frozen? ⟨w.heap.size, 2, none⟩ = false := by (first | go_cell | (simp [World.frozen?, World.alloc]; done) | rfl)
  have r3_1 : (w.alloc (.cells #[.int .i64 0, .int .i64 0, .int .i64 0, .bool false, .bool false, .bool false, .bool false, .int .i64 0, .int .i64 0, .int .i64 0, .int .i64 0, .int .i64 0, .slice none 0 0, .slice none 0 0] 30)).cell? ⟨w.heap.size, 3, none⟩ = some (.bool false) := by go_cell
  have rf3_1 : (w.alloc (.cells #[.int .i64 0, .int .i64 0, .int .i64 0, .bool false, .bool false, .bool false, .bool false, .int .i64 0, .int .i64 0, .int .i64 0, .int .i64 0, .int .i64 0, .slice none 0 0, .slice none 0 0] 30)).frozen? ⟨w.heap.size, 3, none⟩ = false := by (first | go_cell | (simp [World.frozen?, World.alloc]; done) | rfl)
  have r4_1 : (w.alloc (.cells #[.int .i64 0, .int .i64 0, .int .i64 0, .bool false, .bool false, .bool false, .bool false, .int .i64 0, .int .i64 0, .int .i64 0, .int .i64 0, .int .i64 0, .slice none 0 0, .slice none 0 0] 30)).cell? ⟨w.heap.size, 4, none⟩ = some (.bool false) := by go_cell
  have rf4_1 : (w.alloc (.cells #[.int .i64 0, .int .i64 0, .int .i64 0, .bool false, .bool false, .bool false, .bool false, .int .i64 0, .int .i64 0, .int .i64 0, .int .i64 0, .int .i64 0, .slice none 0 0, .slice none 0 0] 30)).frozen? ⟨w.heap.size, 4, none⟩ = false := by (first | go_cell | (simp [World.frozen?, World.alloc]; done) | rfl)
  have r5_1 : (w.alloc (.cells #[.int .i64 0, .int .i64 0, .int .i64 0, .bool false, .bool false, .bool false, .bool false, .int .i64 0, .int .i64 0, .int .i64 0, .int .i64 0, .int .i64 0, .slice none 0 0, .slice none 0 0] 30)).cell? ⟨w.heap.size, 5, none⟩ = some (.bool false) := by go_cell
  have rf5_1 : (w.alloc (.cells #[.int .i64 0, .int .i64 0, .int .i64 0, .bool false, .bool false, .bool false, .bool false, .int .i64 0, .int .i64 0, .int .i64 0, .int .i64 0, .int .i64 0, .slice none 0 0, .slice none 0 0] 30)).frozen? ⟨w.heap.size, 5, none⟩ = false := by (first | go_cell | (simp [World.frozen?, World.alloc]; done) | rfl)
  have r6_1 : (w.alloc (.cells #[.int .i64 0, .int .i64 0, .int .i64 0, .bool false, .bool false, .bool false, .bool false, .int .i64 0, .int .i64 0, .int .i64 0, .int .i64 0, .int .i64 0, .slice none 0 0, .slice none 0 0] 30)).cell? ⟨w.heap.size, 6, none⟩ = some (.bool false) := by go_cell
  have rf6_1 : (w.alloc (.cells #[.int .i64 0, .int .i64 0, .int .i64 0, .bool false, .bool false, .bool false, .bool false, .int .i64 0, .int .i64 0, .int .i64 0, .int .i64 0, .int .i64 0, .slice none 0 0, .slice none 0 0] 30)).frozen? ⟨w.heap.size, 6, none⟩ = false := by (first | go_cell | (simp [World.frozen?, World.alloc]; done) | rfl)
  have r7_1 : (w.alloc (.cells #[.int .i64 0, .int .i64 0, .int .i64 0, .bool false, .bool false, .bool false, .bool false, .int .i64 0, .int .i64 0, .int .i64 0, .int .i64 0, .int .i64 0, .slice none 0 0, .slice none 0 0] 30)).cell? ⟨w.heap.size, 7, none⟩ = some (.int .i64 0) := by go_cell
  have rf7_1 : (w.alloc (.cells #[.int .i64 0, .int .i64 0, .int .i64 0, .bool false, .bool false, .bool false, .bool false, .int .i64 0, .int .i64 0, .int .i64 0, .int .i64 0, .int .i64 0, .slice none 0 0, .slice none 0 0] 30)).frozen? ⟨w.heap.size, 7, none⟩ = false := by (first | go_cell | (simp [World.frozen?, World.alloc]; done) | rfl)
  have r8_1 : (w.alloc (.cells #[.int .i64 0, .int .i64 0, .int .i64 0, .bool false, .bool false, .bool false, .bool false, .int .i64 0, .int .i64 0, .int .i64 0, .int .i64 0, .int .i64 0, .slice none 0 0, .slice none 0 0] 30)).cell? ⟨w.heap.size, 8, none⟩ = some (.int .i64 0) := by go_cell
  have rf8_1 : (w.alloc (.cells #[.int .i64 0, .int .i64 0, .int .i64 0, .bool false, .bool false, .bool false, .bool false, .int .i64 0, .int .i64 0, .int .i64 0, .int .i64 0, .int .i64 0, .slice none 0 0, .slice none 0 0] 30)).frozen? ⟨w.heap.size, 8, none⟩ = false := by (first | go_cell | (simp [World.frozen?, World.alloc]; done) | rfl)
  have r9_1 : (w.alloc (.cells #[.int .i64 0, .int .i64 0, .int .i64 0, .bool false, .bool false, .bool false, .bool false, .int .i64 0, .int .i64 0, .int .i64 0, .int .i64 0, .int .i64 0, .slice none 0 0, .slice none 0 0] 30)).cell? ⟨w.heap.size, 9, none⟩ = some (.int .i64 0) := by go_cell
  have rf9_1 : (w.alloc (.cells #[.int .i64 0, .int .i64 0, .int .i64 0, .bool false, .bool false, .bool false, .bool false, .int .i64 0, .int .i64 0, .int .i64 0, .int .i64 0, .int .i64 0, .slice none 0 0, .slice none 0 0] 30)).frozen? ⟨w.heap.size, 9, none⟩ = false := by (first | go_cell | (simp [World.frozen?, World.alloc]; done) | rfl)
  have r10_1 : (w.alloc (.cells #[.int .i64 0, .int .i64 0, .int .i64 0, .bool false, .bool false, .bool false, .bool false, .int .i64 0, .int .i64 0, .int .i64 0, .int .i64 0, .int .i64 0, .slice none 0 0, .slice none 0 0] 30)).cell? ⟨w.heap.size, 10, none⟩ = some (.int .i64 0) := by go_cell
  have rf10_1 : (w.alloc (.cells #[.int .i64 0, .int .i64 0, .int .i64 0, .bool false, .bool false, .bool false, .bool false, .int .i64 0, .int .i64 0, .int .i64 0, .int .i64 0, .int .i64 0, .slice none 0 0, .slice none 0 0] 30)).frozen? ⟨w.heap.size, 10, none⟩ = false := by (first | go_cell | (simp [World.frozen?, World.alloc]; done) | rfl)
  have r11_1 : (w.alloc (.cells #[.int .i64 0, .int .i64 0, .int .i64 0, .bool false, .bool false, .bool false, .bool false, .int .i64 0, .int .i64 0, .int .i64 0, .int .i64 0, .int .i64 0, .slice none 0 0, .slice none 0 0] 30)).cell? ⟨w.heap.size, 11, none⟩ = some (.int .i64 0) := by go_cell
  have rf11_1 : (w.alloc (.cells #[.int .i64 0, .int .i64 0, .int .i64 0, .bool false, .bool false, .bool false, .bool false, .int .i64 0, .int .i64 0, .int .i64 0, .int .i64 0, .int .i64 0, .slice none 0 0, .slice none 0 0] 30)).frozen? ⟨w.heap.size, 11, none⟩ = false := by (first | go_cell | (simp [World.frozen?, World.alloc]; done) | rfl)
  have r12_1 : (w.alloc (.cells #[.int .i64 0, .int .i64 0, .int .i64 0, .bool false, .bool false, .bool false, .bool false, .int .i64 0, .int .i64 0, .int .i64 0, .int .i64 0, .int .i64 0, .slice none 0 0, .slice none 0 0] 30)).cell? ⟨w.heap.size, 12, none⟩ = some (.slice none 0 0) := by go_cell
  have rf12_1 : (w.alloc (.cells #[.int .i64 0, .int .i64 0, .int .i64 0, .bool false, .bool false, .bool false, .bool false, .int .i64 0, .int .i64 0, .int .i64 0, .int .i64 0, .int .i64 0, .slice none 0 0, .slice none 0 0] 30)).frozen? ⟨w.heap.size, 12, none⟩ = false := by (first | go_cell | (simp [World.frozen?, World.alloc]; done) | rfl)
  have r13_1 : (w.alloc (.cells #[.int .i64 0, .int .i64 0, .int .i64 0, .bool false, .bool false, .bool false, .bool false, .int .i64 0, .int .i64 0, .int .i64 0, .int .i64 0, .int .i64 0, .slice none 0 0, .slice none 0 0] 30)).cell? ⟨w.heap.size, 13, none⟩ = some (.slice none 0 0) := by go_cell
  have rf13_1 : (w.alloc (.cells #[.int .i64 0, .int .i64 0, .int .i64 0, .bool false, .bool false, .bool false, .bool false, .int .i64 0, .int .i64 0, .int .i64 0, .int .i64 0, .int .i64 0, .slice none 0 0, .slice none 0 0] 30)).frozen? ⟨w.heap.size, 13, none⟩ = false := by (first | go_cell | (simp [World.frozen?, World.alloc]; done) | rfl)
  have rl_1 : w.heap.size < (w.alloc (.cells #[.int .i64 0, .int .i64 0, .int .i64 0, .bool false, .bool false, .bool false, .bool false, .int .i64 0, .int .i64 0, .int .i64 0, .int .i64 0, .int .i64 0, .slice none 0 0, .slice none 0 0] 30)).heap.size := by first | (simp; done) | (simp; omega)
  have c1 : Below w.heap.size w (w.alloc (.cells #[.int .i64 0, .int .i64 0, .int .i64 0, .bool false, .bool false, .bool false, .bool false, .int .i64 0, .int .i64 0, .int .i64 0, .int .i64 0, .int .i64 0, .slice none 0 0, .slice none 0 0] 30)) := by go_grown
  have s1 : (w.alloc (.cells #[.int .i64 0, .int .i64 0, .int .i64 0, .bool false, .bool false, .bool false, .bool false, .int .i64 0, .int .i64 0, .int .i64 0, .int .i64 0, .int .i64 0, .slice none 0 0, .slice none 0 0] 30)).heap.size = w.heap.size + 1 := by simp
  generalize (w.alloc (.cells #[.int .i64 0, .int .i64 0, .int .i64 0, .bool false, .bool false, .bool false, .bool false, .int .i64 0, .int .i64 0, .int .i64 0, .int .i64 0, .int .i64 0, .slice none 0 0, .slice none 0 0] 30)) = w1 at r0_1 rf0_1 r1_1 rf1_1 r2_1 rf2_1 r3_1 rf3_1 r4_1 rf4_1 r5_1 rf5_1 r6_1 rf6_1 r7_1 rf7_1 r8_1 rf8_1 r9_1 rf9_1 r10_1 rf10_1 r11_1 rf11_1 r12_1 rf12_1 r13_1 rf13_1 rl_1 c1 s1 ⊢
  have qr0_1 := cell_regrown r0_1
  have qr1_1 := cell_regrown r1_1
  have qr2_1 := cell_regrown r2_1
  have qr3_1 := cell_regrown r3_1
  have qr4_1 := cell_regrown r4_1
  have qr5_1 := cell_regrown r5_1
  have qr6_1 := cell_regrown r6_1
  have qr7_1 := cell_regrown r7_1
  have qr8_1 := cell_regrown r8_1
  have qr9_1 := cell_regrown r9_1
  have qr10_1 := cell_regrown r10_1
  have qr11_1 := cell_regrown r11_1
  have qr12_1 := cell_regrown r12_1
  have qr13_1 := cell_regrown r13_1
  refine (implCOpen_any _).mono ?_
  rintro e w2 ⟨⟨g, rfl, hg0, hg1, hr⟩, b2⟩
  have HR := hid hr
  clear hr
  have d2 : Below w1.heap.size w1 w2 := (Below.trans (by go_grown) (b2.mono (by first | omega | (simp; done) | (simp; omega))))
  have c2 : Below w.heap.size w w2 := c1.trans (d2.mono c1.size)
  have r0_2 : w2.cell? ⟨w.heap.size, 0, none⟩ = some (.int .i64 0) := (by rw [b2.cell (by first | omega | (simp; done) | (simp; omega))]; go_cell)
  have rf0_2 : w2.frozen? ⟨w.heap.size, 0, none⟩ = false := (by rw [b2.frozen (by first | omega | (simp; done) | (simp; omega))]; (first | go_cell | (simp [World.frozen?, World.alloc]; done) | rfl))
  have r1_2 : w2.cell? ⟨w.heap.size, 1, none⟩ = some (.int .i64 0) := (by rw [b2.cell (by first | omega | (simp; done) | (simp; omega))]; go_cell)
  have rf1_2 : w2.frozen? ⟨w.heap.size, 1, none⟩ = false := (by rw [b2.frozen (by first | omega | (simp; done) | (simp; omega))]; (first | go_cell | (simp [World.frozen?, World.alloc]; done) | rfl))
  have r2_2 : w2.cell? ⟨w.heap.size, 2, none⟩ = some (.int .i64 0) := (by rw [b2.cell (by first | omega | (simp; done) | (simp; omega))]; go_cell)
  have rf2_2 : w2.frozen? ⟨w.heap.size, 2, none⟩ = false := (by rw [b2.frozen (by first | omega | (simp; done) | (simp; omega))]; (first | go_cell | (simp [World.frozen?, World.alloc]; done) | rfl))
  have r3_2 : w2.cell? ⟨w.heap.size, 3, none⟩ = some (.bool false) := (by rw [b2.cell (by first | omega | (simp; done) | (simp; omega))]; go_cell)
  have rf3_2 : w2.frozen? ⟨w.heap.size, 3, none⟩ = false := (by rw [b2.frozen (by first | omega | (simp; done) | (simp; omega))]; (first | go_cell | (simp [World.frozen?, World.alloc]; done) | rfl))
  have r4_2 : w2.cell? ⟨w.heap.size, 4, none⟩ = some (.bool false) := (by rw [b2.cell (by first | omega | (simp; done) | (simp; omega))]; go_cell)
  have rf4_2 : w2.frozen? ⟨w.heap.size, 4, none⟩ = false := (by rw [b2.frozen (by first | omega | (simp; done) | (simp; omega))]; (first | go_cell | (simp [World.frozen?, World.alloc]; done) | rfl))
  have r5_2 : w2.cell? ⟨w.heap.size, 5, none⟩ = some (.bool false) := (by rw [b2.cell (by first | omega | (simp; done) | (simp; omega))]; go_cell)
  have rf5_2 : w2.frozen? ⟨w.heap.size, 5, none⟩ = false := (by rw [b2.frozen (by first | omega | (simp; done) | (simp; omega))]; (first | go_cell | (simp [World.frozen?, World.alloc]; done) | rfl))
  have r6_2 : w2.cell? ⟨w.heap.size, 6, none⟩ = some (.bool false) := (by rw [b2.cell (by first | omega | (simp; done) | (simp; omega))]; go_cell)
  have rf6_2 : w2.frozen? ⟨w.heap.size, 6, none⟩ = false := (by rw [b2.frozen (by first | omega | (simp; done) | (simp; omega))]; (first | go_cell | (simp [World.frozen?, World.alloc]; done) | rfl))
  have r7_2 : w2.cell? ⟨w.heap.size, 7, none⟩ = some (.int .i64 0) := (by rw [b2.cell (by first | omega | (simp; done) | (simp; omega))]; go_cell)
  have rf7_2 : w2.frozen? ⟨w.heap.size, 7, none⟩ = false := (by rw [b2.frozen (by first | omega | (simp; done) | (simp; omega))]; (first | go_cell | (simp [World.frozen?, World.alloc]; done) | rfl))
  have r8_2 : w2.cell? ⟨w.heap.size, 8, none⟩ = some (.int .i64 0) := (by rw [b2.cell (by first | omega | (simp; done) | (simp; omega))]; go_cell)
  have rf8_2 : w2.frozen? ⟨w.heap.size, 8, none⟩ = false := (by rw [b2.frozen (by first | omega | (simp; done) | (simp; omega))]; (first | go_cell | (simp [World.frozen?, World.alloc]; done) | rfl))
  have r9_2 : w2.cell? ⟨w.heap.size, 9, none⟩ = some (.int .i64 0) := (by rw [b2.cell (by first | omega | (simp; done) | (simp; omega))]; go_cell)
  have rf9_2 : w2.frozen? ⟨w.heap.size, 9, none⟩ = false := (by rw [b2.frozen (by first | omega | (simp; done) | (simp; omega))]; (first | go_cell | (simp [World.frozen?, World.alloc]; done) | rfl))
  have r10_2 : w2.cell? ⟨w.heap.size, 10, none⟩ = some (.int .i64 0) := (by rw [b2.cell (by first | omega | (simp; done) | (simp; omega))]; go_cell)
  have rf10_2 : w2.frozen? ⟨w.heap.size, 10, none⟩ = false := (by rw [b2.frozen (by first | omega | (simp; done) | (simp; omega))]; (first | go_cell | (simp [World.frozen?, World.alloc]; done) | rfl))
  have r11_2 : w2.cell? ⟨w.heap.size, 11, none⟩ = some (.int .i64 0) := (by rw [b2.cell (by first | omega | (simp; done) | (simp; omega))]; go_cell)
  have rf11_2 : w2.frozen? ⟨w.heap.size, 11, none⟩ = false := (by rw [b2.frozen (by first | omega | (simp; done) | (simp; omega))]; (first | go_cell | (simp [World.frozen?, World.alloc]; done) | rfl))
  have r12_2 : w2.cell? ⟨w.heap.size, 12, none⟩ = some (.slice none 0 0) := (by rw [b2.cell (by first | omega | (simp; done) | (simp; omega))]; go_cell)
  have rf12_2 : w2.frozen? ⟨w.heap.size, 12, none⟩ = false := (by rw [b2.frozen (by first | omega | (simp; done) | (simp; omega))]; (first | go_cell | (simp [World.frozen?, World.alloc]; done) | rfl))
  have r13_2 : w2.cell? ⟨w.heap.size, 13, none⟩ = some (.slice none 0 0) := (by rw [b2.cell (by first | omega | (simp; done) | (simp; omega))]; go_cell)
  have rf13_2 : w2.frozen? ⟨w.heap.size, 13, none⟩ = false := (by rw [b2.frozen (by first | omega | (simp; done) | (simp; omega))]; (first | go_cell | (simp [World.frozen?, World.alloc]; done) | rfl))
  have rl_2 : w.heap.size < w2.heap.size := (by have := b2.size; first | omega | (revert this; simp; done) | (revert this; simp; omega))
  clear r0_1 rf0_1 r1_1 rf1_1 r2_1 rf2_1 r3_1 rf3_1 r4_1 rf4_1 r5_1 rf5_1 r6_1 rf6_1 r7_1 rf7_1 r8_1 rf8_1 r9_1 rf9_1 r10_1 rf10_1 r11_1 rf11_1 r12_1 rf12_1 r13_1 rf13_1 rl_1
  clear b2 d2
  go_wp2_with fail
  have e0 : ((((((((((((((w2.setCell ⟨w.heap.size, 0, none⟩ (.int .i64 n0)).setCell ⟨w.heap.size, 1, none⟩ (.int .i64 0)).setCell ⟨w.heap.size, 2, none⟩ (.int .i64 0)).setCell ⟨w.heap.size, 3, none⟩ (.bool false)).setCell ⟨w.heap.size, 4, none⟩ (.bool false)).setCell ⟨w.heap.size, 5, none⟩ (.bool false)).setCell ⟨w.heap.size, 6, none⟩ (.bool false)).setCell ⟨w.heap.size, 7, none⟩ (.int .i64 0)).setCell ⟨w.heap.size, 8, none⟩ (.int .i64 0)).setCell ⟨w.heap.size, 9, none⟩ (.int .i64 0)).setCell ⟨w.heap.size, 10, none⟩ (.int .i64 0)).setCell ⟨w.heap.size, 11, none⟩ (.int .i64 0)).setCell ⟨w.heap.size, 12, none⟩ (.slice none 0 0)).setCell ⟨w.heap.size, 13, none⟩ (.slice (some ⟨g, 84, none⟩) 24 24)).cell? ⟨w.heap.size, 0, none⟩ = some (.int .i64 n0) := by go_cell
  have e1 : ((((((((((((((w2.setCell ⟨w.heap.size, 0, none⟩ (.int .i64 n0)).setCell ⟨w.heap.size, 1, none⟩ (.int .i64 0)).setCell ⟨w.heap.size, 2, none⟩ (.int .i64 0)).setCell ⟨w.heap.size, 3, none⟩ (.bool false)).setCell ⟨w.heap.size, 4, none⟩ (.bool false)).setCell ⟨w.heap.size, 5, none⟩ (.bool false)).setCell ⟨w.heap.size, 6, none⟩ (.bool false)).setCell ⟨w.heap.size, 7, none⟩ (.int .i64 0)).setCell ⟨w.heap.size, 8, none⟩ (.int .i64 0)).setCell ⟨w.heap.size, 9, none⟩ (.int .i64 0)).setCell ⟨w.heap.size, 10, none⟩ (.int .i64 0)).setCell ⟨w.heap.size, 11, none⟩ (.int .i64 0)).setCell ⟨w.heap.size, 12, none⟩ (.slice none 0 0)).setCell ⟨w.heap.size, 13, none⟩ (.slice (some ⟨g, 84, none⟩) 24 24)).cell? ⟨w.heap.size, 1, none⟩ = some (.int .i64 0) := by go_cell
  have e2 : ((((((((((((((w2.setCell ⟨w.heap.size, 0, none⟩ (.int .i64 n0)).setCell ⟨w.heap.size, 1, none⟩ (.int .i64 0)).setCell ⟨w.heap.size, 2, none⟩ (.int .i64 0)).setCell ⟨w.heap.size, 3, none⟩ (.bool false)).setCell ⟨w.heap.size, 4, none⟩ (.bool false)).setCell ⟨w.heap.size, 5, none⟩ (.bool false)).setCell ⟨w.heap.size, 6, none⟩ (.bool false)).setCell ⟨w.heap.size, 7, none⟩ (.int .i64 0)).setCell ⟨w.heap.size, 8, none⟩ (.int .i64 0)).setCell ⟨w.heap.size, 9, none⟩ (.int .i64 0)).setCell ⟨w.heap.size, 10, none⟩ (.int .i64 0)).setCell ⟨w.heap.size, 11, none⟩ (.int .i64 0)).setCell ⟨w.heap.size, 12, none⟩ (.slice none 0 0)).setCell ⟨w.heap.size, 13, none⟩ (.slice (some ⟨g, 84, none⟩) 24 24)).cell? ⟨w.heap.size, 2, none⟩ = some (.int .i64 0) := by go_cell
  have e3 : ((((((((((((((w2.setCell ⟨w.heap.size, 0, none⟩ (.int .i64 n0)).setCell ⟨w.heap.size, 1, none⟩ (.int .i64 0)).setCell ⟨w.heap.size, 2, none⟩ (.int .i64 0)).setCell ⟨w.heap.size, 3, none⟩ (.bool false)).setCell ⟨w.heap.size, 4, none⟩ (.bool false)).setCell ⟨w.heap.size, 5, none⟩ (.bool false)).setCell ⟨w.heap.size, 6, none⟩ (.bool false)).setCell ⟨w.heap.size, 7, none⟩ (.int .i64 0)).setCell ⟨w.heap.size, 8, none⟩ (.int .i64 0)).setCell ⟨w.heap.size, 9, none⟩ (.int .i64 0)).setCell ⟨w.heap.size, 10, none⟩ (.int .i64 0)).setCell ⟨w.heap.size, 11, none⟩ (.int .i64 0)).setCell ⟨w.heap.size, 12, none⟩ (.slice none 0 0)).setCell ⟨w.heap.size, 13, none⟩ (.slice (some ⟨g, 84, none⟩) 24 24)).cell? ⟨w.heap.size, 3, none⟩ = some (.bool false) := by go_cell
  have e4 : ((((((((((((((w2.setCell ⟨w.heap.size, 0, none⟩ (.int .i64 n0)).setCell ⟨w.heap.size, 1, none⟩ (.int .i64 0)).setCell ⟨w.heap.size, 2, none⟩ (.int .i64 0)).setCell ⟨w.heap.size, 3, none⟩ (.bool false)).setCell ⟨w.heap.size, 4, none⟩ (.bool false)).setCell ⟨w.heap.size, 5, none⟩ (.bool false)).setCell ⟨w.heap.size, 6, none⟩ (.bool false)).setCell ⟨w.heap.size, 7, none⟩ (.int .i64 0)).setCell ⟨w.heap.size, 8, none⟩ (.int .i64 0)).setCell ⟨w.heap.size, 9, none⟩ (.int .i64 0)).setCell ⟨w.heap.size, 10, none⟩ (.int .i64 0)).setCell ⟨w.heap.size, 11, none⟩ (.int .i64 0)).setCell ⟨w.heap.size, 12, none⟩ (.slice none 0 0)).setCell ⟨w.heap.size, 13, none⟩ (.slice (some ⟨g, 84, none⟩) 24 24)).cell? ⟨w.heap.size, 4, none⟩ = some (.bool false) := by go_cell
  have e5 : ((((((((((((((w2.setCell ⟨w.heap.size, 0, none⟩ (.int .i64 n0)).setCell ⟨w.heap.size, 1, none⟩ (.int .i64 0)).setCell ⟨w.heap.size, 2, none⟩ (.int .i64 0)).setCell ⟨w.heap.size, 3, none⟩ (.bool false)).setCell ⟨w.heap.size, 4, none⟩ (.bool false)).setCell ⟨w.heap.size, 5, none⟩ (.bool false)).setCell ⟨w.heap.size, 6, none⟩ (.bool false)).setCell ⟨w.heap.size, 7, none⟩ (.int .i64 0)).setCell ⟨w.heap.size, 8, none⟩ (.int .i64 0)).setCell ⟨w.heap.size, 9, none⟩ (.int .i64 0)).setCell ⟨w.heap.size, 10, none⟩ (.int .i64 0)).setCell ⟨w.heap.size, 11, none⟩ (.int .i64 0)).setCell ⟨w.heap.size, 12, none⟩ (.slice none 0 0)).setCell ⟨w.heap.size, 13, none⟩ (.slice (some ⟨g, 84, none⟩) 24 24)).cell? ⟨w.heap.size, 5, none⟩ = some (.bool false) := by go_cell
  have e6 : ((((((((((((((w2.setCell ⟨w.heap.size, 0, none⟩ (.int .i64 n0)).setCell ⟨w.heap.size, 1, none⟩ (.int .i64 0)).setCell ⟨w.heap.size, 2, none⟩ (.int .i64 0)).setCell ⟨w.heap.size, 3, none⟩ (.bool false)).setCell ⟨w.heap.size, 4, none⟩ (.bool false)).setCell ⟨w.heap.size, 5, none⟩ (.bool false)).setCell ⟨w.heap.size, 6, none⟩ (.bool false)).setCell ⟨w.heap.size, 7, none⟩ (.int .i64 0)).setCell ⟨w.heap.size, 8, none⟩ (.int .i64 0)).setCell ⟨w.heap.size, 9, none⟩ (.int .i64 0)).setCell ⟨w.heap.size, 10, none⟩ (.int .i64 0)).setCell ⟨w.heap.size, 11, none⟩ (.int .i64 0)).setCell ⟨w.heap.size, 12, none⟩ (.slice none 0 0)).setCell ⟨w.heap.size, 13, none⟩ (.slice (some ⟨g, 84, none⟩) 24 24)).cell? ⟨w.heap.size, 6, none⟩ = some (.bool false) := by go_cell
  have e7 : ((((((((((((((w2.setCell ⟨w.heap.size, 0, none⟩ (.int .i64 n0)).setCell ⟨w.heap.size, 1, none⟩ (.int .i64 0)).setCell ⟨w.heap.size, 2, none⟩ (.int .i64 0)).setCell ⟨w.heap.size, 3, none⟩ (.bool false)).setCell ⟨w.heap.size, 4, none⟩ (.bool false)).setCell ⟨w.heap.size, 5, none⟩ (.bool false)).setCell ⟨w.heap.size, 6, none⟩ (.bool false)).setCell ⟨w.heap.size, 7, none⟩ (.int .i64 0)).setCell ⟨w.heap.size, 8, none⟩ (.int .i64 0)).setCell ⟨w.heap.size, 9, none⟩ (.int .i64 0)).setCell ⟨w.heap.size, 10, none⟩ (.int .i64 0)).setCell ⟨w.heap.size, 11, none⟩ (.int .i64 0)).setCell ⟨w.heap.size, 12, none⟩ (.slice none 0 0)).setCell ⟨w.heap.size, 13, none⟩ (.slice (some ⟨g, 84, none⟩) 24 24)).cell? ⟨w.heap.size, 7, none⟩ = some (.int .i64 0) := by go_cell
  have e8 : ((((((((((((((w2.setCell ⟨w.heap.size, 0, none⟩ (.int .i64 n0)).setCell ⟨w.heap.size, 1, none⟩ (.int .i64 0)).setCell ⟨w.heap.size, 2, none⟩ (.int .i64 0)).setCell ⟨w.heap.size, 3, none⟩ (.bool false)).setCell ⟨w.heap.size, 4, none⟩ (.bool false)).setCell ⟨w.heap.size, 5, none⟩ (.bool false)).setCell ⟨w.heap.size, 6, none⟩ (.bool false)).setCell ⟨w.heap.size, 7, none⟩ (.int .i64 0)).setCell ⟨w.heap.size, 8, none⟩ (.int .i64 0)).setCell ⟨w.heap.size, 9, none⟩ (.int .i64 0)).setCell ⟨w.heap.size, 10, none⟩ (.int .i64 0)).setCell ⟨w.heap.size, 11, none⟩ (.int .i64 0)).setCell ⟨w.heap.size, 12, none⟩ (.slice none 0 0)).setCell ⟨w.heap.size, 13, none⟩ (.slice (some ⟨g, 84, none⟩) 24 24)).cell? ⟨w.heap.size, 8, none⟩ = some (.int .i64 0) := by go_cell
  have e9 : ((((((((((((((w2.setCell ⟨w.heap.size, 0, none⟩ (.int .i64 n0)).setCell ⟨w.heap.size, 1, none⟩ (.int .i64 0)).setCell ⟨w.heap.size, 2, none⟩ (.int .i64 0)).setCell ⟨w.heap.size, 3, none⟩ (.bool false)).setCell ⟨w.heap.size, 4, none⟩ (.bool false)).setCell ⟨w.heap.size, 5, none⟩ (.bool false)).setCell ⟨w.heap.size, 6, none⟩ (.bool false)).setCell ⟨w.heap.size, 7, none⟩ (.int .i64 0)).setCell ⟨w.heap.size, 8, none⟩ (.int .i64 0)).setCell ⟨w.heap.size, 9, none⟩ (.int .i64 0)).setCell ⟨w.heap.size, 10, none⟩ (.int .i64 0)).setCell ⟨w.heap.size, 11, none⟩ (.int .i64 0)).setCell ⟨w.heap.size, 12, none⟩ (.slice none 0 0)).setCell ⟨w.heap.size, 13, none⟩ (.slice (some ⟨g, 84, none⟩) 24 24)).cell? ⟨w.heap.size, 9, none⟩ = some (.int .i64 0) := by go_cell
  have e10 : ((((((((((((((w2.setCell ⟨w.heap.size, 0, none⟩ (.int .i64 n0)).setCell ⟨w.heap.size, 1, none⟩ (.int .i64 0)).setCell ⟨w.heap.size, 2, none⟩ (.int .i64 0)).setCell ⟨w.heap.size, 3, none⟩ (.bool false)).setCell ⟨w.heap.size, 4, none⟩ (.bool false)).setCell ⟨w.heap.size, 5, none⟩ (.bool false)).setCell ⟨w.heap.size, 6, none⟩ (.bool false)).setCell ⟨w.heap.size, 7, none⟩ (.int .i64 0)).setCell ⟨w.heap.size, 8, none⟩ (.int .i64 0)).setCell ⟨w.heap.size, 9, none⟩ (.int .i64 0)).setCell ⟨w.heap.size, 10, none⟩ (.int .i64 0)).setCell ⟨w.heap.size, 11, none⟩ (.int .i64 0)).setCell ⟨w.heap.size, 12, none⟩ (.slice none 0 0)).setCell ⟨w.heap.size, 13, none⟩ (.slice (some ⟨g, 84, none⟩) 24 24)).cell? ⟨w.heap.size, 10, none⟩ = some (.int .i64 0) := by go_cell
  have e11 : ((((((((((((((w2.setCell ⟨w.heap.size, 0, none⟩ (.int .i64 n0)).setCell ⟨w.heap.size, 1, none⟩ (.int .i64 0)).setCell ⟨w.heap.size, 2, none⟩ (.int .i64 0)).setCell ⟨w.heap.size, 3, none⟩ (.bool false)).setCell ⟨w.heap.size, 4, none⟩ (.bool false)).setCell ⟨w.heap.size, 5, none⟩ (.bool false)).setCell ⟨w.heap.size, 6, none⟩ (.bool false)).setCell ⟨w.heap.size, 7, none⟩ (.int .i64 0)).setCell ⟨w.heap.size, 8, none⟩ (.int .i64 0)).setCell ⟨w.heap.size, 9, none⟩ (.int .i64 0)).setCell ⟨w.heap.size, 10, none⟩ (.int .i64 0)).setCell ⟨w.heap.size, 11, none⟩ (.int .i64 0)).setCell ⟨w.heap.size, 12, none⟩ (.slice none 0 0)).setCell ⟨w.heap.size, 13, none⟩ (.slice (some ⟨g, 84, none⟩) 24 24)).cell? ⟨w.heap.size, 11, none⟩ = some (.int .i64 0) := by go_cell
  have e12 : ((((((((((((((w2.setCell ⟨w.heap.size, 0, none⟩ (.int .i64 n0)).setCell ⟨w.heap.size, 1, none⟩ (.int .i64 0)).setCell ⟨w.heap.size, 2, none⟩ (.int .i64 0)).setCell ⟨w.heap.size, 3, none⟩ (.bool false)).setCell ⟨w.heap.size, 4, none⟩ (.bool false)).setCell ⟨w.heap.size, 5, none⟩ (.bool false)).setCell ⟨w.heap.size, 6, none⟩ (.bool false)).setCell ⟨w.heap.size, 7, none⟩ (.int .i64 0)).setCell ⟨w.heap.size, 8, none⟩ (.int .i64 0)).setCell ⟨w.heap.size, 9, none⟩ (.int .i64 0)).setCell ⟨w.heap.size, 10, none⟩ (.int .i64 0)).setCell ⟨w.heap.size, 11, none⟩ (.int .i64 0)).setCell ⟨w.heap.size, 12, none⟩ (.slice none 0 0)).setCell ⟨w.heap.size, 13, none⟩ (.slice (some ⟨g, 84, none⟩) 24 24)).cell? ⟨w.heap.size, 12, none⟩ = some (.slice none 0 0) := by go_cell
  have e13 : ((((((((((((((w2.setCell ⟨w.heap.size, 0, none⟩ (.int .i64 n0)).setCell ⟨w.heap.size, 1, none⟩ (.int .i64 0)).setCell ⟨w.heap.size, 2, none⟩ (.int .i64 0)).setCell ⟨w.heap.size, 3, none⟩ (.bool false)).setCell ⟨w.heap.size, 4, none⟩ (.bool false)).setCell ⟨w.heap.size, 5, none⟩ (.bool false)).setCell ⟨w.heap.size, 6, none⟩ (.bool false)).setCell ⟨w.heap.size, 7, none⟩ (.int .i64 0)).setCell ⟨w.heap.size, 8, none⟩ (.int .i64 0)).setCell ⟨w.heap.size, 9, none⟩ (.int .i64 0)).setCell ⟨w.heap.size, 10, none⟩ (.int .i64 0)).setCell ⟨w.heap.size, 11, none⟩ (.int .i64 0)).setCell ⟨w.heap.size, 12, none⟩ (.slice none 0 0)).setCell ⟨w.heap.size, 13, none⟩ (.slice (some ⟨g, 84, none⟩) 24 24)).cell? ⟨w.heap.size, 13, none⟩ = some (.slice (some ⟨g, 84, none⟩) 24 24) := by go_cell
  refine bodyPost_ret (v := .agg #[.int .i64 n0, .int .i64 0, .int .i64 0, .bool false, .bool false, .bool false, .bool false, .int .i64 0, .int .i64 0, .int .i64 0, .int .i64 0, .int .i64 0, .slice none 0 0, .slice (some ⟨g, 84, none⟩) 24 24]) (by simp [results, Try.results5, go_sem, e0, e1, e2, e3, e4, e5, e6, e7, e8, e9, e10, e11, e12, e13]) rfl ⟨⟨g, rfl, by omega, by simpa using hg1, ?_⟩, ?_⟩
  · exact ((((((((((((((HR.out.set (p := ⟨w.heap.size, 0, none⟩) (by show w.heap.size ≠ _; omega) _).set (p := ⟨w.heap.size, 1, none⟩) (by show w.heap.size ≠ _; omega) _).set (p := ⟨w.heap.size, 2, none⟩) (by show w.heap.size ≠ _; omega) _).set (p := ⟨w.heap.size, 3, none⟩) (by show w.heap.size ≠ _; omega) _).set (p := ⟨w.heap.size, 4, none⟩) (by show w.heap.size ≠ _; omega) _).set (p := ⟨w.heap.size, 5, none⟩) (by show w.heap.size ≠ _; omega) _).set (p := ⟨w.heap.size, 6, none⟩) (by show w.heap.size ≠ _; omega) _).set (p := ⟨w.heap.size, 7, none⟩) (by show w.heap.size ≠ _; omega) _).set (p := ⟨w.heap.size, 8, none⟩) (by show w.heap.size ≠ _; omega) _).set (p := ⟨w.heap.size, 9, none⟩) (by show w.heap.size ≠ _; omega) _).set (p := ⟨w.heap.size, 10, none⟩) (by show w.heap.size ≠ _; omega) _).set (p := ⟨w.heap.size, 11, none⟩) (by show w.heap.size ≠ _; omega) _).set (p := ⟨w.heap.size, 12, none⟩) (by show w.heap.size ≠ _; omega) _).set (p := ⟨w.heap.size, 13, none⟩) (by show w.heap.size ≠ _; omega) _)
  · exact ((((((((((((((c2.setCell (p := ⟨w.heap.size, 0, none⟩) (Nat.le_refl _) _).setCell (p := ⟨w.heap.size, 1, none⟩) (Nat.le_refl _) _).setCell (p := ⟨w.heap.size, 2, none⟩) (Nat.le_refl _) _).setCell (p := ⟨w.heap.size, 3, none⟩) (Nat.le_refl _) _).setCell (p := ⟨w.heap.size, 4, none⟩) (Nat.le_refl _) _).setCell (p := ⟨w.heap.size, 5, none⟩) (Nat.le_refl _) _).setCell (p := ⟨w.heap.size, 6, none⟩) (Nat.le_refl _) _).setCell (p := ⟨w.heap.size, 7, none⟩) (Nat.le_refl _) _).setCell (p := ⟨w.heap.size, 8, none⟩) (Nat.le_refl _) _).setCell (p := ⟨w.heap.size, 9, none⟩) (Nat.le_refl _) _).setCell (p := ⟨w.heap.size, 10, none⟩) (Nat.le_refl _) _).setCell (p := ⟨w.heap.size, 11, none⟩) (Nat.le_refl _) _).setCell (p := ⟨w.heap.size, 12, none⟩) (Nat.le_refl _) _).setCell (p := ⟨w.heap.size, 13, none⟩) (Nat.le_refl _) _)
set_option maxRecDepth 100000 in
set_option maxHeartbeats 4000000 in
theorem implTOpen_out (n0 : Int) (h : ¬ (0 ≤ n0 ∧ n0 < 2)) (w : World) : Calls Try.prog 5 #[.int .i64 n0] w fun e w' => e = .returned (.agg #[.int .i64 0, .int .i64 0, .int .i64 0, .bool false, .bool false, .bool false, .bool false, .int .i64 0, .int .i64 0, .int .i64 0, .int .i64 0, .int .i64 0, .slice none 0 0, .slice none 0 0]) ∧ Below w.heap.size w w' := by
  by_cases n1 : n0 < 0
  · go_enter Try.func5, Try.ntmps5
    go_wp2
    refine bodyPost_ret (v := .agg #[.int .i64 0, .int .i64 0, .int .i64 0, .bool false, .bool false, .bool false, .bool false, .int .i64 0, .int .i64 0, .int .i64 0, .int .i64 0, .int .i64 0, .slice none 0 0, .slice none 0 0]) (by simp [results, Try.results5, go_sem]) rfl ⟨rfl, ?_⟩
    go_grown
  · have n2 : n0 ≥ 2 := by omega
    clear h
    go_enter Try.func5, Try.ntmps5
    go_wp2
    refine bodyPost_ret (v := .agg #[.int .i64 0, .int .i64 0, .int .i64 0, .bool false, .bool false, .bool false, .bool false, .int .i64 0, .int .i64 0, .int .i64 0, .int .i64 0, .int .i64 0, .slice none 0 0, .slice none 0 0]) (by simp [results, Try.results5, go_sem]) rfl ⟨rfl, ?_⟩
    go_grown
theorem RowN.rs {w : World} {g o : Nat} {f : Nat → Int} (h : RowN w g o f) (hg : g < w.heap.size) : RSCache w (.slice none 0 0) (.slice (some ⟨g, o, none⟩) 24 24) [] ((List.range 24).map fun i => ([f i], [])) := ⟨RdM.nil _ none 0, h.rd hg⟩
theorem nilRS (w : World) : RSCache w (.slice none 0 0) (.slice none 0 0) [] [] := ⟨RdM.nil _ none 0, RdM.nil _ none 0⟩
theorem markInts_nil (k : Int) (w : World) : Calls Try.prog 20 #[.slice none 0 0, .int .i64 k] w fun e w' => e = .returned (.int .i64 k) ∧ w' = w := by
  go_enter Try.func20, Try.ntmps20
  go_wp2
  go_loop [1, 5] (fun kk i => i = .int .i64 0 ∧ kk = .int .i64 k) (fun _ _ => 0)
  case atStart => exact ⟨rfl, rfl⟩
  case round =>
    obtain ⟨rfl, rfl⟩ := hrel
    go_wp2
    go_ret
    exact ⟨by simp, rfl⟩
theorem heldInts_nil (k : Int) (w : World) : Calls Try.prog 22 #[.slice none 0 0, .int .i64 k] w fun e w' => e = .returned (.int .i64 k) ∧ w' = w := by
  go_enter Try.func22, Try.ntmps22
  go_wp2
  go_loop [1, 5] (fun kk i => i = .int .i64 0 ∧ kk = .int .i64 k) (fun _ _ => 0)
  case atStart => exact ⟨rfl, rfl⟩
  case round =>
    obtain ⟨rfl, rfl⟩ := hrel
    go_wp2
    go_ret
    exact ⟨by simp, rfl⟩
theorem markCache_n (w : World) : Calls Try.prog 14 #[.agg #[.slice none 0 0, .slice none 0 0], .int .i64 1] w fun e w' => e = .returned (.int .i64 1) ∧ Below w.heap.size w w' := by
  go_enter Try.func14, Try.ntmps14
  go_wp2_with fail
  have a0_1 : (w.alloc (.cells #[.slice none 0 0, .slice none 0 0] 28)).cell? ⟨w.heap.size, 0, none⟩ = some (.slice none 0 0) := by go_cell
  have a1_1 : (w.alloc (.cells #[.slice none 0 0, .slice none 0 0] 28)).cell? ⟨w.heap.size, 1, none⟩ = some (.slice none 0 0) := by go_cell
  have al_1 : w.heap.size < (w.alloc (.cells #[.slice none 0 0, .slice none 0 0] 28)).heap.size := by first | (simp; done) | (simp; omega)
  have c1 : Below w.heap.size w (w.alloc (.cells #[.slice none 0 0, .slice none 0 0] 28)) := by go_grown
  have s1 : (w.alloc (.cells #[.slice none 0 0, .slice none 0 0] 28)).heap.size = w.heap.size + 1 := by simp
  generalize (w.alloc (.cells #[.slice none 0 0, .slice none 0 0] 28)) = w1 at a0_1 a1_1 al_1 c1 s1 ⊢
  have qa0_1 := cell_regrown a0_1
  have qa1_1 := cell_regrown a1_1
  refine (markItems_nil _).mono ?_
  rintro e wz ⟨rfl, hz⟩
  obtain rfl := hz.symm
  clear hz
  go_wp2_with fail
  refine (markInts_nil 1 _).mono ?_
  rintro e wz ⟨rfl, hz⟩
  obtain rfl := hz.symm
  clear hz
  go_wp2
  go_ret
  exact ⟨by simp, c1⟩
theorem heldCache_n (w : World) : Calls Try.prog 15 #[.agg #[.slice none 0 0, .slice none 0 0], .int .i64 1] w fun e w' => e = .returned (.int .i64 1) ∧ Below w.heap.size w w' := by
  go_enter Try.func15, Try.ntmps15
  go_wp2_with fail
  have a0_1 : (w.alloc (.cells #[.slice none 0 0, .slice none 0 0] 28)).cell? ⟨w.heap.size, 0, none⟩ = some (.slice none 0 0) := by go_cell
  have a1_1 : (w.alloc (.cells #[.slice none 0 0, .slice none 0 0] 28)).cell? ⟨w.heap.size, 1, none⟩ = some (.slice none 0 0) := by go_cell
  have al_1 : w.heap.size < (w.alloc (.cells #[.slice none 0 0, .slice none 0 0] 28)).heap.size := by first | (simp; done) | (simp; omega)
  have c1 : Below w.heap.size w (w.alloc (.cells #[.slice none 0 0, .slice none 0 0] 28)) := by go_grown
  have s1 : (w.alloc (.cells #[.slice none 0 0, .slice none 0 0] 28)).heap.size = w.heap.size + 1 := by simp
  generalize (w.alloc (.cells #[.slice none 0 0, .slice none 0 0] 28)) = w1 at a0_1 a1_1 al_1 c1 s1 ⊢
  have qa0_1 := cell_regrown a0_1
  have qa1_1 := cell_regrown a1_1
  refine (heldItems_nil _).mono ?_
  rintro e wz ⟨rfl, hz⟩
  obtain rfl := hz.symm
  clear hz
  go_wp2_with fail
  refine (heldInts_nil 1 _).mono ?_
  rintro e wz ⟨rfl, hz⟩
  obtain rfl := hz.symm
  clear hz
  go_wp2
  go_ret
  exact ⟨by simp, c1⟩
set_option maxRecDepth 100000 in
set_option maxHeartbeats 2000000 in
theorem markTier_z (n0 : Int) (g : Nat) (f : Nat → Int) (w : World) (h : RowN w g 84 f) (hg : g < w.heap.size) :
    Calls Try.prog 7 #[.agg #[.int .i64 n0, .int .i64 0, .int .i64 0, .bool false, .bool false, .bool false, .bool false, .int .i64 0, .int .i64 0, .int .i64 0, .int .i64 0, .int .i64 0, .slice none 0 0, .slice (some ⟨g, 84, none⟩) 24 24], .int .i64 1] w fun e w' => e = .returned (.int .i64 25) ∧ RowN w' g 84 (fun i => 1 + (i : Int)) ∧ Only (fun b => b = g) w w' := by
  have HR := hid h
  clear h
  go_enter Try.func7, Try.ntmps7
  go_wp2_with fail
  have a0_1 : (w.alloc (.cells #[.int .i64 n0, .int .i64 0, .int .i64 0, .bool false, .bool false, .bool false, .bool false, .int .i64 0, .int .i64 0, .int .i64 0, .int .i64 0, .int .i64 0, .slice none 0 0, .slice (some ⟨g, 84, none⟩) 24 24] 30)).cell? ⟨w.heap.size, 0, none⟩ = some (.int .i64 n0) := by go_cell
  have a1_1 : (w.alloc (.cells #[.int .i64 n0, .int .i64 0, .int .i64 0, .bool false, .bool false, .bool false, .bool false, .int .i64 0, .int .i64 0, .int .i64 0, .int .i64 0, .int .i64 0, .slice none 0 0, .slice (some ⟨g, 84, none⟩) 24 24] 30)).cell? ⟨w.heap.size, 1, none⟩ = some (.int .i64 0) := by go_cell
  have a2_1 : (w.alloc (.cells #[.int .i64 n0, .int .i64 0, .int .i64 0, .bool false, .bool false, .bool false, .bool false, .int .i64 0, .int .i64 0, .int .i64 0, .int .i64 0, .int .i64 0, .slice none 0 0, .slice (some ⟨g, 84, none⟩) 24 24] 30)).cell? ⟨w.heap.size, 2, none⟩ = some (.int .i64 0) := by go_cell
  have a3_1 : (w.alloc (.cells #[.int .i64 n0, .int .i64 0, .int .i64 0, .bool false, .bool false, .bool false, .bool false, .int .i64 0, .int .i64 0, .int .i64 0, .int .i64 0, .int .i64 0, .slice none 0 0, .slice (some ⟨g, 84, none⟩) 24 24] 30)).cell? ⟨w.heap.size, 3, none⟩ = some (.bool false) := by go_cell
  have a4_1 : (w.alloc (.cells #[.int .i64 n0, .int .i64 0, .int .i64 0, .bool false, .bool false, .bool false, .bool false, .int .i64 0, .int .i64 0, .int .i64 0, .int .i64 0, .int .i64 0, .slice none 0 0, .slice (some ⟨g, 84, none⟩) 24 24] 30)).cell? ⟨w.heap.size, 4, none⟩ = some (.bool false) := by go_cell
  have a5_1 : (w.alloc (.cells #[.int .i64 n0, .int .i64 0, .int .i64 0, .bool false, .bool false, .bool false, .bool false, .int .i64 0, .int .i64 0, .int .i64 0, .int .i64 0, .int .i64 0, .slice none 0 0, .slice (some ⟨g, 84, none⟩) 24 24] 30)).cell? ⟨w.heap.size, 5, none⟩ = some (.bool false) := by go_cell
  have a6_1 : (w.alloc (.cells #[.int .i64 n0, .int .i64 0, .int .i64 0, .bool false, .bool false, .bool false, .bool false, .int .i64 0, .int .i64 0, .int .i64 0, .int .i64 0, .int .i64 0, .slice none 0 0, .slice (some ⟨g, 84, none⟩) 24 24] 30)).cell? ⟨w.heap.size, 6, none⟩ = some (.bool false) := by go_cell
  have a7_1 : (w.alloc (.cells #[.int .i64 n0, .int .i64 0, .int .i64 0, .bool false, .bool false, .bool false, .bool false, .int .i64 0, .int .i64 0, .int .i64 0, .int .i64 0, .int .i64 0, .slice none 0 0, .slice (some ⟨g, 84, none⟩) 24 24] 30)).cell? ⟨w.heap.size, 7, none⟩ = some (.int .i64 0) := by go_cell
  have a8_1 : (w.alloc (.cells #[.int .i64 n0, .int .i64 0, .int .i64 0, .bool false, .bool false, .bool false, .bool false, .int .i64 0, .int .i64 0, .int .i64 0, .int .i64 0, .int .i64 0, .slice none 0 0, .slice (some ⟨g, 84, none⟩) 24 24] 30)).cell? ⟨w.heap.size, 8, none⟩ = some (.int .i64 0) := by go_cell
  have a9_1 : (w.alloc (.cells #[.int .i64 n0, .int .i64 0, .int .i64 0, .bool false, .bool false, .bool false, .bool false, .int .i64 0, .int .i64 0, .int .i64 0, .int .i64 0, .int .i64 0, .slice none 0 0, .slice (some ⟨g, 84, none⟩) 24 24] 30)).cell? ⟨w.heap.size, 9, none⟩ = some (.int .i64 0) := by go_cell
  have a10_1 : (w.alloc (.cells #[.int .i64 n0, .int .i64 0, .int .i64 0, .bool false, .bool false, .bool false, .bool false, .int .i64 0, .int .i64 0, .int .i64 0, .int .i64 0, .int .i64 0, .slice none 0 0, .slice (some ⟨g, 84, none⟩) 24 24] 30)).cell? ⟨w.heap.size, 10, none⟩ = some (.int .i64 0) := by go_cell
  have a11_1 : (w.alloc (.cells #[.int .i64 n0, .int .i64 0, .int .i64 0, .bool false, .bool false, .bool false, .bool false, .int .i64 0, .int .i64 0, .int .i64 0, .int .i64 0, .int .i64 0, .slice none 0 0, .slice (some ⟨g, 84, none⟩) 24 24] 30)).cell? ⟨w.heap.size, 11, none⟩ = some (.int .i64 0) := by go_cell
  have a12_1 : (w.alloc (.cells #[.int .i64 n0, .int .i64 0, .int .i64 0, .bool false, .bool false, .bool false, .bool false, .int .i64 0, .int .i64 0, .int .i64 0, .int .i64 0, .int .i64 0, .slice none 0 0, .slice (some ⟨g, 84, none⟩) 24 24] 30)).cell? ⟨w.heap.size, 12, none⟩ = some (.slice none 0 0) := by go_cell
  have a13_1 : (w.alloc (.cells #[.int .i64 n0, .int .i64 0, .int .i64 0, .bool false, .bool false, .bool false, .bool false, .int .i64 0, .int .i64 0, .int .i64 0, .int .i64 0, .int .i64 0, .slice none 0 0, .slice (some ⟨g, 84, none⟩) 24 24] 30)).cell? ⟨w.heap.size, 13, none⟩ = some (.slice (some ⟨g, 84, none⟩) 24 24) := by go_cell
  have al_1 : w.heap.size < (w.alloc (.cells #[.int .i64 n0, .int .i64 0, .int .i64 0, .bool false, .bool false, .bool false, .bool false, .int .i64 0, .int .i64 0, .int .i64 0, .int .i64 0, .int .i64 0, .slice none 0 0, .slice (some ⟨g, 84, none⟩) 24 24] 30)).heap.size := by first | (simp; done) | (simp; omega)
  have c1 : Below w.heap.size w (w.alloc (.cells #[.int .i64 n0, .int .i64 0, .int .i64 0, .bool false, .bool false, .bool false, .bool false, .int .i64 0, .int .i64 0, .int .i64 0, .int .i64 0, .int .i64 0, .slice none 0 0, .slice (some ⟨g, 84, none⟩) 24 24] 30)) := by go_grown
  have s1 : (w.alloc (.cells #[.int .i64 n0, .int .i64 0, .int .i64 0, .bool false, .bool false, .bool false, .bool false, .int .i64 0, .int .i64 0, .int .i64 0, .int .i64 0, .int .i64 0, .slice none 0 0, .slice (some ⟨g, 84, none⟩) 24 24] 30)).heap.size = w.heap.size + 1 := by simp
  generalize (w.alloc (.cells #[.int .i64 n0, .int .i64 0, .int .i64 0, .bool false, .bool false, .bool false, .bool false, .int .i64 0, .int .i64 0, .int .i64 0, .int .i64 0, .int .i64 0, .slice none 0 0, .slice (some ⟨g, 84, none⟩) 24 24] 30)) = w1 at a0_1 a1_1 a2_1 a3_1 a4_1 a5_1 a6_1 a7_1 a8_1 a9_1 a10_1 a11_1 a12_1 a13_1 al_1 c1 s1 ⊢
  have qa0_1 := cell_regrown a0_1
  have qa1_1 := cell_regrown a1_1
  have qa2_1 := cell_regrown a2_1
  have qa3_1 := cell_regrown a3_1
  have qa4_1 := cell_regrown a4_1
  have qa5_1 := cell_regrown a5_1
  have qa6_1 := cell_regrown a6_1
  have qa7_1 := cell_regrown a7_1
  have qa8_1 := cell_regrown a8_1
  have qa9_1 := cell_regrown a9_1
  have qa10_1 := cell_regrown a10_1
  have qa11_1 := cell_regrown a11_1
  have qa12_1 := cell_regrown a12_1
  have qa13_1 := cell_regrown a13_1
  refine (markCache_z g f _ (HR.out.later hg c1) (Nat.lt_of_lt_of_le hg c1.size)).mono ?_
  rintro e w2 ⟨rfl, hr, ho⟩
  have HR2 := hid hr
  have HO := hid ((Only.later c1 : Only (fun b => b = g) w w1).trans ho)
  clear hr ho
  go_wp2
  go_ret
  exact ⟨by simp, HR2.out, HO.out⟩
set_option maxRecDepth 100000 in
set_option maxHeartbeats 2000000 in
theorem heldTier_z (n0 : Int) (g : Nat) (w : World) (h : RowN w g 84 (fun i => 1 + (i : Int))) (hg : g < w.heap.size) :
    Calls Try.prog 8 #[.agg #[.int .i64 n0, .int .i64 0, .int .i64 0, .bool false, .bool false, .bool false, .bool false, .int .i64 0, .int .i64 0, .int .i64 0, .int .i64 0, .int .i64 0, .slice none 0 0, .slice (some ⟨g, 84, none⟩) 24 24], .int .i64 1] w fun e w' => e = .returned (.int .i64 25) ∧ Below w.heap.size w w' := by
  have HR := hid h
  clear h
  go_enter Try.func8, Try.ntmps8
  go_wp2_with fail
  have a0_1 : (w.alloc (.cells #[.int .i64 n0, .int .i64 0, .int .i64 0, .bool false, .bool false, .bool false, .bool false, .int .i64 0, .int .i64 0, .int .i64 0, .int .i64 0, .int .i64 0, .slice none 0 0, .slice (some ⟨g, 84, none⟩) 24 24] 30)).cell? ⟨w.heap.size, 0, none⟩ = some (.int .i64 n0) := by go_cell
  have a1_1 : (w.alloc (.cells #[.int .i64 n0, .int .i64 0, .int .i64 0, .bool false, .bool false, .bool false, .bool false, .int .i64 0, .int .i64 0, .int .i64 0, .int .i64 0, .int .i64 0, .slice none 0 0, .slice (some ⟨g, 84, none⟩) 24 24] 30)).cell? ⟨w.heap.size, 1, none⟩ = some (.int .i64 0) := by go_cell
  have a2_1 : (w.alloc (.cells #[.int .i64 n0, .int .i64 0, .int .i64 0, .bool false, .bool false, .bool false, .bool false, .int .i64 0, .int .i64 0, .int .i64 0, .int .i64 0, .int .i64 0, .slice none 0 0, .slice (some ⟨g, 84, none⟩) 24 24] 30)).cell? ⟨w.heap.size, 2, none⟩ = some (.int .i64 0) := by go_cell
  have a3_1 : (w.alloc (.cells #[.int .i64 n0, .int .i64 0, .int .i64 0, .bool false, .bool false, .bool false, .bool false, .int .i64 0, .int .i64 0, .int .i64 0, .int .i64 0, .int .i64 0, .slice none 0 0, .slice (some ⟨g, 84, none⟩) 24 24] 30)).cell? ⟨w.heap.size, 3, none⟩ = some (.bool false) := by go_cell
  have a4_1 : (w.alloc (.cells #[.int .i64 n0, .int .i64 0, .int .i64 0, .bool false, .bool false, .bool false, .bool false, .int .i64 0, .int .i64 0, .int .i64 0, .int .i64 0, .int .i64 0, .slice none 0 0, .slice (some ⟨g, 84, none⟩) 24 24] 30)).cell? ⟨w.heap.size, 4, none⟩ = some (.bool false) := by go_cell
  have a5_1 : (w.alloc (.cells #[.int .i64 n0, .int .i64 0, .int .i64 0, .bool false, .bool false, .bool false, .bool false, .int .i64 0, .int .i64 0, .int .i64 0, .int .i64 0, .int .i64 0, .slice none 0 0, .slice (some ⟨g, 84, none⟩) 24 24] 30)).cell? ⟨w.heap.size, 5, none⟩ = some (.bool false) := by go_cell
  have a6_1 : (w.alloc (.cells #[.int .i64 n0, .int .i64 0, .int .i64 0, .bool false, .bool false, .bool false, .bool false, .int .i64 0, .int .i64 0, .int .i64 0, .int .i64 0, .int .i64 0, .slice none 0 0, .slice (some ⟨g, 84, none⟩) 24 24] 30)).cell? ⟨w.heap.size, 6, none⟩ = some (.bool false) := by go_cell
  have a7_1 : (w.alloc (.cells #[.int .i64 n0, .int .i64 0, .int .i64 0, .bool false, .bool false, .bool false, .bool false, .int .i64 0, .int .i64 0, .int .i64 0, .int .i64 0, .int .i64 0, .slice none 0 0, .slice (some ⟨g, 84, none⟩) 24 24] 30)).cell? ⟨w.heap.size, 7, none⟩ = some (.int .i64 0) := by go_cell
  have a8_1 : (w.alloc (.cells #[.int .i64 n0, .int .i64 0, .int .i64 0, .bool false, .bool false, .bool false, .bool false, .int .i64 0, .int .i64 0, .int .i64 0, .int .i64 0, .int .i64 0, .slice none 0 0, .slice (some ⟨g, 84, none⟩) 24 24] 30)).cell? ⟨w.heap.size, 8, none⟩ = some (.int .i64 0) := by go_cell
  have a9_1 : (w.alloc (.cells #[.int .i64 n0, .int .i64 0, .int .i64 0, .bool false, .bool false, .bool false, .bool false, .int .i64 0, .int .i64 0, .int .i64 0, .int .i64 0, .int .i64 0, .slice none 0 0, .slice (some ⟨g, 84, none⟩) 24 24] 30)).cell? ⟨w.heap.size, 9, none⟩ = some (.int .i64 0) := by go_cell
  have a10_1 : (w.alloc (.cells #[.int .i64 n0, .int .i64 0, .int .i64 0, .bool false, .bool false, .bool false, .bool false, .int .i64 0, .int .i64 0, .int .i64 0, .int .i64 0, .int .i64 0, .slice none 0 0, .slice (some ⟨g, 84, none⟩) 24 24] 30)).cell? ⟨w.heap.size, 10, none⟩ = some (.int .i64 0) := by go_cell
  have a11_1 : (w.alloc (.cells #[.int .i64 n0, .int .i64 0, .int .i64 0, .bool false, .bool false, .bool false, .bool false, .int .i64 0, .int .i64 0, .int .i64 0, .int .i64 0, .int .i64 0, .slice none 0 0, .slice (some ⟨g, 84, none⟩) 24 24] 30)).cell? ⟨w.heap.size, 11, none⟩ = some (.int .i64 0) := by go_cell
  have a12_1 : (w.alloc (.cells #[.int .i64 n0, .int .i64 0, .int .i64 0, .bool false, .bool false, .bool false, .bool false, .int .i64 0, .int .i64 0, .int .i64 0, .int .i64 0, .int .i64 0, .slice none 0 0, .slice (some ⟨g, 84, none⟩) 24 24] 30)).cell? ⟨w.heap.size, 12, none⟩ = some (.slice none 0 0) := by go_cell
  have a13_1 : (w.alloc (.cells #[.int .i64 n0, .int .i64 0, .int .i64 0, .bool false, .bool false, .bool false, .bool false, .int .i64 0, .int .i64 0, .int .i64 0, .int .i64 0, .int .i64 0, .slice none 0 0, .slice (some ⟨g, 84, none⟩) 24 24] 30)).cell? ⟨w.heap.size, 13, none⟩ = some (.slice (some ⟨g, 84, none⟩) 24 24) := by go_cell
  have al_1 : w.heap.size < (w.alloc (.cells #[.int .i64 n0, .int .i64 0, .int .i64 0, .bool false, .bool false, .bool false, .bool false, .int .i64 0, .int .i64 0, .int .i64 0, .int .i64 0, .int .i64 0, .slice none 0 0, .slice (some ⟨g, 84, none⟩) 24 24] 30)).heap.size := by first | (simp; done) | (simp; omega)
  have c1 : Below w.heap.size w (w.alloc (.cells #[.int .i64 n0, .int .i64 0, .int .i64 0, .bool false, .bool false, .bool false, .bool false, .int .i64 0, .int .i64 0, .int .i64 0, .int .i64 0, .int .i64 0, .slice none 0 0, .slice (some ⟨g, 84, none⟩) 24 24] 30)) := by go_grown
  have s1 : (w.alloc (.cells #[.int .i64 n0, .int .i64 0, .int .i64 0, .bool false, .bool false, .bool false, .bool false, .int .i64 0, .int .i64 0, .int .i64 0, .int .i64 0, .int .i64 0, .slice none 0 0, .slice (some ⟨g, 84, none⟩) 24 24] 30)).heap.size = w.heap.size + 1 := by simp
  generalize (w.alloc (.cells #[.int .i64 n0, .int .i64 0, .int .i64 0, .bool false, .bool false, .bool false, .bool false, .int .i64 0, .int .i64 0, .int .i64 0, .int .i64 0, .int .i64 0, .slice none 0 0, .slice (some ⟨g, 84, none⟩) 24 24] 30)) = w1 at a0_1 a1_1 a2_1 a3_1 a4_1 a5_1 a6_1 a7_1 a8_1 a9_1 a10_1 a11_1 a12_1 a13_1 al_1 c1 s1 ⊢
  have qa0_1 := cell_regrown a0_1
  have qa1_1 := cell_regrown a1_1
  have qa2_1 := cell_regrown a2_1
  have qa3_1 := cell_regrown a3_1
  have qa4_1 := cell_regrown a4_1
  have qa5_1 := cell_regrown a5_1
  have qa6_1 := cell_regrown a6_1
  have qa7_1 := cell_regrown a7_1
  have qa8_1 := cell_regrown a8_1
  have qa9_1 := cell_regrown a9_1
  have qa10_1 := cell_regrown a10_1
  have qa11_1 := cell_regrown a11_1
  have qa12_1 := cell_regrown a12_1
  have qa13_1 := cell_regrown a13_1
  refine (heldCache_z g _ (HR.out.later hg c1) (Nat.lt_of_lt_of_le hg c1.size)).mono ?_
  rintro e w2 ⟨rfl, b2⟩
  have c2 := c1.trans (b2.mono c1.size)
  clear b2
  go_wp2
  go_ret
  exact ⟨by simp, c2⟩
set_option maxRecDepth 100000 in
set_option maxHeartbeats 2000000 in
theorem markTier_n (w : World) :
    Calls Try.prog 7 #[.agg #[.int .i64 0, .int .i64 0, .int .i64 0, .bool false, .bool false, .bool false, .bool false, .int .i64 0, .int .i64 0, .int .i64 0, .int .i64 0, .int .i64 0, .slice none 0 0, .slice none 0 0], .int .i64 1] w fun e w' => e = .returned (.int .i64 1) ∧ Below w.heap.size w w' := by
  go_enter Try.func7, Try.ntmps7
  go_wp2_with fail
  have a0_1 : (w.alloc (.cells #[.int .i64 0, .int .i64 0, .int .i64 0, .bool false, .bool false, .bool false, .bool false, .int .i64 0, .int .i64 0, .int .i64 0, .int .i64 0, .int .i64 0, .slice none 0 0, .slice none 0 0] 30)).cell? ⟨w.heap.size, 0, none⟩ = some (.int .i64 0) := by go_cell
  have a1_1 : (w.alloc (.cells #[.int .i64 0, .int .i64 0, .int .i64 0, .bool false, .bool false, .bool false, .bool false, .int .i64 0, .int .i64 0, .int .i64 0, .int .i64 0, .int .i64 0, .slice none 0 0, .slice none 0 0] 30)).cell? ⟨w.heap.size, 1, none⟩ = some (.int .i64 0) := by go_cell
  have a2_1 : (w.alloc (.cells #[.int .i64 0, .int .i64 0, .int .i64 0, .bool false, .bool false, .bool false, .bool false, .int .i64 0, .int .i64 0, .int .i64 0, .int .i64 0, .int .i64 0, .slice none 0 0, .slice none 0 0] 30)).cell? ⟨w.heap.size, 2, none⟩ = some (.int .i64 0) := by go_cell
  have a3_1 : (w.alloc (.cells #[.int .i64 0, .int .i64 0, .int .i64 0, .bool false, .bool false, .bool false, .bool false, .int .i64 0, .int .i64 0, .int .i64 0, .int .i64 0, .int .i64 0, .slice none 0 0, .slice none 0 0] 30)).cell? ⟨w.heap.size, 3, none⟩ = some (.bool false) := by go_cell
  have a4_1 : (w.alloc (.cells #[.int .i64 0, .int .i64 0, .int .i64 0, .bool false, .bool false, .bool false, .bool false, .int .i64 0, .int .i64 0, .int .i64 0, .int .i64 0, .int .i64 0, .slice none 0 0, .slice none 0 0] 30)).cell? ⟨w.heap.size, 4, none⟩ = some (.bool false) := by go_cell
  have a5_1 : (w.alloc (.cells #[.int .i64 0, .int .i64 0, .int .i64 0, .bool false, .bool false, .bool false, .bool false, .int .i64 0, .int .i64 0, .int .i64 0, .int .i64 0, .int .i64 0, .slice none 0 0, .slice none 0 0] 30)).cell? ⟨w.heap.size, 5, none⟩ = some (.bool false) := by go_cell
  have a6_1 : (w.alloc (.cells #[.int .i64 0, .int .i64 0, .int .i64 0, .bool false, .bool false, .bool false, .bool false, .int .i64 0, .int .i64 0, .int .i64 0, .int .i64 0, .int .i64 0, .slice none 0 0, .slice none 0 0] 30)).cell? ⟨w.heap.size, 6, none⟩ = some (.bool false) := by go_cell
  have a7_1 : (w.alloc (.cells #[.int .i64 0, .int .i64 0, .int .i64 0, .bool false, .bool false, .bool false, .bool false, .int .i64 0, .int .i64 0, .int .i64 0, .int .i64 0, .int .i64 0, .slice none 0 0, .slice none 0 0] 30)).cell? ⟨w.heap.size, 7, none⟩ = some (.int .i64 0) := by go_cell
  have a8_1 : (w.alloc (.cells #[.int .i64 0, .int .i64 0, .int .i64 0, .bool false, .bool false, .bool false, .bool false, .int .i64 0, .int .i64 0, .int .i64 0, .int .i64 0, .int .i64 0, .slice none 0 0, .slice none 0 0] 30)).cell? ⟨w.heap.size, 8, none⟩ = some (.int .i64 0) := by go_cell
  have a9_1 : (w.alloc (.cells #[.int .i64 0, .int .i64 0, .int .i64 0, .bool false, .bool false, .bool false, .bool false, .int .i64 0, .int .i64 0, .int .i64 0, .int .i64 0, .int .i64 0, .slice none 0 0, .slice none 0 0] 30)).cell? ⟨w.heap.size, 9, none⟩ = some (.int .i64 0) := by go_cell
  have a10_1 : (w.alloc (.cells #[.int .i64 0, .int .i64 0, .int .i64 0, .bool false, .bool false, .bool false, .bool false, .int .i64 0, .int .i64 0, .int .i64 0, .int .i64 0, .int .i64 0, .slice none 0 0, .slice none 0 0] 30)).cell? ⟨w.heap.size, 10, none⟩ = some (.int .i64 0) := by go_cell
  have a11_1 : (w.alloc (.cells #[.int .i64 0, .int .i64 0, .int .i64 0, .bool false, .bool false, .bool false, .bool false, .int .i64 0, .int .i64 0, .int .i64 0, .int .i64 0, .int .i64 0, .slice none 0 0, .slice none 0 0] 30)).cell? ⟨w.heap.size, 11, none⟩ = some (.int .i64 0) := by go_cell
  have a12_1 : (w.alloc (.cells #[.int .i64 0, .int .i64 0, .int .i64 0, .bool false, .bool false, .bool false, .bool false, .int .i64 0, .int .i64 0, .int .i64 0, .int .i64 0, .int .i64 0, .slice none 0 0, .slice none 0 0] 30)).cell? ⟨w.heap.size, 12, none⟩ = some (.slice none 0 0) := by go_cell
  have a13_1 : (w.alloc (.cells #[.int .i64 0, .int .i64 0, .int .i64 0, .bool false, .bool false, .bool false, .bool false, .int .i64 0, .int .i64 0, .int .i64 0, .int .i64 0, .int .i64 0, .slice none 0 0, .slice none 0 0] 30)).cell? ⟨w.heap.size, 13, none⟩ = some (.slice none 0 0) := by go_cell
  have al_1 : w.heap.size < (w.alloc (.cells #[.int .i64 0, .int .i64 0, .int .i64 0, .bool false, .bool false, .bool false, .bool false, .int .i64 0, .int .i64 0, .int .i64 0, .int .i64 0, .int .i64 0, .slice none 0 0, .slice none 0 0] 30)).heap.size := by first | (simp; done) | (simp; omega)
  have c1 : Below w.heap.size w (w.alloc (.cells #[.int .i64 0, .int .i64 0, .int .i64 0, .bool false, .bool false, .bool false, .bool false, .int .i64 0, .int .i64 0, .int .i64 0, .int .i64 0, .int .i64 0, .slice none 0 0, .slice none 0 0] 30)) := by go_grown
  have s1 : (w.alloc (.cells #[.int .i64 0, .int .i64 0, .int .i64 0, .bool false, .bool false, .bool false, .bool false, .int .i64 0, .int .i64 0, .int .i64 0, .int .i64 0, .int .i64 0, .slice none 0 0, .slice none 0 0] 30)).heap.size = w.heap.size + 1 := by simp
  generalize (w.alloc (.cells #[.int .i64 0, .int .i64 0, .int .i64 0, .bool false, .bool false, .bool false, .bool false, .int .i64 0, .int .i64 0, .int .i64 0, .int .i64 0, .int .i64 0, .slice none 0 0, .slice none 0 0] 30)) = w1 at a0_1 a1_1 a2_1 a3_1 a4_1 a5_1 a6_1 a7_1 a8_1 a9_1 a10_1 a11_1 a12_1 a13_1 al_1 c1 s1 ⊢
  have qa0_1 := cell_regrown a0_1
  have qa1_1 := cell_regrown a1_1
  have qa2_1 := cell_regrown a2_1
  have qa3_1 := cell_regrown a3_1
  have qa4_1 := cell_regrown a4_1
  have qa5_1 := cell_regrown a5_1
  have qa6_1 := cell_regrown a6_1
  have qa7_1 := cell_regrown a7_1
  have qa8_1 := cell_regrown a8_1
  have qa9_1 := cell_regrown a9_1
  have qa10_1 := cell_regrown a10_1
  have qa11_1 := cell_regrown a11_1
  have qa12_1 := cell_regrown a12_1
  have qa13_1 := cell_regrown a13_1
  refine (markCache_n _).mono ?_
  rintro e w2 ⟨rfl, b2⟩
  have c2 := c1.trans (b2.mono c1.size)
  clear b2
  go_wp2
  go_ret
  exact ⟨by simp, c2⟩
set_option maxRecDepth 100000 in
set_option maxHeartbeats 2000000 in
theorem heldTier_n (w : World) :
    Calls Try.prog 8 #[.agg #[.int .i64 0, .int .i64 0, .int .i64 0, .bool false, .bool false, .bool false, .bool false, .int .i64 0, .int .i64 0, .int .i64 0, .int .i64 0, .int .i64 0, .slice none 0 0, .slice none 0 0], .int .i64 1] w fun e w' => e = .returned (.int .i64 1) ∧ Below w.heap.size w w' := by
  go_enter Try.func8, Try.ntmps8
  go_wp2_with fail
  have a0_1 : (w.alloc (.cells #[.int .i64 0, .int .i64 0, .int .i64 0, .bool false, .bool false, .bool false, .bool false, .int .i64 0, .int .i64 0, .int .i64 0, .int .i64 0, .int .i64 0, .slice none 0 0, .slice none 0 0] 30)).cell? ⟨w.heap.size, 0, none⟩ = some (.int .i64 0) := by go_cell
  have a1_1 : (w.alloc (.cells #[.int .i64 0, .int .i64 0, .int .i64 0, .bool false, .bool false, .bool false, .bool false, .int .i64 0, .int .i64 0, .int .i64 0, .int .i64 0, .int .i64 0, .slice none 0 0, .slice none 0 0] 30)).cell? ⟨w.heap.size, 1, none⟩ = some (.int .i64 0) := by go_cell
  have a2_1 : (w.alloc (.cells #[.int .i64 0, .int .i64 0, .int .i64 0, .bool false, .bool false, .bool false, .bool false, .int .i64 0, .int .i64 0, .int .i64 0, .int .i64 0, .int .i64 0, .slice none 0 0, .slice none 0 0] 30)).cell? ⟨w.heap.size, 2, none⟩ = some (.int .i64 0) := by go_cell
  have a3_1 : (w.alloc (.cells #[.int .i64 0, .int .i64 0, .int .i64 0, .bool false, .bool false, .bool false, .bool false, .int .i64 0, .int .i64 0, .int .i64 0, .int .i64 0, .int .i64 0, .slice none 0 0, .slice none 0 0] 30)).cell? ⟨w.heap.size, 3, none⟩ = some (.bool false) := by go_cell
  have a4_1 : (w.alloc (.cells #[.int .i64 0, .int .i64 0, .int .i64 0, .bool false, .bool false, .bool false, .bool false, .int .i64 0, .int .i64 0, .int .i64 0, .int .i64 0, .int .i64 0, .slice none 0 0, .slice none 0 0] 30)).cell? ⟨w.heap.size, 4, none⟩ = some (.bool false) := by go_cell
  have a5_1 : (w.alloc (.cells #[.int .i64 0, .int .i64 0, .int .i64 0, .bool false, .bool false, .bool false, .bool false, .int .i64 0, .int .i64 0, .int .i64 0, .int .i64 0, .int .i64 0, .slice none 0 0, .slice none 0 0] 30)).cell? ⟨w.heap.size, 5, none⟩ = some (.bool false) := by go_cell
  have a6_1 : (w.alloc (.cells #[.int .i64 0, .int .i64 0, .int .i64 0, .bool false, .bool false, .bool false, .bool false, .int .i64 0, .int .i64 0, .int .i64 0, .int .i64 0, .int .i64 0, .slice none 0 0, .slice none 0 0] 30)).cell? ⟨w.heap.size, 6, none⟩ = some (.bool false) := by go_cell
  have a7_1 : (w.alloc (.cells #[.int .i64 0, .int .i64 0, .int .i64 0, .bool false, .bool false, .bool false, .bool false, .int .i64 0, .int .i64 0, .int .i64 0, .int .i64 0, .int .i64 0, .slice none 0 0, .slice none 0 0] 30)).cell? ⟨w.heap.size, 7, none⟩ = some (.int .i64 0) := by go_cell
  have a8_1 : (w.alloc (.cells #[.int .i64 0, .int .i64 0, .int .i64 0, .bool false, .bool false, .bool false, .bool false, .int .i64 0, .int .i64 0, .int .i64 0, .int .i64 0, .int .i64 0, .slice none 0 0, .slice none 0 0] 30)).cell? ⟨w.heap.size, 8, none⟩ = some (.int .i64 0) := by go_cell
  have a9_1 : (w.alloc (.cells #[.int .i64 0, .int .i64 0, .int .i64 0, .bool false, .bool false, .bool false, .bool false, .int .i64 0, .int .i64 0, .int .i64 0, .int .i64 0, .int .i64 0, .slice none 0 0, .slice none 0 0] 30)).cell? ⟨w.heap.size, 9, none⟩ = some (.int .i64 0) := by go_cell
  have a10_1 : (w.alloc (.cells #[.int .i64 0, .int .i64 0, .int .i64 0, .bool false, .bool false, .bool false, .bool false, .int .i64 0, .int .i64 0, .int .i64 0, .int .i64 0, .int .i64 0, .slice none 0 0, .slice none 0 0] 30)).cell? ⟨w.heap.size, 10, none⟩ = some (.int .i64 0) := by go_cell
  have a11_1 : (w.alloc (.cells #[.int .i64 0, .int .i64 0, .int .i64 0, .bool false, .bool false, .bool false, .bool false, .int .i64 0, .int .i64 0, .int .i64 0, .int .i64 0, .int .i64 0, .slice none 0 0, .slice none 0 0] 30)).cell? ⟨w.heap.size, 11, none⟩ = some (.int .i64 0) := by go_cell
  have a12_1 : (w.alloc (.cells #[.int .i64 0, .int .i64 0, .int .i64 0, .bool false, .bool false, .bool false, .bool false, .int .i64 0, .int .i64 0, .int .i64 0, .int .i64 0, .int .i64 0, .slice none 0 0, .slice none 0 0] 30)).cell? ⟨w.heap.size, 12, none⟩ = some (.slice none 0 0) := by go_cell
  have a13_1 : (w.alloc (.cells #[.int .i64 0, .int .i64 0, .int .i64 0, .bool false, .bool false, .bool false, .bool false, .int .i64 0, .int .i64 0, .int .i64 0, .int .i64 0, .int .i64 0, .slice none 0 0, .slice none 0 0] 30)).cell? ⟨w.heap.size, 13, none⟩ = some (.slice none 0 0) := by go_cell
  have al_1 : w.heap.size < (w.alloc (.cells #[.int .i64 0, .int .i64 0, .int .i64 0, .bool false, .bool false, .bool false, .bool false, .int .i64 0, .int .i64 0, .int .i64 0, .int .i64 0, .int .i64 0, .slice none 0 0, .slice none 0 0] 30)).heap.size := by first | (simp; done) | (simp; omega)
  have c1 : Below w.heap.size w (w.alloc (.cells #[.int .i64 0, .int .i64 0, .int .i64 0, .bool false, .bool false, .bool false, .bool false, .int .i64 0, .int .i64 0, .int .i64 0, .int .i64 0, .int .i64 0, .slice none 0 0, .slice none 0 0] 30)) := by go_grown
  have s1 : (w.alloc (.cells #[.int .i64 0, .int .i64 0, .int .i64 0, .bool false, .bool false, .bool false, .bool false, .int .i64 0, .int .i64 0, .int .i64 0, .int .i64 0, .int .i64 0, .slice none 0 0, .slice none 0 0] 30)).heap.size = w.heap.size + 1 := by simp
  generalize (w.alloc (.cells #[.int .i64 0, .int .i64 0, .int .i64 0, .bool false, .bool false, .bool false, .bool false, .int .i64 0, .int .i64 0, .int .i64 0, .int .i64 0, .int .i64 0, .slice none 0 0, .slice none 0 0] 30)) = w1 at a0_1 a1_1 a2_1 a3_1 a4_1 a5_1 a6_1 a7_1 a8_1 a9_1 a10_1 a11_1 a12_1 a13_1 al_1 c1 s1 ⊢
  have qa0_1 := cell_regrown a0_1
  have qa1_1 := cell_regrown a1_1
  have qa2_1 := cell_regrown a2_1
  have qa3_1 := cell_regrown a3_1
  have qa4_1 := cell_regrown a4_1
  have qa5_1 := cell_regrown a5_1
  have qa6_1 := cell_regrown a6_1
  have qa7_1 := cell_regrown a7_1
  have qa8_1 := cell_regrown a8_1
  have qa9_1 := cell_regrown a9_1
  have qa10_1 := cell_regrown a10_1
  have qa11_1 := cell_regrown a11_1
  have qa12_1 := cell_regrown a12_1
  have qa13_1 := cell_regrown a13_1
  refine (heldCache_n _).mono ?_
  rintro e w2 ⟨rfl, b2⟩
  have c2 := c1.trans (b2.mono c1.size)
  clear b2
  go_wp2
  go_ret
  exact ⟨by simp, c2⟩
set_option maxRecDepth 100000 in
set_option maxHeartbeats 8000000 in
theorem lawTOpen_in (n0 : Int) (h0 : 0 ≤ n0) (h1 : n0 < 2) (w : World) : Calls Try.prog 3 #[.int .i64 n0] w fun e w' => e = .returned (.bool true) ∧ Below w.heap.size w w' := by
  have HH := hid (And.intro h0 h1)
  clear h0 h1
  go_enter Try.func3, Try.ntmps3
  go_wp2_with fail
  refine (specTOpen_in n0 HH.out.1 HH.out.2 _).mono ?_
  rintro e w1 ⟨⟨ga, rfl, hga0, hga1, za⟩, b1⟩
  have c1 := b1
  have ZA1 := hid za
  clear za b1
  go_wp2_with fail
  have a0_2 : (w1.alloc (.cells #[.int .i64 n0, .int .i64 0, .int .i64 0, .bool false, .bool false, .bool false, .bool false, .int .i64 0, .int .i64 0, .int .i64 0, .int .i64 0, .int .i64 0, .slice none 0 0, .slice (some ⟨ga, 0, none⟩) 24 24] 30)).cell? ⟨w1.heap.size, 0, none⟩ = some (.int .i64 n0) := by go_cell
  have a1_2 : (w1.alloc (.cells #[.int .i64 n0, .int .i64 0, .int .i64 0, .bool false, .bool false, .bool false, .bool false, .int .i64 0, .int .i64 0, .int .i64 0, .int .i64 0, .int .i64 0, .slice none 0 0, .slice (some ⟨ga, 0, none⟩) 24 24] 30)).cell? ⟨w1.heap.size, 1, none⟩ = some (.int .i64 0) := by go_cell
  have a2_2 : (w1.alloc (.cells #[.int .i64 n0, .int .i64 0, .int .i64 0, .bool false, .bool false, .bool false, .bool false, .int .i64 0, .int .i64 0, .int .i64 0, .int .i64 0, .int .i64 0, .slice none 0 0, .slice (some ⟨ga, 0, none⟩) 24 24] 30)).cell? ⟨w1.heap.size, 2, none⟩ = some (.int .i64 0) := by go_cell
  have a3_2 : (w1.alloc (.cells #[.int .i64 n0, .int .i64 0, .int .i64 0, .bool false, .bool false, .bool false, .bool false, .int .i64 0, .int .i64 0, .int .i64 0, .int .i64 0, .int .i64 0, .slice none 0 0, .slice (some ⟨ga, 0, none⟩) 24 24] 30)).cell? ⟨w1.heap.size, 3, none⟩ = some (.bool false) := by go_cell
  have a4_2 : (w1.alloc (.cells #[.int .i64 n0, .int .i64 0, .int .i64 0, .bool false, .bool false, .bool false, .bool false, .int .i64 0, .int .i64 0, .int .i64 0, .int .i64 0, .int .i64 0, .slice none 0 0, .slice (some ⟨ga, 0, none⟩) 24 24] 30)).cell? ⟨w1.heap.size, 4, none⟩ = some (.bool false) := by go_cell
  have a5_2 : (w1.alloc (.cells #[.int .i64 n0, .int .i64 0, .int .i64 0, .bool false, .bool false, .bool false, .bool false, .int .i64 0, .int .i64 0, .int .i64 0, .int .i64 0, .int .i64 0, .slice none 0 0, .slice (some ⟨ga, 0, none⟩) 24 24] 30)).cell? ⟨w1.heap.size, 5, none⟩ = some (.bool false) := by go_cell
  have a6_2 : (w1.alloc (.cells #[.int .i64 n0, .int .i64 0, .int .i64 0, .bool false, .bool false, .bool false, .bool false, .int .i64 0, .int .i64 0, .int .i64 0, .int .i64 0, .int .i64 0, .slice none 0 0, .slice (some ⟨ga, 0, none⟩) 24 24] 30)).cell? ⟨w1.heap.size, 6, none⟩ = some (.bool false) := by go_cell
  have a7_2 : (w1.alloc (.cells #[.int .i64 n0, .int .i64 0, .int .i64 0, .bool false, .bool false, .bool false, .bool false, .int .i64 0, .int .i64 0, .int .i64 0, .int .i64 0, .int .i64 0, .slice none 0 0, .slice (some ⟨ga, 0, none⟩) 24 24] 30)).cell? ⟨w1.heap.size, 7, none⟩ = some (.int .i64 0) := by go_cell
  have a8_2 : (w1.alloc (.cells #[.int .i64 n0, .int .i64 0, .int .i64 0, .bool false, .bool false, .bool false, .bool false, .int .i64 0, .int .i64 0, .int .i64 0, .int .i64 0, .int .i64 0, .slice none 0 0, .slice (some ⟨ga, 0, none⟩) 24 24] 30)).cell? ⟨w1.heap.size, 8, none⟩ = some (.int .i64 0) := by go_cell
  have a9_2 : (w1.alloc (.cells #[.int .i64 n0, .int .i64 0, .int .i64 0, .bool false, .bool false, .bool false, .bool false, .int .i64 0, .int .i64 0, .int .i64 0, .int .i64 0, .int .i64 0, .slice none 0 0, .slice (some ⟨ga, 0, none⟩) 24 24] 30)).cell? ⟨w1.heap.size, 9, none⟩ = some (.int .i64 0) := by go_cell
  have a10_2 : (w1.alloc (.cells #[.int .i64 n0, .int .i64 0, .int .i64 0, .bool false, .bool false, .bool false, .bool false, .int .i64 0, .int .i64 0, .int .i64 0, .int .i64 0, .int .i64 0, .slice none 0 0, .slice (some ⟨ga, 0, none⟩) 24 24] 30)).cell? ⟨w1.heap.size, 10, none⟩ = some (.int .i64 0) := by go_cell
  have a11_2 : (w1.alloc (.cells #[.int .i64 n0, .int .i64 0, .int .i64 0, .bool false, .bool false, .bool false, .bool false, .int .i64 0, .int .i64 0, .int .i64 0, .int .i64 0, .int .i64 0, .slice none 0 0, .slice (some ⟨ga, 0, none⟩) 24 24] 30)).cell? ⟨w1.heap.size, 11, none⟩ = some (.int .i64 0) := by go_cell
  have a12_2 : (w1.alloc (.cells #[.int .i64 n0, .int .i64 0, .int .i64 0, .bool false, .bool false, .bool false, .bool false, .int .i64 0, .int .i64 0, .int .i64 0, .int .i64 0, .int .i64 0, .slice none 0 0, .slice (some ⟨ga, 0, none⟩) 24 24] 30)).cell? ⟨w1.heap.size, 12, none⟩ = some (.slice none 0 0) := by go_cell
  have a13_2 : (w1.alloc (.cells #[.int .i64 n0, .int .i64 0, .int .i64 0, .bool false, .bool false, .bool false, .bool false, .int .i64 0, .int .i64 0, .int .i64 0, .int .i64 0, .int .i64 0, .slice none 0 0, .slice (some ⟨ga, 0, none⟩) 24 24] 30)).cell? ⟨w1.heap.size, 13, none⟩ = some (.slice (some ⟨ga, 0, none⟩) 24 24) := by go_cell
  have al_2 : w1.heap.size < (w1.alloc (.cells #[.int .i64 n0, .int .i64 0, .int .i64 0, .bool false, .bool false, .bool false, .bool false, .int .i64 0, .int .i64 0, .int .i64 0, .int .i64 0, .int .i64 0, .slice none 0 0, .slice (some ⟨ga, 0, none⟩) 24 24] 30)).heap.size := by simp
  have d2 : Below w1.heap.size w1 (w1.alloc (.cells #[.int .i64 n0, .int .i64 0, .int .i64 0, .bool false, .bool false, .bool false, .bool false, .int .i64 0, .int .i64 0, .int .i64 0, .int .i64 0, .int .i64 0, .slice none 0 0, .slice (some ⟨ga, 0, none⟩) 24 24] 30)) := by go_grown
  generalize (w1.alloc (.cells #[.int .i64 n0, .int .i64 0, .int .i64 0, .bool false, .bool false, .bool false, .bool false, .int .i64 0, .int .i64 0, .int .i64 0, .int .i64 0, .int .i64 0, .slice none 0 0, .slice (some ⟨ga, 0, none⟩) 24 24] 30)) = w2 at a0_2 a1_2 a2_2 a3_2 a4_2 a5_2 a6_2 a7_2 a8_2 a9_2 a10_2 a11_2 a12_2 a13_2 al_2 d2 ⊢
  have c2 : Below w.heap.size w w2 := c1.trans (d2.mono c1.size)
  have hw12 : w1.heap.size < w2.heap.size := al_2
  have ZA2 := hid (ZA1.out.later hga1 d2)
  have hga2 : ga < w2.heap.size := Nat.lt_of_lt_of_le hga1 d2.size
  clear d2
  refine (implTOpen_in n0 HH.out.1 HH.out.2 _).mono ?_
  rintro e w3 ⟨⟨gb, rfl, hgb0, hgb1, zb⟩, b3⟩
  have ZB3 := hid zb
  clear zb
  have d3 : Below w2.heap.size w2 w3 := (Below.trans (by go_grown) (b3.mono (by first | omega | (simp; done) | (simp; omega))))
  have c3 : Below w.heap.size w w3 := c2.trans (d3.mono c2.size)
  have a0_3 : w3.cell? ⟨w1.heap.size, 0, none⟩ = some (.int .i64 n0) := (by rw [b3.cell (by first | omega | (simp; done) | (simp; omega))]; go_cell)
  have a1_3 : w3.cell? ⟨w1.heap.size, 1, none⟩ = some (.int .i64 0) := (by rw [b3.cell (by first | omega | (simp; done) | (simp; omega))]; go_cell)
  have a2_3 : w3.cell? ⟨w1.heap.size, 2, none⟩ = some (.int .i64 0) := (by rw [b3.cell (by first | omega | (simp; done) | (simp; omega))]; go_cell)
  have a3_3 : w3.cell? ⟨w1.heap.size, 3, none⟩ = some (.bool false) := (by rw [b3.cell (by first | omega | (simp; done) | (simp; omega))]; go_cell)
  have a4_3 : w3.cell? ⟨w1.heap.size, 4, none⟩ = some (.bool false) := (by rw [b3.cell (by first | omega | (simp; done) | (simp; omega))]; go_cell)
  have a5_3 : w3.cell? ⟨w1.heap.size, 5, none⟩ = some (.bool false) := (by rw [b3.cell (by first | omega | (simp; done) | (simp; omega))]; go_cell)
  have a6_3 : w3.cell? ⟨w1.heap.size, 6, none⟩ = some (.bool false) := (by rw [b3.cell (by first | omega | (simp; done) | (simp; omega))]; go_cell)
  have a7_3 : w3.cell? ⟨w1.heap.size, 7, none⟩ = some (.int .i64 0) := (by rw [b3.cell (by first | omega | (simp; done) | (simp; omega))]; go_cell)
  have a8_3 : w3.cell? ⟨w1.heap.size, 8, none⟩ = some (.int .i64 0) := (by rw [b3.cell (by first | omega | (simp; done) | (simp; omega))]; go_cell)
  have a9_3 : w3.cell? ⟨w1.heap.size, 9, none⟩ = some (.int .i64 0) := (by rw [b3.cell (by first | omega | (simp; done) | (simp; omega))]; go_cell)
  have a10_3 : w3.cell? ⟨w1.heap.size, 10, none⟩ = some (.int .i64 0) := (by rw [b3.cell (by first | omega | (simp; done) | (simp; omega))]; go_cell)
  have a11_3 : w3.cell? ⟨w1.heap.size, 11, none⟩ = some (.int .i64 0) := (by rw [b3.cell (by first | omega | (simp; done) | (simp; omega))]; go_cell)
  have a12_3 : w3.cell? ⟨w1.heap.size, 12, none⟩ = some (.slice none 0 0) := (by rw [b3.cell (by first | omega | (simp; done) | (simp; omega))]; go_cell)
  have a13_3 : w3.cell? ⟨w1.heap.size, 13, none⟩ = some (.slice (some ⟨ga, 0, none⟩) 24 24) := (by rw [b3.cell (by first | omega | (simp; done) | (simp; omega))]; go_cell)
  have al_3 : w1.heap.size < w3.heap.size := (by have := b3.size; first | omega | (revert this; simp; done) | (revert this; simp; omega))
  clear a0_2 a1_2 a2_2 a3_2 a4_2 a5_2 a6_2 a7_2 a8_2 a9_2 a10_2 a11_2 a12_2 a13_2 al_2
  have ZA3 := hid (ZA2.out.later hga2 d3)
  have hga3 : ga < w3.heap.size := Nat.lt_of_lt_of_le hga2 d3.size
  clear b3 d3
  go_wp2_with fail
  have b0_4 : (w3.alloc (.cells #[.int .i64 n0, .int .i64 0, .int .i64 0, .bool false, .bool false, .bool false, .bool false, .int .i64 0, .int .i64 0, .int .i64 0, .int .i64 0, .int .i64 0, .slice none 0 0, .slice (some ⟨gb, 84, none⟩) 24 24] 30)).cell? ⟨w3.heap.size, 0, none⟩ = some (.int .i64 n0) := by go_cell
  have b1_4 : (w3.alloc (.cells #[.int .i64 n0, .int .i64 0, .int .i64 0, .bool false, .bool false, .bool false, .bool false, .int .i64 0, .int .i64 0, .int .i64 0, .int .i64 0, .int .i64 0, .slice none 0 0, .slice (some ⟨gb, 84, none⟩) 24 24] 30)).cell? ⟨w3.heap.size, 1, none⟩ = some (.int .i64 0) := by go_cell
  have b2_4 : (w3.alloc (.cells #[.int .i64 n0, .int .i64 0, .int .i64 0, .bool false, .bool false, .bool false, .bool false, .int .i64 0, .int .i64 0, .int .i64 0, .int .i64 0, .int .i64 0, .slice none 0 0, .slice (some ⟨gb, 84, none⟩) 24 24] 30)).cell? ⟨w3.heap.size, 2, none⟩ = some (.int .i64 0) := by go_cell
  have b3_4 : (w3.alloc (.cells #[.int .i64 n0, .int .i64 0, .int .i64 0, .bool false, .bool false, .bool false, .bool false, .int .i64 0, .int .i64 0, .int .i64 0, .int .i64 0, .int .i64 0, .slice none 0 0, .slice (some ⟨gb, 84, none⟩) 24 24] 30)).cell? ⟨w3.heap.size, 3, none⟩ = some (.bool false) := by go_cell
  have b4_4 : (w3.alloc (.cells #[.int .i64 n0, .int .i64 0, .int .i64 0, .bool false, .bool false, .bool false, .bool false, .int .i64 0, .int .i64 0, .int .i64 0, .int .i64 0, .int .i64 0, .slice none 0 0, .slice (some ⟨gb, 84, none⟩) 24 24] 30)).cell? ⟨w3.heap.size, 4, none⟩ = some (.bool false) := by go_cell
  have b5_4 : (w3.alloc (.cells #[.int .i64 n0, .int .i64 0, .int .i64 0, .bool false, .bool false, .bool false, .bool false, .int .i64 0, .int .i64 0, .int .i64 0, .int .i64 0, .int .i64 0, .slice none 0 0, .slice (some ⟨gb, 84, none⟩) 24 24] 30)).cell? ⟨w3.heap.size, 5, none⟩ = some (.bool false) := by go_cell
  have b6_4 : (w3.alloc (.cells #[.int .i64 n0, .int .i64 0, .int .i64 0, .bool false, .bool false, .bool false, .bool false, .int .i64 0, .int .i64 0, .int .i64 0, .int .i64 0, .int .i64 0, .slice none 0 0, .slice (some ⟨gb, 84, none⟩) 24 24] 30)).cell? ⟨w3.heap.size, 6, none⟩ = some (.bool false) := by go_cell
  have b7_4 : (w3.alloc (.cells #[.int .i64 n0, .int .i64 0, .int .i64 0, .bool false, .bool false, .bool false, .bool false, .int .i64 0, .int .i64 0, .int .i64 0, .int .i64 0, .int .i64 0, .slice none 0 0, .slice (some ⟨gb, 84, none⟩) 24 24] 30)).cell? ⟨w3.heap.size, 7, none⟩ = some (.int .i64 0) := by go_cell
  have b8_4 : (w3.alloc (.cells #[.int .i64 n0, .int .i64 0, .int .i64 0, .bool false, .bool false, .bool false, .bool false, .int .i64 0, .int .i64 0, .int .i64 0, .int .i64 0, .int .i64 0, .slice none 0 0, .slice (some ⟨gb, 84, none⟩) 24 24] 30)).cell? ⟨w3.heap.size, 8, none⟩ = some (.int .i64 0) := by go_cell
  have b9_4 : (w3.alloc (.cells #[.int .i64 n0, .int .i64 0, .int .i64 0, .bool false, .bool false, .bool false, .bool false, .int .i64 0, .int .i64 0, .int .i64 0, .int .i64 0, .int .i64 0, .slice none 0 0, .slice (some ⟨gb, 84, none⟩) 24 24] 30)).cell? ⟨w3.heap.size, 9, none⟩ = some (.int .i64 0) := by go_cell
  have b10_4 : (w3.alloc (.cells #[.int .i64 n0, .int .i64 0, .int .i64 0, .bool false, .bool false, .bool false, .bool false, .int .i64 0, .int .i64 0, .int .i64 0, .int .i64 0, .int .i64 0, .slice none 0 0, .slice (some ⟨gb, 84, none⟩) 24 24] 30)).cell? ⟨w3.heap.size, 10, none⟩ = some (.int .i64 0) := by go_cell
  have b11_4 : (w3.alloc (.cells #[.int .i64 n0, .int .i64 0, .int .i64 0, .bool false, .bool false, .bool false, .bool false, .int .i64 0, .int .i64 0, .int .i64 0, .int .i64 0, .int .i64 0, .slice none 0 0, .slice (some ⟨gb, 84, none⟩) 24 24] 30)).cell? ⟨w3.heap.size, 11, none⟩ = some (.int .i64 0) := by go_cell
  have b12_4 : (w3.alloc (.cells #[.int .i64 n0, .int .i64 0, .int .i64 0, .bool false, .bool false, .bool false, .bool false, .int .i64 0, .int .i64 0, .int .i64 0, .int .i64 0, .int .i64 0, .slice none 0 0, .slice (some ⟨gb, 84, none⟩) 24 24] 30)).cell? ⟨w3.heap.size, 12, none⟩ = some (.slice none 0 0) := by go_cell
  have b13_4 : (w3.alloc (.cells #[.int .i64 n0, .int .i64 0, .int .i64 0, .bool false, .bool false, .bool false, .bool false, .int .i64 0, .int .i64 0, .int .i64 0, .int .i64 0, .int .i64 0, .slice none 0 0, .slice (some ⟨gb, 84, none⟩) 24 24] 30)).cell? ⟨w3.heap.size, 13, none⟩ = some (.slice (some ⟨gb, 84, none⟩) 24 24) := by go_cell
  have bl_4 : w3.heap.size < (w3.alloc (.cells #[.int .i64 n0, .int .i64 0, .int .i64 0, .bool false, .bool false, .bool false, .bool false, .int .i64 0, .int .i64 0, .int .i64 0, .int .i64 0, .int .i64 0, .slice none 0 0, .slice (some ⟨gb, 84, none⟩) 24 24] 30)).heap.size := by simp
  have d4 : Below w3.heap.size w3 (w3.alloc (.cells #[.int .i64 n0, .int .i64 0, .int .i64 0, .bool false, .bool false, .bool false, .bool false, .int .i64 0, .int .i64 0, .int .i64 0, .int .i64 0, .int .i64 0, .slice none 0 0, .slice (some ⟨gb, 84, none⟩) 24 24] 30)) := by go_grown
  generalize (w3.alloc (.cells #[.int .i64 n0, .int .i64 0, .int .i64 0, .bool false, .bool false, .bool false, .bool false, .int .i64 0, .int .i64 0, .int .i64 0, .int .i64 0, .int .i64 0, .slice none 0 0, .slice (some ⟨gb, 84, none⟩) 24 24] 30)) = w4 at b0_4 b1_4 b2_4 b3_4 b4_4 b5_4 b6_4 b7_4 b8_4 b9_4 b10_4 b11_4 b12_4 b13_4 bl_4 d4 ⊢
  have c4 : Below w.heap.size w w4 := c3.trans (d4.mono c3.size)
  have a0_4 : w4.cell? ⟨w1.heap.size, 0, none⟩ = some (.int .i64 n0) := (by rw [d4.cell (by first | omega | (simp; done) | (simp; omega))]; go_cell)
  have a1_4 : w4.cell? ⟨w1.heap.size, 1, none⟩ = some (.int .i64 0) := (by rw [d4.cell (by first | omega | (simp; done) | (simp; omega))]; go_cell)
  have a2_4 : w4.cell? ⟨w1.heap.size, 2, none⟩ = some (.int .i64 0) := (by rw [d4.cell (by first | omega | (simp; done) | (simp; omega))]; go_cell)
  have a3_4 : w4.cell? ⟨w1.heap.size, 3, none⟩ = some (.bool false) := (by rw [d4.cell (by first | omega | (simp; done) | (simp; omega))]; go_cell)
  have a4_4 : w4.cell? ⟨w1.heap.size, 4, none⟩ = some (.bool false) := (by rw [d4.cell (by first | omega | (simp; done) | (simp; omega))]; go_cell)
  have a5_4 : w4.cell? ⟨w1.heap.size, 5, none⟩ = some (.bool false) := (by rw [d4.cell (by first | omega | (simp; done) | (simp; omega))]; go_cell)
  have a6_4 : w4.cell? ⟨w1.heap.size, 6, none⟩ = some (.bool false) := (by rw [d4.cell (by first | omega | (simp; done) | (simp; omega))]; go_cell)
  have a7_4 : w4.cell? ⟨w1.heap.size, 7, none⟩ = some (.int .i64 0) := (by rw [d4.cell (by first | omega | (simp; done) | (simp; omega))]; go_cell)
  have a8_4 : w4.cell? ⟨w1.heap.size, 8, none⟩ = some (.int .i64 0) := (by rw [d4.cell (by first | omega | (simp; done) | (simp; omega))]; go_cell)
  have a9_4 : w4.cell? ⟨w1.heap.size, 9, none⟩ = some (.int .i64 0) := (by rw [d4.cell (by first | omega | (simp; done) | (simp; omega))]; go_cell)
  have a10_4 : w4.cell? ⟨w1.heap.size, 10, none⟩ = some (.int .i64 0) := (by rw [d4.cell (by first | omega | (simp; done) | (simp; omega))]; go_cell)
  have a11_4 : w4.cell? ⟨w1.heap.size, 11, none⟩ = some (.int .i64 0) := (by rw [d4.cell (by first | omega | (simp; done) | (simp; omega))]; go_cell)
  have a12_4 : w4.cell? ⟨w1.heap.size, 12, none⟩ = some (.slice none 0 0) := (by rw [d4.cell (by first | omega | (simp; done) | (simp; omega))]; go_cell)
  have a13_4 : w4.cell? ⟨w1.heap.size, 13, none⟩ = some (.slice (some ⟨ga, 0, none⟩) 24 24) := (by rw [d4.cell (by first | omega | (simp; done) | (simp; omega))]; go_cell)
  have al_4 : w1.heap.size < w4.heap.size := (by have := d4.size; omega)
  clear a0_3 a1_3 a2_3 a3_3 a4_3 a5_3 a6_3 a7_3 a8_3 a9_3 a10_3 a11_3 a12_3 a13_3 al_3
  have ZA4 := hid (ZA3.out.later hga3 d4)
  have ZB4 := hid (ZB3.out.later hgb1 d4)
  have hga4 : ga < w4.heap.size := Nat.lt_of_lt_of_le hga3 d4.size
  have hgb4 : gb < w4.heap.size := Nat.lt_of_lt_of_le hgb1 d4.size
  clear d4
  refine (eqTier_rd n0 0 0 false false false false 0 0 0 0 0 _ _ _ _ _ _ _ (ZB4.out.rs hgb4) (ZA4.out.rs hga4)).mono ?_
  rintro e w5 ⟨rfl, b5⟩
  have d5 : Below w4.heap.size w4 w5 := (Below.trans (by go_grown) (b5.mono (by first | omega | (simp; done) | (simp; omega))))
  have c5 : Below w.heap.size w w5 := c4.trans (d5.mono c4.size)
  have a0_5 : w5.cell? ⟨w1.heap.size, 0, none⟩ = some (.int .i64 n0) := (by rw [b5.cell (by first | omega | (simp; done) | (simp; omega))]; go_cell)
  have a1_5 : w5.cell? ⟨w1.heap.size, 1, none⟩ = some (.int .i64 0) := (by rw [b5.cell (by first | omega | (simp; done) | (simp; omega))]; go_cell)
  have a2_5 : w5.cell? ⟨w1.heap.size, 2, none⟩ = some (.int .i64 0) := (by rw [b5.cell (by first | omega | (simp; done) | (simp; omega))]; go_cell)
  have a3_5 : w5.cell? ⟨w1.heap.size, 3, none⟩ = some (.bool false) := (by rw [b5.cell (by first | omega | (simp; done) | (simp; omega))]; go_cell)
  have a4_5 : w5.cell? ⟨w1.heap.size, 4, none⟩ = some (.bool false) := (by rw [b5.cell (by first | omega | (simp; done) | (simp; omega))]; go_cell)
  have a5_5 : w5.cell? ⟨w1.heap.size, 5, none⟩ = some (.bool false) := (by rw [b5.cell (by first | omega | (simp; done) | (simp; omega))]; go_cell)
  have a6_5 : w5.cell? ⟨w1.heap.size, 6, none⟩ = some (.bool false) := (by rw [b5.cell (by first | omega | (simp; done) | (simp; omega))]; go_cell)
  have a7_5 : w5.cell? ⟨w1.heap.size, 7, none⟩ = some (.int .i64 0) := (by rw [b5.cell (by first | omega | (simp; done) | (simp; omega))]; go_cell)
  have a8_5 : w5.cell? ⟨w1.heap.size, 8, none⟩ = some (.int .i64 0) := (by rw [b5.cell (by first | omega | (simp; done) | (simp; omega))]; go_cell)
  have a9_5 : w5.cell? ⟨w1.heap.size, 9, none⟩ = some (.int .i64 0) := (by rw [b5.cell (by first | omega | (simp; done) | (simp; omega))]; go_cell)
  have a10_5 : w5.cell? ⟨w1.heap.size, 10, none⟩ = some (.int .i64 0) := (by rw [b5.cell (by first | omega | (simp; done) | (simp; omega))]; go_cell)
  have a11_5 : w5.cell? ⟨w1.heap.size, 11, none⟩ = some (.int .i64 0) := (by rw [b5.cell (by first | omega | (simp; done) | (simp; omega))]; go_cell)
  have a12_5 : w5.cell? ⟨w1.heap.size, 12, none⟩ = some (.slice none 0 0) := (by rw [b5.cell (by first | omega | (simp; done) | (simp; omega))]; go_cell)
  have a13_5 : w5.cell? ⟨w1.heap.size, 13, none⟩ = some (.slice (some ⟨ga, 0, none⟩) 24 24) := (by rw [b5.cell (by first | omega | (simp; done) | (simp; omega))]; go_cell)
  have al_5 : w1.heap.size < w5.heap.size := (by have := b5.size; first | omega | (revert this; simp; done) | (revert this; simp; omega))
  have b0_5 : w5.cell? ⟨w3.heap.size, 0, none⟩ = some (.int .i64 n0) := (by rw [b5.cell (by first | omega | (simp; done) | (simp; omega))]; go_cell)
  have b1_5 : w5.cell? ⟨w3.heap.size, 1, none⟩ = some (.int .i64 0) := (by rw [b5.cell (by first | omega | (simp; done) | (simp; omega))]; go_cell)
  have b2_5 : w5.cell? ⟨w3.heap.size, 2, none⟩ = some (.int .i64 0) := (by rw [b5.cell (by first | omega | (simp; done) | (simp; omega))]; go_cell)
  have b3_5 : w5.cell? ⟨w3.heap.size, 3, none⟩ = some (.bool false) := (by rw [b5.cell (by first | omega | (simp; done) | (simp; omega))]; go_cell)
  have b4_5 : w5.cell? ⟨w3.heap.size, 4, none⟩ = some (.bool false) := (by rw [b5.cell (by first | omega | (simp; done) | (simp; omega))]; go_cell)
  have b5_5 : w5.cell? ⟨w3.heap.size, 5, none⟩ = some (.bool false) := (by rw [b5.cell (by first | omega | (simp; done) | (simp; omega))]; go_cell)
  have b6_5 : w5.cell? ⟨w3.heap.size, 6, none⟩ = some (.bool false) := (by rw [b5.cell (by first | omega | (simp; done) | (simp; omega))]; go_cell)
  have b7_5 : w5.cell? ⟨w3.heap.size, 7, none⟩ = some (.int .i64 0) := (by rw [b5.cell (by first | omega | (simp; done) | (simp; omega))]; go_cell)
  have b8_5 : w5.cell? ⟨w3.heap.size, 8, none⟩ = some (.int .i64 0) := (by rw [b5.cell (by first | omega | (simp; done) | (simp; omega))]; go_cell)
  have b9_5 : w5.cell? ⟨w3.heap.size, 9, none⟩ = some (.int .i64 0) := (by rw [b5.cell (by first | omega | (simp; done) | (simp; omega))]; go_cell)
  have b10_5 : w5.cell? ⟨w3.heap.size, 10, none⟩ = some (.int .i64 0) := (by rw [b5.cell (by first | omega | (simp; done) | (simp; omega))]; go_cell)
  have b11_5 : w5.cell? ⟨w3.heap.size, 11, none⟩ = some (.int .i64 0) := (by rw [b5.cell (by first | omega | (simp; done) | (simp; omega))]; go_cell)
  have b12_5 : w5.cell? ⟨w3.heap.size, 12, none⟩ = some (.slice none 0 0) := (by rw [b5.cell (by first | omega | (simp; done) | (simp; omega))]; go_cell)
  have b13_5 : w5.cell? ⟨w3.heap.size, 13, none⟩ = some (.slice (some ⟨gb, 84, none⟩) 24 24) := (by rw [b5.cell (by first | omega | (simp; done) | (simp; omega))]; go_cell)
  have bl_5 : w3.heap.size < w5.heap.size := (by have := b5.size; first | omega | (revert this; simp; done) | (revert this; simp; omega))
  clear a0_4 a1_4 a2_4 a3_4 a4_4 a5_4 a6_4 a7_4 a8_4 a9_4 a10_4 a11_4 a12_4 a13_4 al_4 b0_4 b1_4 b2_4 b3_4 b4_4 b5_4 b6_4 b7_4 b8_4 b9_4 b10_4 b11_4 b12_4 b13_4 bl_4
  have ZA5 := hid (ZA4.out.later hga4 d5)
  have ZB5 := hid (ZB4.out.later hgb4 d5)
  have hga5 : ga < w5.heap.size := Nat.lt_of_lt_of_le hga4 d5.size
  have hgb5 : gb < w5.heap.size := Nat.lt_of_lt_of_le hgb4 d5.size
  clear b5 d5
  go_wp2_with fail
  refine (markTier_z n0 gb _ _ ZB5.out hgb5).mono ?_
  rintro e w6 ⟨rfl, hm, ho⟩
  have HM6 := hid hm
  have hw1 := c1.size
  have a0_6 := (World.cell?_of_block (a := ⟨w1.heap.size, 0, none⟩) (ho.block w1.heap.size al_5 (by omega))).trans a0_5
  have a1_6 := (World.cell?_of_block (a := ⟨w1.heap.size, 1, none⟩) (ho.block w1.heap.size al_5 (by omega))).trans a1_5
  have a2_6 := (World.cell?_of_block (a := ⟨w1.heap.size, 2, none⟩) (ho.block w1.heap.size al_5 (by omega))).trans a2_5
  have a3_6 := (World.cell?_of_block (a := ⟨w1.heap.size, 3, none⟩) (ho.block w1.heap.size al_5 (by omega))).trans a3_5
  have a4_6 := (World.cell?_of_block (a := ⟨w1.heap.size, 4, none⟩) (ho.block w1.heap.size al_5 (by omega))).trans a4_5
  have a5_6 := (World.cell?_of_block (a := ⟨w1.heap.size, 5, none⟩) (ho.block w1.heap.size al_5 (by omega))).trans a5_5
  have a6_6 := (World.cell?_of_block (a := ⟨w1.heap.size, 6, none⟩) (ho.block w1.heap.size al_5 (by omega))).trans a6_5
  have a7_6 := (World.cell?_of_block (a := ⟨w1.heap.size, 7, none⟩) (ho.block w1.heap.size al_5 (by omega))).trans a7_5
  have a8_6 := (World.cell?_of_block (a := ⟨w1.heap.size, 8, none⟩) (ho.block w1.heap.size al_5 (by omega))).trans a8_5
  have a9_6 := (World.cell?_of_block (a := ⟨w1.heap.size, 9, none⟩) (ho.block w1.heap.size al_5 (by omega))).trans a9_5
  have a10_6 := (World.cell?_of_block (a := ⟨w1.heap.size, 10, none⟩) (ho.block w1.heap.size al_5 (by omega))).trans a10_5
  have a11_6 := (World.cell?_of_block (a := ⟨w1.heap.size, 11, none⟩) (ho.block w1.heap.size al_5 (by omega))).trans a11_5
  have a12_6 := (World.cell?_of_block (a := ⟨w1.heap.size, 12, none⟩) (ho.block w1.heap.size al_5 (by omega))).trans a12_5
  have a13_6 := (World.cell?_of_block (a := ⟨w1.heap.size, 13, none⟩) (ho.block w1.heap.size al_5 (by omega))).trans a13_5
  have b0_6 := (World.cell?_of_block (a := ⟨w3.heap.size, 0, none⟩) (ho.block w3.heap.size bl_5 (by omega))).trans b0_5
  have b1_6 := (World.cell?_of_block (a := ⟨w3.heap.size, 1, none⟩) (ho.block w3.heap.size bl_5 (by omega))).trans b1_5
  have b2_6 := (World.cell?_of_block (a := ⟨w3.heap.size, 2, none⟩) (ho.block w3.heap.size bl_5 (by omega))).trans b2_5
  have b3_6 := (World.cell?_of_block (a := ⟨w3.heap.size, 3, none⟩) (ho.block w3.heap.size bl_5 (by omega))).trans b3_5
  have b4_6 := (World.cell?_of_block (a := ⟨w3.heap.size, 4, none⟩) (ho.block w3.heap.size bl_5 (by omega))).trans b4_5
  have b5_6 := (World.cell?_of_block (a := ⟨w3.heap.size, 5, none⟩) (ho.block w3.heap.size bl_5 (by omega))).trans b5_5
  have b6_6 := (World.cell?_of_block (a := ⟨w3.heap.size, 6, none⟩) (ho.block w3.heap.size bl_5 (by omega))).trans b6_5
  have b7_6 := (World.cell?_of_block (a := ⟨w3.heap.size, 7, none⟩) (ho.block w3.heap.size bl_5 (by omega))).trans b7_5
  have b8_6 := (World.cell?_of_block (a := ⟨w3.heap.size, 8, none⟩) (ho.block w3.heap.size bl_5 (by omega))).trans b8_5
  have b9_6 := (World.cell?_of_block (a := ⟨w3.heap.size, 9, none⟩) (ho.block w3.heap.size bl_5 (by omega))).trans b9_5
  have b10_6 := (World.cell?_of_block (a := ⟨w3.heap.size, 10, none⟩) (ho.block w3.heap.size bl_5 (by omega))).trans b10_5
  have b11_6 := (World.cell?_of_block (a := ⟨w3.heap.size, 11, none⟩) (ho.block w3.heap.size bl_5 (by omega))).trans b11_5
  have b12_6 := (World.cell?_of_block (a := ⟨w3.heap.size, 12, none⟩) (ho.block w3.heap.size bl_5 (by omega))).trans b12_5
  have b13_6 := (World.cell?_of_block (a := ⟨w3.heap.size, 13, none⟩) (ho.block w3.heap.size bl_5 (by omega))).trans b13_5
  have al_6 : w1.heap.size < w6.heap.size := Nat.lt_of_lt_of_le al_5 ho.size
  have bl_6 : w3.heap.size < w6.heap.size := Nat.lt_of_lt_of_le bl_5 ho.size
  have hga6 : ga < w6.heap.size := Nat.lt_of_lt_of_le hga5 ho.size
  have hgb6 : gb < w6.heap.size := Nat.lt_of_lt_of_le hgb5 ho.size
  have ZA6 := hid (ZA5.out.agree (ho.block ga hga5 (by omega)))
  have hc5 := c5.size
  have c6 : Below w.heap.size w w6 := c5.trans (ho.below (fun k hk => by subst hk; omega) (by omega))
  clear hm ho a0_5 a1_5 a2_5 a3_5 a4_5 a5_5 a6_5 a7_5 a8_5 a9_5 a10_5 a11_5 a12_5 a13_5 b0_5 b1_5 b2_5 b3_5 b4_5 b5_5 b6_5 b7_5 b8_5 b9_5 b10_5 b11_5 b12_5 b13_5 ZB5
  go_wp2_with fail
  refine (heldTier_z n0 gb _ HM6.out hgb6).mono ?_
  rintro e w7 ⟨rfl, b7⟩
  have d7 : Below w6.heap.size w6 w7 := (Below.trans (by go_grown) (b7.mono (by first | omega | (simp; done) | (simp; omega))))
  have c7 : Below w.heap.size w w7 := c6.trans (d7.mono c6.size)
  have a0_7 : w7.cell? ⟨w1.heap.size, 0, none⟩ = some (.int .i64 n0) := (by rw [b7.cell (by first | omega | (simp; done) | (simp; omega))]; go_cell)
  have a1_7 : w7.cell? ⟨w1.heap.size, 1, none⟩ = some (.int .i64 0) := (by rw [b7.cell (by first | omega | (simp; done) | (simp; omega))]; go_cell)
  have a2_7 : w7.cell? ⟨w1.heap.size, 2, none⟩ = some (.int .i64 0) := (by rw [b7.cell (by first | omega | (simp; done) | (simp; omega))]; go_cell)
  have a3_7 : w7.cell? ⟨w1.heap.size, 3, none⟩ = some (.bool false) := (by rw [b7.cell (by first | omega | (simp; done) | (simp; omega))]; go_cell)
  have a4_7 : w7.cell? ⟨w1.heap.size, 4, none⟩ = some (.bool false) := (by rw [b7.cell (by first | omega | (simp; done) | (simp; omega))]; go_cell)
  have a5_7 : w7.cell? ⟨w1.heap.size, 5, none⟩ = some (.bool false) := (by rw [b7.cell (by first | omega | (simp; done) | (simp; omega))]; go_cell)
  have a6_7 : w7.cell? ⟨w1.heap.size, 6, none⟩ = some (.bool false) := (by rw [b7.cell (by first | omega | (simp; done) | (simp; omega))]; go_cell)
  have a7_7 : w7.cell? ⟨w1.heap.size, 7, none⟩ = some (.int .i64 0) := (by rw [b7.cell (by first | omega | (simp; done) | (simp; omega))]; go_cell)
  have a8_7 : w7.cell? ⟨w1.heap.size, 8, none⟩ = some (.int .i64 0) := (by rw [b7.cell (by first | omega | (simp; done) | (simp; omega))]; go_cell)
  have a9_7 : w7.cell? ⟨w1.heap.size, 9, none⟩ = some (.int .i64 0) := (by rw [b7.cell (by first | omega | (simp; done) | (simp; omega))]; go_cell)
  have a10_7 : w7.cell? ⟨w1.heap.size, 10, none⟩ = some (.int .i64 0) := (by rw [b7.cell (by first | omega | (simp; done) | (simp; omega))]; go_cell)
  have a11_7 : w7.cell? ⟨w1.heap.size, 11, none⟩ = some (.int .i64 0) := (by rw [b7.cell (by first | omega | (simp; done) | (simp; omega))]; go_cell)
  have a12_7 : w7.cell? ⟨w1.heap.size, 12, none⟩ = some (.slice none 0 0) := (by rw [b7.cell (by first | omega | (simp; done) | (simp; omega))]; go_cell)
  have a13_7 : w7.cell? ⟨w1.heap.size, 13, none⟩ = some (.slice (some ⟨ga, 0, none⟩) 24 24) := (by rw [b7.cell (by first | omega | (simp; done) | (simp; omega))]; go_cell)
  have al_7 : w1.heap.size < w7.heap.size := (by have := b7.size; first | omega | (revert this; simp; done) | (revert this; simp; omega))
  have b0_7 : w7.cell? ⟨w3.heap.size, 0, none⟩ = some (.int .i64 n0) := (by rw [b7.cell (by first | omega | (simp; done) | (simp; omega))]; go_cell)
  have b1_7 : w7.cell? ⟨w3.heap.size, 1, none⟩ = some (.int .i64 0) := (by rw [b7.cell (by first | omega | (simp; done) | (simp; omega))]; go_cell)
  have b2_7 : w7.cell? ⟨w3.heap.size, 2, none⟩ = some (.int .i64 0) := (by rw [b7.cell (by first | omega | (simp; done) | (simp; omega))]; go_cell)
  have b3_7 : w7.cell? ⟨w3.heap.size, 3, none⟩ = some (.bool false) := (by rw [b7.cell (by first | omega | (simp; done) | (simp; omega))]; go_cell)
  have b4_7 : w7.cell? ⟨w3.heap.size, 4, none⟩ = some (.bool false) := (by rw [b7.cell (by first | omega | (simp; done) | (simp; omega))]; go_cell)
  have b5_7 : w7.cell? ⟨w3.heap.size, 5, none⟩ = some (.bool false) := (by rw [b7.cell (by first | omega | (simp; done) | (simp; omega))]; go_cell)
  have b6_7 : w7.cell? ⟨w3.heap.size, 6, none⟩ = some (.bool false) := (by rw [b7.cell (by first | omega | (simp; done) | (simp; omega))]; go_cell)
  have b7_7 : w7.cell? ⟨w3.heap.size, 7, none⟩ = some (.int .i64 0) := (by rw [b7.cell (by first | omega | (simp; done) | (simp; omega))]; go_cell)
  have b8_7 : w7.cell? ⟨w3.heap.size, 8, none⟩ = some (.int .i64 0) := (by rw [b7.cell (by first | omega | (simp; done) | (simp; omega))]; go_cell)
  have b9_7 : w7.cell? ⟨w3.heap.size, 9, none⟩ = some (.int .i64 0) := (by rw [b7.cell (by first | omega | (simp; done) | (simp; omega))]; go_cell)
  have b10_7 : w7.cell? ⟨w3.heap.size, 10, none⟩ = some (.int .i64 0) := (by rw [b7.cell (by first | omega | (simp; done) | (simp; omega))]; go_cell)
  have b11_7 : w7.cell? ⟨w3.heap.size, 11, none⟩ = some (.int .i64 0) := (by rw [b7.cell (by first | omega | (simp; done) | (simp; omega))]; go_cell)
  have b12_7 : w7.cell? ⟨w3.heap.size, 12, none⟩ = some (.slice none 0 0) := (by rw [b7.cell (by first | omega | (simp; done) | (simp; omega))]; go_cell)
  have b13_7 : w7.cell? ⟨w3.heap.size, 13, none⟩ = some (.slice (some ⟨gb, 84, none⟩) 24 24) := (by rw [b7.cell (by first | omega | (simp; done) | (simp; omega))]; go_cell)
  have bl_7 : w3.heap.size < w7.heap.size := (by have := b7.size; first | omega | (revert this; simp; done) | (revert this; simp; omega))
  clear a0_6 a1_6 a2_6 a3_6 a4_6 a5_6 a6_6 a7_6 a8_6 a9_6 a10_6 a11_6 a12_6 a13_6 al_6 b0_6 b1_6 b2_6 b3_6 b4_6 b5_6 b6_6 b7_6 b8_6 b9_6 b10_6 b11_6 b12_6 b13_6 bl_6
  have ZA7 := hid (ZA6.out.later hga6 d7)
  have HM7 := hid (HM6.out.later hgb6 d7)
  have hga7 : ga < w7.heap.size := Nat.lt_of_lt_of_le hga6 d7.size
  have hgb7 : gb < w7.heap.size := Nat.lt_of_lt_of_le hgb6 d7.size
  clear b7 d7
  go_wp2_with fail
  refine (implTOpen_in n0 HH.out.1 HH.out.2 _).mono ?_
  rintro e w8 ⟨⟨gc, rfl, hgc0, hgc1, zc⟩, b8⟩
  have ZC8 := hid zc
  clear zc
  have d8 : Below w7.heap.size w7 w8 := (Below.trans (by go_grown) (b8.mono (by first | omega | (simp; done) | (simp; omega))))
  have c8 : Below w.heap.size w w8 := c7.trans (d8.mono c7.size)
  have a0_8 : w8.cell? ⟨w1.heap.size, 0, none⟩ = some (.int .i64 n0) := (by rw [b8.cell (by first | omega | (simp; done) | (simp; omega))]; go_cell)
  have a1_8 : w8.cell? ⟨w1.heap.size, 1, none⟩ = some (.int .i64 0) := (by rw [b8.cell (by first | omega | (simp; done) | (simp; omega))]; go_cell)
  have a2_8 : w8.cell? ⟨w1.heap.size, 2, none⟩ = some (.int .i64 0) := (by rw [b8.cell (by first | omega | (simp; done) | (simp; omega))]; go_cell)
  have a3_8 : w8.cell? ⟨w1.heap.size, 3, none⟩ = some (.bool false) := (by rw [b8.cell (by first | omega | (simp; done) | (simp; omega))]; go_cell)
  have a4_8 : w8.cell? ⟨w1.heap.size, 4, none⟩ = some (.bool false) := (by rw [b8.cell (by first | omega | (simp; done) | (simp; omega))]; go_cell)
  have a5_8 : w8.cell? ⟨w1.heap.size, 5, none⟩ = some (.bool false) := (by rw [b8.cell (by first | omega | (simp; done) | (simp; omega))]; go_cell)
  have a6_8 : w8.cell? ⟨w1.heap.size, 6, none⟩ = some (.bool false) := (by rw [b8.cell (by first | omega | (simp; done) | (simp; omega))]; go_cell)
  have a7_8 : w8.cell? ⟨w1.heap.size, 7, none⟩ = some (.int .i64 0) := (by rw [b8.cell (by first | omega | (simp; done) | (simp; omega))]; go_cell)
  have a8_8 : w8.cell? ⟨w1.heap.size, 8, none⟩ = some (.int .i64 0) := (by rw [b8.cell (by first | omega | (simp; done) | (simp; omega))]; go_cell)
  have a9_8 : w8.cell? ⟨w1.heap.size, 9, none⟩ = some (.int .i64 0) := (by rw [b8.cell (by first | omega | (simp; done) | (simp; omega))]; go_cell)
  have a10_8 : w8.cell? ⟨w1.heap.size, 10, none⟩ = some (.int .i64 0) := (by rw [b8.cell (by first | omega | (simp; done) | (simp; omega))]; go_cell)
  have a11_8 : w8.cell? ⟨w1.heap.size, 11, none⟩ = some (.int .i64 0) := (by rw [b8.cell (by first | omega | (simp; done) | (simp; omega))]; go_cell)
  have a12_8 : w8.cell? ⟨w1.heap.size, 12, none⟩ = some (.slice none 0 0) := (by rw [b8.cell (by first | omega | (simp; done) | (simp; omega))]; go_cell)
  have a13_8 : w8.cell? ⟨w1.heap.size, 13, none⟩ = some (.slice (some ⟨ga, 0, none⟩) 24 24) := (by rw [b8.cell (by first | omega | (simp; done) | (simp; omega))]; go_cell)
  have al_8 : w1.heap.size < w8.heap.size := (by have := b8.size; first | omega | (revert this; simp; done) | (revert this; simp; omega))
  have b0_8 : w8.cell? ⟨w3.heap.size, 0, none⟩ = some (.int .i64 n0) := (by rw [b8.cell (by first | omega | (simp; done) | (simp; omega))]; go_cell)
  have b1_8 : w8.cell? ⟨w3.heap.size, 1, none⟩ = some (.int .i64 0) := (by rw [b8.cell (by first | omega | (simp; done) | (simp; omega))]; go_cell)
  have b2_8 : w8.cell? ⟨w3.heap.size, 2, none⟩ = some (.int .i64 0) := (by rw [b8.cell (by first | omega | (simp; done) | (simp; omega))]; go_cell)
  have b3_8 : w8.cell? ⟨w3.heap.size, 3, none⟩ = some (.bool false) := (by rw [b8.cell (by first | omega | (simp; done) | (simp; omega))]; go_cell)
  have b4_8 : w8.cell? ⟨w3.heap.size, 4, none⟩ = some (.bool false) := (by rw [b8.cell (by first | omega | (simp; done) | (simp; omega))]; go_cell)
  have b5_8 : w8.cell? ⟨w3.heap.size, 5, none⟩ = some (.bool false) := (by rw [b8.cell (by first | omega | (simp; done) | (simp; omega))]; go_cell)
  have b6_8 : w8.cell? ⟨w3.heap.size, 6, none⟩ = some (.bool false) := (by rw [b8.cell (by first | omega | (simp; done) | (simp; omega))]; go_cell)
  have b7_8 : w8.cell? ⟨w3.heap.size, 7, none⟩ = some (.int .i64 0) := (by rw [b8.cell (by first | omega | (simp; done) | (simp; omega))]; go_cell)
  have b8_8 : w8.cell? ⟨w3.heap.size, 8, none⟩ = some (.int .i64 0) := (by rw [b8.cell (by first | omega | (simp; done) | (simp; omega))]; go_cell)
  have b9_8 : w8.cell? ⟨w3.heap.size, 9, none⟩ = some (.int .i64 0) := (by rw [b8.cell (by first | omega | (simp; done) | (simp; omega))]; go_cell)
  have b10_8 : w8.cell? ⟨w3.heap.size, 10, none⟩ = some (.int .i64 0) := (by rw [b8.cell (by first | omega | (simp; done) | (simp; omega))]; go_cell)
  have b11_8 : w8.cell? ⟨w3.heap.size, 11, none⟩ = some (.int .i64 0) := (by rw [b8.cell (by first | omega | (simp; done) | (simp; omega))]; go_cell)
  have b12_8 : w8.cell? ⟨w3.heap.size, 12, none⟩ = some (.slice none 0 0) := (by rw [b8.cell (by first | omega | (simp; done) | (simp; omega))]; go_cell)
  have b13_8 : w8.cell? ⟨w3.heap.size, 13, none⟩ = some (.slice (some ⟨gb, 84, none⟩) 24 24) := (by rw [b8.cell (by first | omega | (simp; done) | (simp; omega))]; go_cell)
  have bl_8 : w3.heap.size < w8.heap.size := (by have := b8.size; first | omega | (revert this; simp; done) | (revert this; simp; omega))
  clear a0_7 a1_7 a2_7 a3_7 a4_7 a5_7 a6_7 a7_7 a8_7 a9_7 a10_7 a11_7 a12_7 a13_7 al_7 b0_7 b1_7 b2_7 b3_7 b4_7 b5_7 b6_7 b7_7 b8_7 b9_7 b10_7 b11_7 b12_7 b13_7 bl_7
  have ZA8 := hid (ZA7.out.later hga7 d8)
  have HM8 := hid (HM7.out.later hgb7 d8)
  have hga8 : ga < w8.heap.size := Nat.lt_of_lt_of_le hga7 d8.size
  have hgb8 : gb < w8.heap.size := Nat.lt_of_lt_of_le hgb7 d8.size
  clear b8 d8
  go_wp2_with fail
  have h0_9 : (w8.alloc (.cells #[.int .i64 n0, .int .i64 0, .int .i64 0, .bool false, .bool false, .bool false, .bool false, .int .i64 0, .int .i64 0, .int .i64 0, .int .i64 0, .int .i64 0, .slice none 0 0, .slice (some ⟨gc, 84, none⟩) 24 24] 30)).cell? ⟨w8.heap.size, 0, none⟩ = some (.int .i64 n0) := by go_cell
  have h1_9 : (w8.alloc (.cells #[.int .i64 n0, .int .i64 0, .int .i64 0, .bool false, .bool false, .bool false, .bool false, .int .i64 0, .int .i64 0, .int .i64 0, .int .i64 0, .int .i64 0, .slice none 0 0, .slice (some ⟨gc, 84, none⟩) 24 24] 30)).cell? ⟨w8.heap.size, 1, none⟩ = some (.int .i64 0) := by go_cell
  have h2_9 : (w8.alloc (.cells #[.int .i64 n0, .int .i64 0, .int .i64 0, .bool false, .bool false, .bool false, .bool false, .int .i64 0, .int .i64 0, .int .i64 0, .int .i64 0, .int .i64 0, .slice none 0 0, .slice (some ⟨gc, 84, none⟩) 24 24] 30)).cell? ⟨w8.heap.size, 2, none⟩ = some (.int .i64 0) := by go_cell
  have h3_9 : (w8.alloc (.cells #[.int .i64 n0, .int .i64 0, .int .i64 0, .bool false, .bool false, .bool false, .bool false, .int .i64 0, .int .i64 0, .int .i64 0, .int .i64 0, .int .i64 0, .slice none 0 0, .slice (some ⟨gc, 84, none⟩) 24 24] 30)).cell? ⟨w8.heap.size, 3, none⟩ = some (.bool false) := by go_cell
  have h4_9 : (w8.alloc (.cells #[.int .i64 n0, .int .i64 0, .int .i64 0, .bool false, .bool false, .bool false, .bool false, .int .i64 0, .int .i64 0, .int .i64 0, .int .i64 0, .int .i64 0, .slice none 0 0, .slice (some ⟨gc, 84, none⟩) 24 24] 30)).cell? ⟨w8.heap.size, 4, none⟩ = some (.bool false) := by go_cell
  have h5_9 : (w8.alloc (.cells #[.int .i64 n0, .int .i64 0, .int .i64 0, .bool false, .bool false, .bool false, .bool false, .int .i64 0, .int .i64 0, .int .i64 0, .int .i64 0, .int .i64 0, .slice none 0 0, .slice (some ⟨gc, 84, none⟩) 24 24] 30)).cell? ⟨w8.heap.size, 5, none⟩ = some (.bool false) := by go_cell
  have h6_9 : (w8.alloc (.cells #[.int .i64 n0, .int .i64 0, .int .i64 0, .bool false, .bool false, .bool false, .bool false, .int .i64 0, .int .i64 0, .int .i64 0, .int .i64 0, .int .i64 0, .slice none 0 0, .slice (some ⟨gc, 84, none⟩) 24 24] 30)).cell? ⟨w8.heap.size, 6, none⟩ = some (.bool false) := by go_cell
  have h7_9 : (w8.alloc (.cells #[.int .i64 n0, .int .i64 0, .int .i64 0, .bool false, .bool false, .bool false, .bool false, .int .i64 0, .int .i64 0, .int .i64 0, .int .i64 0, .int .i64 0, .slice none 0 0, .slice (some ⟨gc, 84, none⟩) 24 24] 30)).cell? ⟨w8.heap.size, 7, none⟩ = some (.int .i64 0) := by go_cell
  have h8_9 : (w8.alloc (.cells #[.int .i64 n0, .int .i64 0, .int .i64 0, .bool false, .bool false, .bool false, .bool false, .int .i64 0, .int .i64 0, .int .i64 0, .int .i64 0, .int .i64 0, .slice none 0 0, .slice (some ⟨gc, 84, none⟩) 24 24] 30)).cell? ⟨w8.heap.size, 8, none⟩ = some (.int .i64 0) := by go_cell
  have h9_9 : (w8.alloc (.cells #[.int .i64 n0, .int .i64 0, .int .i64 0, .bool false, .bool false, .bool false, .bool false, .int .i64 0, .int .i64 0, .int .i64 0, .int .i64 0, .int .i64 0, .slice none 0 0, .slice (some ⟨gc, 84, none⟩) 24 24] 30)).cell? ⟨w8.heap.size, 9, none⟩ = some (.int .i64 0) := by go_cell
  have h10_9 : (w8.alloc (.cells #[.int .i64 n0, .int .i64 0, .int .i64 0, .bool false, .bool false, .bool false, .bool false, .int .i64 0, .int .i64 0, .int .i64 0, .int .i64 0, .int .i64 0, .slice none 0 0, .slice (some ⟨gc, 84, none⟩) 24 24] 30)).cell? ⟨w8.heap.size, 10, none⟩ = some (.int .i64 0) := by go_cell
  have h11_9 : (w8.alloc (.cells #[.int .i64 n0, .int .i64 0, .int .i64 0, .bool false, .bool false, .bool false, .bool false, .int .i64 0, .int .i64 0, .int .i64 0, .int .i64 0, .int .i64 0, .slice none 0 0, .slice (some ⟨gc, 84, none⟩) 24 24] 30)).cell? ⟨w8.heap.size, 11, none⟩ = some (.int .i64 0) := by go_cell
  have h12_9 : (w8.alloc (.cells #[.int .i64 n0, .int .i64 0, .int .i64 0, .bool false, .bool false, .bool false, .bool false, .int .i64 0, .int .i64 0, .int .i64 0, .int .i64 0, .int .i64 0, .slice none 0 0, .slice (some ⟨gc, 84, none⟩) 24 24] 30)).cell? ⟨w8.heap.size, 12, none⟩ = some (.slice none 0 0) := by go_cell
  have h13_9 : (w8.alloc (.cells #[.int .i64 n0, .int .i64 0, .int .i64 0, .bool false, .bool false, .bool false, .bool false, .int .i64 0, .int .i64 0, .int .i64 0, .int .i64 0, .int .i64 0, .slice none 0 0, .slice (some ⟨gc, 84, none⟩) 24 24] 30)).cell? ⟨w8.heap.size, 13, none⟩ = some (.slice (some ⟨gc, 84, none⟩) 24 24) := by go_cell
  have hl_9 : w8.heap.size < (w8.alloc (.cells #[.int .i64 n0, .int .i64 0, .int .i64 0, .bool false, .bool false, .bool false, .bool false, .int .i64 0, .int .i64 0, .int .i64 0, .int .i64 0, .int .i64 0, .slice none 0 0, .slice (some ⟨gc, 84, none⟩) 24 24] 30)).heap.size := by simp
  have d9 : Below w8.heap.size w8 (w8.alloc (.cells #[.int .i64 n0, .int .i64 0, .int .i64 0, .bool false, .bool false, .bool false, .bool false, .int .i64 0, .int .i64 0, .int .i64 0, .int .i64 0, .int .i64 0, .slice none 0 0, .slice (some ⟨gc, 84, none⟩) 24 24] 30)) := by go_grown
  generalize (w8.alloc (.cells #[.int .i64 n0, .int .i64 0, .int .i64 0, .bool false, .bool false, .bool false, .bool false, .int .i64 0, .int .i64 0, .int .i64 0, .int .i64 0, .int .i64 0, .slice none 0 0, .slice (some ⟨gc, 84, none⟩) 24 24] 30)) = w9 at h0_9 h1_9 h2_9 h3_9 h4_9 h5_9 h6_9 h7_9 h8_9 h9_9 h10_9 h11_9 h12_9 h13_9 hl_9 d9 ⊢
  have c9 : Below w.heap.size w w9 := c8.trans (d9.mono c8.size)
  have a0_9 : w9.cell? ⟨w1.heap.size, 0, none⟩ = some (.int .i64 n0) := (by rw [d9.cell (by first | omega | (simp; done) | (simp; omega))]; go_cell)
  have a1_9 : w9.cell? ⟨w1.heap.size, 1, none⟩ = some (.int .i64 0) := (by rw [d9.cell (by first | omega | (simp; done) | (simp; omega))]; go_cell)
  have a2_9 : w9.cell? ⟨w1.heap.size, 2, none⟩ = some (.int .i64 0) := (by rw [d9.cell (by first | omega | (simp; done) | (simp; omega))]; go_cell)
  have a3_9 : w9.cell? ⟨w1.heap.size, 3, none⟩ = some (.bool false) := (by rw [d9.cell (by first | omega | (simp; done) | (simp; omega))]; go_cell)
  have a4_9 : w9.cell? ⟨w1.heap.size, 4, none⟩ = some (.bool false) := (by rw [d9.cell (by first | omega | (simp; done) | (simp; omega))]; go_cell)
  have a5_9 : w9.cell? ⟨w1.heap.size, 5, none⟩ = some (.bool false) := (by rw [d9.cell (by first | omega | (simp; done) | (simp; omega))]; go_cell)
  have a6_9 : w9.cell? ⟨w1.heap.size, 6, none⟩ = some (.bool false) := (by rw [d9.cell (by first | omega | (simp; done) | (simp; omega))]; go_cell)
  have a7_9 : w9.cell? ⟨w1.heap.size, 7, none⟩ = some (.int .i64 0) := (by rw [d9.cell (by first | omega | (simp; done) | (simp; omega))]; go_cell)
  have a8_9 : w9.cell? ⟨w1.heap.size, 8, none⟩ = some (.int .i64 0) := (by rw [d9.cell (by first | omega | (simp; done) | (simp; omega))]; go_cell)
  have a9_9 : w9.cell? ⟨w1.heap.size, 9, none⟩ = some (.int .i64 0) := (by rw [d9.cell (by first | omega | (simp; done) | (simp; omega))]; go_cell)
  have a10_9 : w9.cell? ⟨w1.heap.size, 10, none⟩ = some (.int .i64 0) := (by rw [d9.cell (by first | omega | (simp; done) | (simp; omega))]; go_cell)
  have a11_9 : w9.cell? ⟨w1.heap.size, 11, none⟩ = some (.int .i64 0) := (by rw [d9.cell (by first | omega | (simp; done) | (simp; omega))]; go_cell)
  have a12_9 : w9.cell? ⟨w1.heap.size, 12, none⟩ = some (.slice none 0 0) := (by rw [d9.cell (by first | omega | (simp; done) | (simp; omega))]; go_cell)
  have a13_9 : w9.cell? ⟨w1.heap.size, 13, none⟩ = some (.slice (some ⟨ga, 0, none⟩) 24 24) := (by rw [d9.cell (by first | omega | (simp; done) | (simp; omega))]; go_cell)
  have al_9 : w1.heap.size < w9.heap.size := (by have := d9.size; omega)
  have b0_9 : w9.cell? ⟨w3.heap.size, 0, none⟩ = some (.int .i64 n0) := (by rw [d9.cell (by first | omega | (simp; done) | (simp; omega))]; go_cell)
  have b1_9 : w9.cell? ⟨w3.heap.size, 1, none⟩ = some (.int .i64 0) := (by rw [d9.cell (by first | omega | (simp; done) | (simp; omega))]; go_cell)
  have b2_9 : w9.cell? ⟨w3.heap.size, 2, none⟩ = some (.int .i64 0) := (by rw [d9.cell (by first | omega | (simp; done) | (simp; omega))]; go_cell)
  have b3_9 : w9.cell? ⟨w3.heap.size, 3, none⟩ = some (.bool false) := (by rw [d9.cell (by first | omega | (simp; done) | (simp; omega))]; go_cell)
  have b4_9 : w9.cell? ⟨w3.heap.size, 4, none⟩ = some (.bool false) := (by rw [d9.cell (by first | omega | (simp; done) | (simp; omega))]; go_cell)
  have b5_9 : w9.cell? ⟨w3.heap.size, 5, none⟩ = some (.bool false) := (by rw [d9.cell (by first | omega | (simp; done) | (simp; omega))]; go_cell)
  have b6_9 : w9.cell? ⟨w3.heap.size, 6, none⟩ = some (.bool false) := (by rw [d9.cell (by first | omega | (simp; done) | (simp; omega))]; go_cell)
  have b7_9 : w9.cell? ⟨w3.heap.size, 7, none⟩ = some (.int .i64 0) := (by rw [d9.cell (by first | omega | (simp; done) | (simp; omega))]; go_cell)
  have b8_9 : w9.cell? ⟨w3.heap.size, 8, none⟩ = some (.int .i64 0) := (by rw [d9.cell (by first | omega | (simp; done) | (simp; omega))]; go_cell)
  have b9_9 : w9.cell? ⟨w3.heap.size, 9, none⟩ = some (.int .i64 0) := (by rw [d9.cell (by first | omega | (simp; done) | (simp; omega))]; go_cell)
  have b10_9 : w9.cell? ⟨w3.heap.size, 10, none⟩ = some (.int .i64 0) := (by rw [d9.cell (by first | omega | (simp; done) | (simp; omega))]; go_cell)
  have b11_9 : w9.cell? ⟨w3.heap.size, 11, none⟩ = some (.int .i64 0) := (by rw [d9.cell (by first | omega | (simp; done) | (simp; omega))]; go_cell)
  have b12_9 : w9.cell? ⟨w3.heap.size, 12, none⟩ = some (.slice none 0 0) := (by rw [d9.cell (by first | omega | (simp; done) | (simp; omega))]; go_cell)
  have b13_9 : w9.cell? ⟨w3.heap.size, 13, none⟩ = some (.slice (some ⟨gb, 84, none⟩) 24 24) := (by rw [d9.cell (by first | omega | (simp; done) | (simp; omega))]; go_cell)
  have bl_9 : w3.heap.size < w9.heap.size := (by have := d9.size; omega)
  clear a0_8 a1_8 a2_8 a3_8 a4_8 a5_8 a6_8 a7_8 a8_8 a9_8 a10_8 a11_8 a12_8 a13_8 al_8 b0_8 b1_8 b2_8 b3_8 b4_8 b5_8 b6_8 b7_8 b8_8 b9_8 b10_8 b11_8 b12_8 b13_8 bl_8
  have ZA9 := hid (ZA8.out.later hga8 d9)
  have HM9 := hid (HM8.out.later hgb8 d9)
  have ZC9 := hid (ZC8.out.later hgc1 d9)
  have hga9 : ga < w9.heap.size := Nat.lt_of_lt_of_le hga8 d9.size
  have hgb9 : gb < w9.heap.size := Nat.lt_of_lt_of_le hgb8 d9.size
  have hgc9 : gc < w9.heap.size := Nat.lt_of_lt_of_le hgc1 d9.size
  clear d9
  refine (eqTier_rd n0 0 0 false false false false 0 0 0 0 0 _ _ _ _ _ _ _ (ZC9.out.rs hgc9) (ZA9.out.rs hga9)).mono ?_
  rintro e w10 ⟨rfl, b10⟩
  have d10 : Below w9.heap.size w9 w10 := (Below.trans (by go_grown) (b10.mono (by first | omega | (simp; done) | (simp; omega))))
  have c10 : Below w.heap.size w w10 := c9.trans (d10.mono c9.size)
  have b0_10 : w10.cell? ⟨w3.heap.size, 0, none⟩ = some (.int .i64 n0) := (by rw [b10.cell (by first | omega | (simp; done) | (simp; omega))]; go_cell)
  have b1_10 : w10.cell? ⟨w3.heap.size, 1, none⟩ = some (.int .i64 0) := (by rw [b10.cell (by first | omega | (simp; done) | (simp; omega))]; go_cell)
  have b2_10 : w10.cell? ⟨w3.heap.size, 2, none⟩ = some (.int .i64 0) := (by rw [b10.cell (by first | omega | (simp; done) | (simp; omega))]; go_cell)
  have b3_10 : w10.cell? ⟨w3.heap.size, 3, none⟩ = some (.bool false) := (by rw [b10.cell (by first | omega | (simp; done) | (simp; omega))]; go_cell)
  have b4_10 : w10.cell? ⟨w3.heap.size, 4, none⟩ = some (.bool false) := (by rw [b10.cell (by first | omega | (simp; done) | (simp; omega))]; go_cell)
  have b5_10 : w10.cell? ⟨w3.heap.size, 5, none⟩ = some (.bool false) := (by rw [b10.cell (by first | omega | (simp; done) | (simp; omega))]; go_cell)
  have b6_10 : w10.cell? ⟨w3.heap.size, 6, none⟩ = some (.bool false) := (by rw [b10.cell (by first | omega | (simp; done) | (simp; omega))]; go_cell)
  have b7_10 : w10.cell? ⟨w3.heap.size, 7, none⟩ = some (.int .i64 0) := (by rw [b10.cell (by first | omega | (simp; done) | (simp; omega))]; go_cell)
  have b8_10 : w10.cell? ⟨w3.heap.size, 8, none⟩ = some (.int .i64 0) := (by rw [b10.cell (by first | omega | (simp; done) | (simp; omega))]; go_cell)
  have b9_10 : w10.cell? ⟨w3.heap.size, 9, none⟩ = some (.int .i64 0) := (by rw [b10.cell (by first | omega | (simp; done) | (simp; omega))]; go_cell)
  have b10_10 : w10.cell? ⟨w3.heap.size, 10, none⟩ = some (.int .i64 0) := (by rw [b10.cell (by first | omega | (simp; done) | (simp; omega))]; go_cell)
  have b11_10 : w10.cell? ⟨w3.heap.size, 11, none⟩ = some (.int .i64 0) := (by rw [b10.cell (by first | omega | (simp; done) | (simp; omega))]; go_cell)
  have b12_10 : w10.cell? ⟨w3.heap.size, 12, none⟩ = some (.slice none 0 0) := (by rw [b10.cell (by first | omega | (simp; done) | (simp; omega))]; go_cell)
  have b13_10 : w10.cell? ⟨w3.heap.size, 13, none⟩ = some (.slice (some ⟨gb, 84, none⟩) 24 24) := (by rw [b10.cell (by first | omega | (simp; done) | (simp; omega))]; go_cell)
  have bl_10 : w3.heap.size < w10.heap.size := (by have := b10.size; first | omega | (revert this; simp; done) | (revert this; simp; omega))
  clear b0_9 b1_9 b2_9 b3_9 b4_9 b5_9 b6_9 b7_9 b8_9 b9_9 b10_9 b11_9 b12_9 b13_9 bl_9
  have HM10 := hid (HM9.out.later hgb9 d10)
  have hgb10 : gb < w10.heap.size := Nat.lt_of_lt_of_le hgb9 d10.size
  clear b10 d10
  go_wp2_with fail
  refine (heldTier_z n0 gb _ HM10.out hgb10).mono ?_
  rintro e w11 ⟨rfl, b11⟩
  have c11 := c10.trans (b11.mono c10.size)
  clear b11
  go_wp2
  go_ret
  exact ⟨by simp, c11⟩
set_option maxRecDepth 100000 in
set_option maxHeartbeats 8000000 in
theorem lawTOpen_out (n0 : Int) (h : ¬ (0 ≤ n0 ∧ n0 < 2)) (w : World) : Calls Try.prog 3 #[.int .i64 n0] w fun e w' => e = .returned (.bool true) ∧ Below w.heap.size w w' := by
  have HH := hid h
  clear h
  go_enter Try.func3, Try.ntmps3
  go_wp2_with fail
  refine (specTOpen_out n0 HH.out _).mono ?_
  rintro e w1 ⟨rfl, b1⟩
  have c1 := b1
  clear b1
  go_wp2_with fail
  have a0_2 : (w1.alloc (.cells #[.int .i64 0, .int .i64 0, .int .i64 0, .bool false, .bool false, .bool false, .bool false, .int .i64 0, .int .i64 0, .int .i64 0, .int .i64 0, .int .i64 0, .slice none 0 0, .slice none 0 0] 30)).cell? ⟨w1.heap.size, 0, none⟩ = some (.int .i64 0) := by go_cell
  have a1_2 : (w1.alloc (.cells #[.int .i64 0, .int .i64 0, .int .i64 0, .bool false, .bool false, .bool false, .bool false, .int .i64 0, .int .i64 0, .int .i64 0, .int .i64 0, .int .i64 0, .slice none 0 0, .slice none 0 0] 30)).cell? ⟨w1.heap.size, 1, none⟩ = some (.int .i64 0) := by go_cell
  have a2_2 : (w1.alloc (.cells #[.int .i64 0, .int .i64 0, .int .i64 0, .bool false, .bool false, .bool false, .bool false, .int .i64 0, .int .i64 0, .int .i64 0, .int .i64 0, .int .i64 0, .slice none 0 0, .slice none 0 0] 30)).cell? ⟨w1.heap.size, 2, none⟩ = some (.int .i64 0) := by go_cell
  have a3_2 : (w1.alloc (.cells #[.int .i64 0, .int .i64 0, .int .i64 0, .bool false, .bool false, .bool false, .bool false, .int .i64 0, .int .i64 0, .int .i64 0, .int .i64 0, .int .i64 0, .slice none 0 0, .slice none 0 0] 30)).cell? ⟨w1.heap.size, 3, none⟩ = some (.bool false) := by go_cell
  have a4_2 : (w1.alloc (.cells #[.int .i64 0, .int .i64 0, .int .i64 0, .bool false, .bool false, .bool false, .bool false, .int .i64 0, .int .i64 0, .int .i64 0, .int .i64 0, .int .i64 0, .slice none 0 0, .slice none 0 0] 30)).cell? ⟨w1.heap.size, 4, none⟩ = some (.bool false) := by go_cell
  have a5_2 : (w1.alloc (.cells #[.int .i64 0, .int .i64 0, .int .i64 0, .bool false, .bool false, .bool false, .bool false, .int .i64 0, .int .i64 0, .int .i64 0, .int .i64 0, .int .i64 0, .slice none 0 0, .slice none 0 0] 30)).cell? ⟨w1.heap.size, 5, none⟩ = some (.bool false) := by go_cell
  have a6_2 : (w1.alloc (.cells #[.int .i64 0, .int .i64 0, .int .i64 0, .bool false, .bool false, .bool false, .bool false, .int .i64 0, .int .i64 0, .int .i64 0, .int .i64 0, .int .i64 0, .slice none 0 0, .slice none 0 0] 30)).cell? ⟨w1.heap.size, 6, none⟩ = some (.bool false) := by go_cell
  have a7_2 : (w1.alloc (.cells #[.int .i64 0, .int .i64 0, .int .i64 0, .bool false, .bool false, .bool false, .bool false, .int .i64 0, .int .i64 0, .int .i64 0, .int .i64 0, .int .i64 0, .slice none 0 0, .slice none 0 0] 30)).cell? ⟨w1.heap.size, 7, none⟩ = some (.int .i64 0) := by go_cell
  have a8_2 : (w1.alloc (.cells #[.int .i64 0, .int .i64 0, .int .i64 0, .bool false, .bool false, .bool false, .bool false, .int .i64 0, .int .i64 0, .int .i64 0, .int .i64 0, .int .i64 0, .slice none 0 0, .slice none 0 0] 30)).cell? ⟨w1.heap.size, 8, none⟩ = some (.int .i64 0) := by go_cell
  have a9_2 : (w1.alloc (.cells #[.int .i64 0, .int .i64 0, .int .i64 0, .bool false, .bool false, .bool false, .bool false, .int .i64 0, .int .i64 0, .int .i64 0, .int .i64 0, .int .i64 0, .slice none 0 0, .slice none 0 0] 30)).cell? ⟨w1.heap.size, 9, none⟩ = some (.int .i64 0) := by go_cell
  have a10_2 : (w1.alloc (.cells #[.int .i64 0, .int .i64 0, .int .i64 0, .bool false, .bool false, .bool false, .bool false, .int .i64 0, .int .i64 0, .int .i64 0, .int .i64 0, .int .i64 0, .slice none 0 0, .slice none 0 0] 30)).cell? ⟨w1.heap.size, 10, none⟩ = some (.int .i64 0) := by go_cell
  have a11_2 : (w1.alloc (.cells #[.int .i64 0, .int .i64 0, .int .i64 0, .bool false, .bool false, .bool false, .bool false, .int .i64 0, .int .i64 0, .int .i64 0, .int .i64 0, .int .i64 0, .slice none 0 0, .slice none 0 0] 30)).cell? ⟨w1.heap.size, 11, none⟩ = some (.int .i64 0) := by go_cell
  have a12_2 : (w1.alloc (.cells #[.int .i64 0, .int .i64 0, .int .i64 0, .bool false, .bool false, .bool false, .bool false, .int .i64 0, .int .i64 0, .int .i64 0, .int .i64 0, .int .i64 0, .slice none 0 0, .slice none 0 0] 30)).cell? ⟨w1.heap.size, 12, none⟩ = some (.slice none 0 0) := by go_cell
  have a13_2 : (w1.alloc (.cells #[.int .i64 0, .int .i64 0, .int .i64 0, .bool false, .bool false, .bool false, .bool false, .int .i64 0, .int .i64 0, .int .i64 0, .int .i64 0, .int .i64 0, .slice none 0 0, .slice none 0 0] 30)).cell? ⟨w1.heap.size, 13, none⟩ = some (.slice none 0 0) := by go_cell
  have al_2 : w1.heap.size < (w1.alloc (.cells #[.int .i64 0, .int .i64 0, .int .i64 0, .bool false, .bool false, .bool false, .bool false, .int .i64 0, .int .i64 0, .int .i64 0, .int .i64 0, .int .i64 0, .slice none 0 0, .slice none 0 0] 30)).heap.size := by simp
  have d2 : Below w1.heap.size w1 (w1.alloc (.cells #[.int .i64 0, .int .i64 0, .int .i64 0, .bool false, .bool false, .bool false, .bool false, .int .i64 0, .int .i64 0, .int .i64 0, .int .i64 0, .int .i64 0, .slice none 0 0, .slice none 0 0] 30)) := by go_grown
  generalize (w1.alloc (.cells #[.int .i64 0, .int .i64 0, .int .i64 0, .bool false, .bool false, .bool false, .bool false, .int .i64 0, .int .i64 0, .int .i64 0, .int .i64 0, .int .i64 0, .slice none 0 0, .slice none 0 0] 30)) = w2 at a0_2 a1_2 a2_2 a3_2 a4_2 a5_2 a6_2 a7_2 a8_2 a9_2 a10_2 a11_2 a12_2 a13_2 al_2 d2 ⊢
  have c2 : Below w.heap.size w w2 := c1.trans (d2.mono c1.size)
  clear d2
  refine (implTOpen_out n0 HH.out _).mono ?_
  rintro e w3 ⟨rfl, b3⟩
  have d3 : Below w2.heap.size w2 w3 := (Below.trans (by go_grown) (b3.mono (by first | omega | (simp; done) | (simp; omega))))
  have c3 : Below w.heap.size w w3 := c2.trans (d3.mono c2.size)
  have a0_3 : w3.cell? ⟨w1.heap.size, 0, none⟩ = some (.int .i64 0) := (by rw [b3.cell (by first | omega | (simp; done) | (simp; omega))]; go_cell)
  have a1_3 : w3.cell? ⟨w1.heap.size, 1, none⟩ = some (.int .i64 0) := (by rw [b3.cell (by first | omega | (simp; done) | (simp; omega))]; go_cell)
  have a2_3 : w3.cell? ⟨w1.heap.size, 2, none⟩ = some (.int .i64 0) := (by rw [b3.cell (by first | omega | (simp; done) | (simp; omega))]; go_cell)
  have a3_3 : w3.cell? ⟨w1.heap.size, 3, none⟩ = some (.bool false) := (by rw [b3.cell (by first | omega | (simp; done) | (simp; omega))]; go_cell)
  have a4_3 : w3.cell? ⟨w1.heap.size, 4, none⟩ = some (.bool false) := (by rw [b3.cell (by first | omega | (simp; done) | (simp; omega))]; go_cell)
  have a5_3 : w3.cell? ⟨w1.heap.size, 5, none⟩ = some (.bool false) := (by rw [b3.cell (by first | omega | (simp; done) | (simp; omega))]; go_cell)
  have a6_3 : w3.cell? ⟨w1.heap.size, 6, none⟩ = some (.bool false) := (by rw [b3.cell (by first | omega | (simp; done) | (simp; omega))]; go_cell)
  have a7_3 : w3.cell? ⟨w1.heap.size, 7, none⟩ = some (.int .i64 0) := (by rw [b3.cell (by first | omega | (simp; done) | (simp; omega))]; go_cell)
  have a8_3 : w3.cell? ⟨w1.heap.size, 8, none⟩ = some (.int .i64 0) := (by rw [b3.cell (by first | omega | (simp; done) | (simp; omega))]; go_cell)
  have a9_3 : w3.cell? ⟨w1.heap.size, 9, none⟩ = some (.int .i64 0) := (by rw [b3.cell (by first | omega | (simp; done) | (simp; omega))]; go_cell)
  have a10_3 : w3.cell? ⟨w1.heap.size, 10, none⟩ = some (.int .i64 0) := (by rw [b3.cell (by first | omega | (simp; done) | (simp; omega))]; go_cell)
  have a11_3 : w3.cell? ⟨w1.heap.size, 11, none⟩ = some (.int .i64 0) := (by rw [b3.cell (by first | omega | (simp; done) | (simp; omega))]; go_cell)
  have a12_3 : w3.cell? ⟨w1.heap.size, 12, none⟩ = some (.slice none 0 0) := (by rw [b3.cell (by first | omega | (simp; done) | (simp; omega))]; go_cell)
  have a13_3 : w3.cell? ⟨w1.heap.size, 13, none⟩ = some (.slice none 0 0) := (by rw [b3.cell (by first | omega | (simp; done) | (simp; omega))]; go_cell)
  have al_3 : w1.heap.size < w3.heap.size := (by have := b3.size; first | omega | (revert this; simp; done) | (revert this; simp; omega))
  clear a0_2 a1_2 a2_2 a3_2 a4_2 a5_2 a6_2 a7_2 a8_2 a9_2 a10_2 a11_2 a12_2 a13_2 al_2
  clear b3 d3
  go_wp2_with fail
  have b0_4 : (w3.alloc (.cells #[.int .i64 0, .int .i64 0, .int .i64 0, .bool false, .bool false, .bool false, .bool false, .int .i64 0, .int .i64 0, .int .i64 0, .int .i64 0, .int .i64 0, .slice none 0 0, .slice none 0 0] 30)).cell? ⟨w3.heap.size, 0, none⟩ = some (.int .i64 0) := by go_cell
  have b1_4 : (w3.alloc (.cells #[.int .i64 0, .int .i64 0, .int .i64 0, .bool false, .bool false, .bool false, .bool false, .int .i64 0, .int .i64 0, .int .i64 0, .int .i64 0, .int .i64 0, .slice none 0 0, .slice none 0 0] 30)).cell? ⟨w3.heap.size, 1, none⟩ = some (.int .i64 0) := by go_cell
  have b2_4 : (w3.alloc (.cells #[.int .i64 0, .int .i64 0, .int .i64 0, .bool false, .bool false, .bool false, .bool false, .int .i64 0, .int .i64 0, .int .i64 0, .int .i64 0, .int .i64 0, .slice none 0 0, .slice none 0 0] 30)).cell? ⟨w3.heap.size, 2, none⟩ = some (.int .i64 0) := by go_cell
  have b3_4 : (w3.alloc (.cells #[.int .i64 0, .int .i64 0, .int .i64 0, .bool false, .bool false, .bool false, .bool false, .int .i64 0, .int .i64 0, .int .i64 0, .int .i64 0, .int .i64 0, .slice none 0 0, .slice none 0 0] 30)).cell? ⟨w3.heap.size, 3, none⟩ = some (.bool false) := by go_cell
  have b4_4 : (w3.alloc (.cells #[.int .i64 0, .int .i64 0, .int .i64 0, .bool false, .bool false, .bool false, .bool false, .int .i64 0, .int .i64 0, .int .i64 0, .int .i64 0, .int .i64 0, .slice none 0 0, .slice none 0 0] 30)).cell? ⟨w3.heap.size, 4, none⟩ = some (.bool false) := by go_cell
  have b5_4 : (w3.alloc (.cells #[.int .i64 0, .int .i64 0, .int .i64 0, .bool false, .bool false, .bool false, .bool false, .int .i64 0, .int .i64 0, .int .i64 0, .int .i64 0, .int .i64 0, .slice none 0 0, .slice none 0 0] 30)).cell? ⟨w3.heap.size, 5, none⟩ = some (.bool false) := by go_cell
  have b6_4 : (w3.alloc (.cells #[.int .i64 0, .int .i64 0, .int .i64 0, .bool false, .bool false, .bool false, .bool false, .int .i64 0, .int .i64 0, .int .i64 0, .int .i64 0, .int .i64 0, .slice none 0 0, .slice none 0 0] 30)).cell? ⟨w3.heap.size, 6, none⟩ = some (.bool false) := by go_cell
  have b7_4 : (w3.alloc (.cells #[.int .i64 0, .int .i64 0, .int .i64 0, .bool false, .bool false, .bool false, .bool false, .int .i64 0, .int .i64 0, .int .i64 0, .int .i64 0, .int .i64 0, .slice none 0 0, .slice none 0 0] 30)).cell? ⟨w3.heap.size, 7, none⟩ = some (.int .i64 0) := by go_cell
  have b8_4 : (w3.alloc (.cells #[.int .i64 0, .int .i64 0, .int .i64 0, .bool false, .bool false, .bool false, .bool false, .int .i64 0, .int .i64 0, .int .i64 0, .int .i64 0, .int .i64 0, .slice none 0 0, .slice none 0 0] 30)).cell? ⟨w3.heap.size, 8, none⟩ = some (.int .i64 0) := by go_cell
  have b9_4 : (w3.alloc (.cells #[.int .i64 0, .int .i64 0, .int .i64 0, .bool false, .bool false, .bool false, .bool false, .int .i64 0, .int .i64 0, .int .i64 0, .int .i64 0, .int .i64 0, .slice none 0 0, .slice none 0 0] 30)).cell? ⟨w3.heap.size, 9, none⟩ = some (.int .i64 0) := by go_cell
  have b10_4 : (w3.alloc (.cells #[.int .i64 0, .int .i64 0, .int .i64 0, .bool false, .bool false, .bool false, .bool false, .int .i64 0, .int .i64 0, .int .i64 0, .int .i64 0, .int .i64 0, .slice none 0 0, .slice none 0 0] 30)).cell? ⟨w3.heap.size, 10, none⟩ = some (.int .i64 0) := by go_cell
  have b11_4 : (w3.alloc (.cells #[.int .i64 0, .int .i64 0, .int .i64 0, .bool false, .bool false, .bool false, .bool false, .int .i64 0, .int .i64 0, .int .i64 0, .int .i64 0, .int .i64 0, .slice none 0 0, .slice none 0 0] 30)).cell? ⟨w3.heap.size, 11, none⟩ = some (.int .i64 0) := by go_cell
  have b12_4 : (w3.alloc (.cells #[.int .i64 0, .int .i64 0, .int .i64 0, .bool false, .bool false, .bool false, .bool false, .int .i64 0, .int .i64 0, .int .i64 0, .int .i64 0, .int .i64 0, .slice none 0 0, .slice none 0 0] 30)).cell? ⟨w3.heap.size, 12, none⟩ = some (.slice none 0 0) := by go_cell
  have b13_4 : (w3.alloc (.cells #[.int .i64 0, .int .i64 0, .int .i64 0, .bool false, .bool false, .bool false, .bool false, .int .i64 0, .int .i64 0, .int .i64 0, .int .i64 0, .int .i64 0, .slice none 0 0, .slice none 0 0] 30)).cell? ⟨w3.heap.size, 13, none⟩ = some (.slice none 0 0) := by go_cell
  have bl_4 : w3.heap.size < (w3.alloc (.cells #[.int .i64 0, .int .i64 0, .int .i64 0, .bool false, .bool false, .bool false, .bool false, .int .i64 0, .int .i64 0, .int .i64 0, .int .i64 0, .int .i64 0, .slice none 0 0, .slice none 0 0] 30)).heap.size := by simp
  have d4 : Below w3.heap.size w3 (w3.alloc (.cells #[.int .i64 0, .int .i64 0, .int .i64 0, .bool false, .bool false, .bool false, .bool false, .int .i64 0, .int .i64 0, .int .i64 0, .int .i64 0, .int .i64 0, .slice none 0 0, .slice none 0 0] 30)) := by go_grown
  generalize (w3.alloc (.cells #[.int .i64 0, .int .i64 0, .int .i64 0, .bool false, .bool false, .bool false, .bool false, .int .i64 0, .int .i64 0, .int .i64 0, .int .i64 0, .int .i64 0, .slice none 0 0, .slice none 0 0] 30)) = w4 at b0_4 b1_4 b2_4 b3_4 b4_4 b5_4 b6_4 b7_4 b8_4 b9_4 b10_4 b11_4 b12_4 b13_4 bl_4 d4 ⊢
  have c4 : Below w.heap.size w w4 := c3.trans (d4.mono c3.size)
  have a0_4 : w4.cell? ⟨w1.heap.size, 0, none⟩ = some (.int .i64 0) := (by rw [d4.cell (by first | omega | (simp; done) | (simp; omega))]; go_cell)
  have a1_4 : w4.cell? ⟨w1.heap.size, 1, none⟩ = some (.int .i64 0) := (by rw [d4.cell (by first | omega | (simp; done) | (simp; omega))]; go_cell)
  have a2_4 : w4.cell? ⟨w1.heap.size, 2, none⟩ = some (.int .i64 0) := (by rw [d4.cell (by first | omega | (simp; done) | (simp; omega))]; go_cell)
  have a3_4 : w4.cell? ⟨w1.heap.size, 3, none⟩ = some (.bool false) := (by rw [d4.cell (by first | omega | (simp; done) | (simp; omega))]; go_cell)
  have a4_4 : w4.cell? ⟨w1.heap.size, 4, none⟩ = some (.bool false) := (by rw [d4.cell (by first | omega | (simp; done) | (simp; omega))]; go_cell)
  have a5_4 : w4.cell? ⟨w1.heap.size, 5, none⟩ = some (.bool false) := (by rw [d4.cell (by first | omega | (simp; done) | (simp; omega))]; go_cell)
  have a6_4 : w4.cell? ⟨w1.heap.size, 6, none⟩ = some (.bool false) := (by rw [d4.cell (by first | omega | (simp; done) | (simp; omega))]; go_cell)
  have a7_4 : w4.cell? ⟨w1.heap.size, 7, none⟩ = some (.int .i64 0) := (by rw [d4.cell (by first | omega | (simp; done) | (simp; omega))]; go_cell)
  have a8_4 : w4.cell? ⟨w1.heap.size, 8, none⟩ = some (.int .i64 0) := (by rw [d4.cell (by first | omega | (simp; done) | (simp; omega))]; go_cell)
  have a9_4 : w4.cell? ⟨w1.heap.size, 9, none⟩ = some (.int .i64 0) := (by rw [d4.cell (by first | omega | (simp; done) | (simp; omega))]; go_cell)
  have a10_4 : w4.cell? ⟨w1.heap.size, 10, none⟩ = some (.int .i64 0) := (by rw [d4.cell (by first | omega | (simp; done) | (simp; omega))]; go_cell)
  have a11_4 : w4.cell? ⟨w1.heap.size, 11, none⟩ = some (.int .i64 0) := (by rw [d4.cell (by first | omega | (simp; done) | (simp; omega))]; go_cell)
  have a12_4 : w4.cell? ⟨w1.heap.size, 12, none⟩ = some (.slice none 0 0) := (by rw [d4.cell (by first | omega | (simp; done) | (simp; omega))]; go_cell)
  have a13_4 : w4.cell? ⟨w1.heap.size, 13, none⟩ = some (.slice none 0 0) := (by rw [d4.cell (by first | omega | (simp; done) | (simp; omega))]; go_cell)
  have al_4 : w1.heap.size < w4.heap.size := (by have := d4.size; omega)
  clear a0_3 a1_3 a2_3 a3_3 a4_3 a5_3 a6_3 a7_3 a8_3 a9_3 a10_3 a11_3 a12_3 a13_3 al_3
  clear d4
  refine (eqTier_rd 0 0 0 false false false false 0 0 0 0 0 _ _ _ _ _ _ _ (nilRS _) (nilRS _)).mono ?_
  rintro e w5 ⟨rfl, b5⟩
  have d5 : Below w4.heap.size w4 w5 := (Below.trans (by go_grown) (b5.mono (by first | omega | (simp; done) | (simp; omega))))
  have c5 : Below w.heap.size w w5 := c4.trans (d5.mono c4.size)
  have a0_5 : w5.cell? ⟨w1.heap.size, 0, none⟩ = some (.int .i64 0) := (by rw [b5.cell (by first | omega | (simp; done) | (simp; omega))]; go_cell)
  have a1_5 : w5.cell? ⟨w1.heap.size, 1, none⟩ = some (.int .i64 0) := (by rw [b5.cell (by first | omega | (simp; done) | (simp; omega))]; go_cell)
  have a2_5 : w5.cell? ⟨w1.heap.size, 2, none⟩ = some (.int .i64 0) := (by rw [b5.cell (by first | omega | (simp; done) | (simp; omega))]; go_cell)
  have a3_5 : w5.cell? ⟨w1.heap.size, 3, none⟩ = some (.bool false) := (by rw [b5.cell (by first | omega | (simp; done) | (simp; omega))]; go_cell)
  have a4_5 : w5.cell? ⟨w1.heap.size, 4, none⟩ = some (.bool false) := (by rw [b5.cell (by first | omega | (simp; done) | (simp; omega))]; go_cell)
  have a5_5 : w5.cell? ⟨w1.heap.size, 5, none⟩ = some (.bool false) := (by rw [b5.cell (by first | omega | (simp; done) | (simp; omega))]; go_cell)
  have a6_5 : w5.cell? ⟨w1.heap.size, 6, none⟩ = some (.bool false) := (by rw [b5.cell (by first | omega | (simp; done) | (simp; omega))]; go_cell)
  have a7_5 : w5.cell? ⟨w1.heap.size, 7, none⟩ = some (.int .i64 0) := (by rw [b5.cell (by first | omega | (simp; done) | (simp; omega))]; go_cell)
  have a8_5 : w5.cell? ⟨w1.heap.size, 8, none⟩ = some (.int .i64 0) := (by rw [b5.cell (by first | omega | (simp; done) | (simp; omega))]; go_cell)
  have a9_5 : w5.cell? ⟨w1.heap.size, 9, none⟩ = some (.int .i64 0) := (by rw [b5.cell (by first | omega | (simp; done) | (simp; omega))]; go_cell)
  have a10_5 : w5.cell? ⟨w1.heap.size, 10, none⟩ = some (.int .i64 0) := (by rw [b5.cell (by first | omega | (simp; done) | (simp; omega))]; go_cell)
  have a11_5 : w5.cell? ⟨w1.heap.size, 11, none⟩ = some (.int .i64 0) := (by rw [b5.cell (by first | omega | (simp; done) | (simp; omega))]; go_cell)
  have a12_5 : w5.cell? ⟨w1.heap.size, 12, none⟩ = some (.slice none 0 0) := (by rw [b5.cell (by first | omega | (simp; done) | (simp; omega))]; go_cell)
  have a13_5 : w5.cell? ⟨w1.heap.size, 13, none⟩ = some (.slice none 0 0) := (by rw [b5.cell (by first | omega | (simp; done) | (simp; omega))]; go_cell)
  have al_5 : w1.heap.size < w5.heap.size := (by have := b5.size; first | omega | (revert this; simp; done) | (revert this; simp; omega))
  have b0_5 : w5.cell? ⟨w3.heap.size, 0, none⟩ = some (.int .i64 0) := (by rw [b5.cell (by first | omega | (simp; done) | (simp; omega))]; go_cell)
  have b1_5 : w5.cell? ⟨w3.heap.size, 1, none⟩ = some (.int .i64 0) := (by rw [b5.cell (by first | omega | (simp; done) | (simp; omega))]; go_cell)
  have b2_5 : w5.cell? ⟨w3.heap.size, 2, none⟩ = some (.int .i64 0) := (by rw [b5.cell (by first | omega | (simp; done) | (simp; omega))]; go_cell)
  have b3_5 : w5.cell? ⟨w3.heap.size, 3, none⟩ = some (.bool false) := (by rw [b5.cell (by first | omega | (simp; done) | (simp; omega))]; go_cell)
  have b4_5 : w5.cell? ⟨w3.heap.size, 4, none⟩ = some (.bool false) := (by rw [b5.cell (by first | omega | (simp; done) | (simp; omega))]; go_cell)
  have b5_5 : w5.cell? ⟨w3.heap.size, 5, none⟩ = some (.bool false) := (by rw [b5.cell (by first | omega | (simp; done) | (simp; omega))]; go_cell)
  have b6_5 : w5.cell? ⟨w3.heap.size, 6, none⟩ = some (.bool false) := (by rw [b5.cell (by first | omega | (simp; done) | (simp; omega))]; go_cell)
  have b7_5 : w5.cell? ⟨w3.heap.size, 7, none⟩ = some (.int .i64 0) := (by rw [b5.cell (by first | omega | (simp; done) | (simp; omega))]; go_cell)
  have b8_5 : w5.cell? ⟨w3.heap.size, 8, none⟩ = some (.int .i64 0) := (by rw [b5.cell (by first | omega | (simp; done) | (simp; omega))]; go_cell)
  have b9_5 : w5.cell? ⟨w3.heap.size, 9, none⟩ = some (.int .i64 0) := (by rw [b5.cell (by first | omega | (simp; done) | (simp; omega))]; go_cell)
  have b10_5 : w5.cell? ⟨w3.heap.size, 10, none⟩ = some (.int .i64 0) := (by rw [b5.cell (by first | omega | (simp; done) | (simp; omega))]; go_cell)
  have b11_5 : w5.cell? ⟨w3.heap.size, 11, none⟩ = some (.int .i64 0) := (by rw [b5.cell (by first | omega | (simp; done) | (simp; omega))]; go_cell)
  have b12_5 : w5.cell? ⟨w3.heap.size, 12, none⟩ = some (.slice none 0 0) := (by rw [b5.cell (by first | omega | (simp; done) | (simp; omega))]; go_cell)
  have b13_5 : w5.cell? ⟨w3.heap.size, 13, none⟩ = some (.slice none 0 0) := (by rw [b5.cell (by first | omega | (simp; done) | (simp; omega))]; go_cell)
  have bl_5 : w3.heap.size < w5.heap.size := (by have := b5.size; first | omega | (revert this; simp; done) | (revert this; simp; omega))
  clear a0_4 a1_4 a2_4 a3_4 a4_4 a5_4 a6_4 a7_4 a8_4 a9_4 a10_4 a11_4 a12_4 a13_4 al_4 b0_4 b1_4 b2_4 b3_4 b4_4 b5_4 b6_4 b7_4 b8_4 b9_4 b10_4 b11_4 b12_4 b13_4 bl_4
  clear b5 d5
  go_wp2_with fail
  refine (markTier_n _).mono ?_
  rintro e w6 ⟨rfl, b6⟩
  have d6 : Below w5.heap.size w5 w6 := (Below.trans (by go_grown) (b6.mono (by first | omega | (simp; done) | (simp; omega))))
  have c6 : Below w.heap.size w w6 := c5.trans (d6.mono c5.size)
  have a0_6 : w6.cell? ⟨w1.heap.size, 0, none⟩ = some (.int .i64 0) := (by rw [b6.cell (by first | omega | (simp; done) | (simp; omega))]; go_cell)
  have a1_6 : w6.cell? ⟨w1.heap.size, 1, none⟩ = some (.int .i64 0) := (by rw [b6.cell (by first | omega | (simp; done) | (simp; omega))]; go_cell)
  have a2_6 : w6.cell? ⟨w1.heap.size, 2, none⟩ = some (.int .i64 0) := (by rw [b6.cell (by first | omega | (simp; done) | (simp; omega))]; go_cell)
  have a3_6 : w6.cell? ⟨w1.heap.size, 3, none⟩ = some (.bool false) := (by rw [b6.cell (by first | omega | (simp; done) | (simp; omega))]; go_cell)
  have a4_6 : w6.cell? ⟨w1.heap.size, 4, none⟩ = some (.bool false) := (by rw [b6.cell (by first | omega | (simp; done) | (simp; omega))]; go_cell)
  have a5_6 : w6.cell? ⟨w1.heap.size, 5, none⟩ = some (.bool false) := (by rw [b6.cell (by first | omega | (simp; done) | (simp; omega))]; go_cell)
  have a6_6 : w6.cell? ⟨w1.heap.size, 6, none⟩ = some (.bool false) := (by rw [b6.cell (by first | omega | (simp; done) | (simp; omega))]; go_cell)
  have a7_6 : w6.cell? ⟨w1.heap.size, 7, none⟩ = some (.int .i64 0) := (by rw [b6.cell (by first | omega | (simp; done) | (simp; omega))]; go_cell)
  have a8_6 : w6.cell? ⟨w1.heap.size, 8, none⟩ = some (.int .i64 0) := (by rw [b6.cell (by first | omega | (simp; done) | (simp; omega))]; go_cell)
  have a9_6 : w6.cell? ⟨w1.heap.size, 9, none⟩ = some (.int .i64 0) := (by rw [b6.cell (by first | omega | (simp; done) | (simp; omega))]; go_cell)
  have a10_6 : w6.cell? ⟨w1.heap.size, 10, none⟩ = some (.int .i64 0) := (by rw [b6.cell (by first | omega | (simp; done) | (simp; omega))]; go_cell)
  have a11_6 : w6.cell? ⟨w1.heap.size, 11, none⟩ = some (.int .i64 0) := (by rw [b6.cell (by first | omega | (simp; done) | (simp; omega))]; go_cell)
  have a12_6 : w6.cell? ⟨w1.heap.size, 12, none⟩ = some (.slice none 0 0) := (by rw [b6.cell (by first | omega | (simp; done) | (simp; omega))]; go_cell)
  have a13_6 : w6.cell? ⟨w1.heap.size, 13, none⟩ = some (.slice none 0 0) := (by rw [b6.cell (by first | omega | (simp; done) | (simp; omega))]; go_cell)
  have al_6 : w1.heap.size < w6.heap.size := (by have := b6.size; first | omega | (revert this; simp; done) | (revert this; simp; omega))
  have b0_6 : w6.cell? ⟨w3.heap.size, 0, none⟩ = some (.int .i64 0) := (by rw [b6.cell (by first | omega | (simp; done) | (simp; omega))]; go_cell)
  have b1_6 : w6.cell? ⟨w3.heap.size, 1, none⟩ = some (.int .i64 0) := (by rw [b6.cell (by first | omega | (simp; done) | (simp; omega))]; go_cell)
  have b2_6 : w6.cell? ⟨w3.heap.size, 2, none⟩ = some (.int .i64 0) := (by rw [b6.cell (by first | omega | (simp; done) | (simp; omega))]; go_cell)
  have b3_6 : w6.cell? ⟨w3.heap.size, 3, none⟩ = some (.bool false) := (by rw [b6.cell (by first | omega | (simp; done) | (simp; omega))]; go_cell)
  have b4_6 : w6.cell? ⟨w3.heap.size, 4, none⟩ = some (.bool false) := (by rw [b6.cell (by first | omega | (simp; done) | (simp; omega))]; go_cell)
  have b5_6 : w6.cell? ⟨w3.heap.size, 5, none⟩ = some (.bool false) := (by rw [b6.cell (by first | omega | (simp; done) | (simp; omega))]; go_cell)
  have b6_6 : w6.cell? ⟨w3.heap.size, 6, none⟩ = some (.bool false) := (by rw [b6.cell (by first | omega | (simp; done) | (simp; omega))]; go_cell)
  have b7_6 : w6.cell? ⟨w3.heap.size, 7, none⟩ = some (.int .i64 0) := (by rw [b6.cell (by first | omega | (simp; done) | (simp; omega))]; go_cell)
  have b8_6 : w6.cell? ⟨w3.heap.size, 8, none⟩ = some (.int .i64 0) := (by rw [b6.cell (by first | omega | (simp; done) | (simp; omega))]; go_cell)
  have b9_6 : w6.cell? ⟨w3.heap.size, 9, none⟩ = some (.int .i64 0) := (by rw [b6.cell (by first | omega | (simp; done) | (simp; omega))]; go_cell)
  have b10_6 : w6.cell? ⟨w3.heap.size, 10, none⟩ = some (.int .i64 0) := (by rw [b6.cell (by first | omega | (simp; done) | (simp; omega))]; go_cell)
  have b11_6 : w6.cell? ⟨w3.heap.size, 11, none⟩ = some (.int .i64 0) := (by rw [b6.cell (by first | omega | (simp; done) | (simp; omega))]; go_cell)
  have b12_6 : w6.cell? ⟨w3.heap.size, 12, none⟩ = some (.slice none 0 0) := (by rw [b6.cell (by first | omega | (simp; done) | (simp; omega))]; go_cell)
  have b13_6 : w6.cell? ⟨w3.heap.size, 13, none⟩ = some (.slice none 0 0) := (by rw [b6.cell (by first | omega | (simp; done) | (simp; omega))]; go_cell)
  have bl_6 : w3.heap.size < w6.heap.size := (by have := b6.size; first | omega | (revert this; simp; done) | (revert this; simp; omega))
  clear a0_5 a1_5 a2_5 a3_5 a4_5 a5_5 a6_5 a7_5 a8_5 a9_5 a10_5 a11_5 a12_5 a13_5 al_5 b0_5 b1_5 b2_5 b3_5 b4_5 b5_5 b6_5 b7_5 b8_5 b9_5 b10_5 b11_5 b12_5 b13_5 bl_5
  clear b6 d6
  go_wp2_with fail
  refine (heldTier_n _).mono ?_
  rintro e w7 ⟨rfl, b7⟩
  have d7 : Below w6.heap.size w6 w7 := (Below.trans (by go_grown) (b7.mono (by first | omega | (simp; done) | (simp; omega))))
  have c7 : Below w.heap.size w w7 := c6.trans (d7.mono c6.size)
  have a0_7 : w7.cell? ⟨w1.heap.size, 0, none⟩ = some (.int .i64 0) := (by rw [b7.cell (by first | omega | (simp; done) | (simp; omega))]; go_cell)
  have a1_7 : w7.cell? ⟨w1.heap.size, 1, none⟩ = some (.int .i64 0) := (by rw [b7.cell (by first | omega | (simp; done) | (simp; omega))]; go_cell)
  have a2_7 : w7.cell? ⟨w1.heap.size, 2, none⟩ = some (.int .i64 0) := (by rw [b7.cell (by first | omega | (simp; done) | (simp; omega))]; go_cell)
  have a3_7 : w7.cell? ⟨w1.heap.size, 3, none⟩ = some (.bool false) := (by rw [b7.cell (by first | omega | (simp; done) | (simp; omega))]; go_cell)
  have a4_7 : w7.cell? ⟨w1.heap.size, 4, none⟩ = some (.bool false) := (by rw [b7.cell (by first | omega | (simp; done) | (simp; omega))]; go_cell)
  have a5_7 : w7.cell? ⟨w1.heap.size, 5, none⟩ = some (.bool false) := (by rw [b7.cell (by first | omega | (simp; done) | (simp; omega))]; go_cell)
  have a6_7 : w7.cell? ⟨w1.heap.size, 6, none⟩ = some (.bool false) := (by rw [b7.cell (by first | omega | (simp; done) | (simp; omega))]; go_cell)
  have a7_7 : w7.cell? ⟨w1.heap.size, 7, none⟩ = some (.int .i64 0) := (by rw [b7.cell (by first | omega | (simp; done) | (simp; omega))]; go_cell)
  have a8_7 : w7.cell? ⟨w1.heap.size, 8, none⟩ = some (.int .i64 0) := (by rw [b7.cell (by first | omega | (simp; done) | (simp; omega))]; go_cell)
  have a9_7 : w7.cell? ⟨w1.heap.size, 9, none⟩ = some (.int .i64 0) := (by rw [b7.cell (by first | omega | (simp; done) | (simp; omega))]; go_cell)
  have a10_7 : w7.cell? ⟨w1.heap.size, 10, none⟩ = some (.int .i64 0) := (by rw [b7.cell (by first | omega | (simp; done) | (simp; omega))]; go_cell)
  have a11_7 : w7.cell? ⟨w1.heap.size, 11, none⟩ = some (.int .i64 0) := (by rw [b7.cell (by first | omega | (simp; done) | (simp; omega))]; go_cell)
  have a12_7 : w7.cell? ⟨w1.heap.size, 12, none⟩ = some (.slice none 0 0) := (by rw [b7.cell (by first | omega | (simp; done) | (simp; omega))]; go_cell)
  have a13_7 : w7.cell? ⟨w1.heap.size, 13, none⟩ = some (.slice none 0 0) := (by rw [b7.cell (by first | omega | (simp; done) | (simp; omega))]; go_cell)
  have al_7 : w1.heap.size < w7.heap.size := (by have := b7.size; first | omega | (revert this; simp; done) | (revert this; simp; omega))
  have b0_7 : w7.cell? ⟨w3.heap.size, 0, none⟩ = some (.int .i64 0) := (by rw [b7.cell (by first | omega | (simp; done) | (simp; omega))]; go_cell)
  have b1_7 : w7.cell? ⟨w3.heap.size, 1, none⟩ = some (.int .i64 0) := (by rw [b7.cell (by first | omega | (simp; done) | (simp; omega))]; go_cell)
  have b2_7 : w7.cell? ⟨w3.heap.size, 2, none⟩ = some (.int .i64 0) := (by rw [b7.cell (by first | omega | (simp; done) | (simp; omega))]; go_cell)
  have b3_7 : w7.cell? ⟨w3.heap.size, 3, none⟩ = some (.bool false) := (by rw [b7.cell (by first | omega | (simp; done) | (simp; omega))]; go_cell)
  have b4_7 : w7.cell? ⟨w3.heap.size, 4, none⟩ = some (.bool false) := (by rw [b7.cell (by first | omega | (simp; done) | (simp; omega))]; go_cell)
  have b5_7 : w7.cell? ⟨w3.heap.size, 5, none⟩ = some (.bool false) := (by rw [b7.cell (by first | omega | (simp; done) | (simp; omega))]; go_cell)
  have b6_7 : w7.cell? ⟨w3.heap.size, 6, none⟩ = some (.bool false) := (by rw [b7.cell (by first | omega | (simp; done) | (simp; omega))]; go_cell)
  have b7_7 : w7.cell? ⟨w3.heap.size, 7, none⟩ = some (.int .i64 0) := (by rw [b7.cell (by first | omega | (simp; done) | (simp; omega))]; go_cell)
  have b8_7 : w7.cell? ⟨w3.heap.size, 8, none⟩ = some (.int .i64 0) := (by rw [b7.cell (by first | omega | (simp; done) | (simp; omega))]; go_cell)
  have b9_7 : w7.cell? ⟨w3.heap.size, 9, none⟩ = some (.int .i64 0) := (by rw [b7.cell (by first | omega | (simp; done) | (simp; omega))]; go_cell)
  have b10_7 : w7.cell? ⟨w3.heap.size, 10, none⟩ = some (.int .i64 0) := (by rw [b7.cell (by first | omega | (simp; done) | (simp; omega))]; go_cell)
  have b11_7 : w7.cell? ⟨w3.heap.size, 11, none⟩ = some (.int .i64 0) := (by rw [b7.cell (by first | omega | (simp; done) | (simp; omega))]; go_cell)
  have b12_7 : w7.cell? ⟨w3.heap.size, 12, none⟩ = some (.slice none 0 0) := (by rw [b7.cell (by first | omega | (simp; done) | (simp; omega))]; go_cell)
  have b13_7 : w7.cell? ⟨w3.heap.size, 13, none⟩ = some (.slice none 0 0) := (by rw [b7.cell (by first | omega | (simp; done) | (simp; omega))]; go_cell)
  have bl_7 : w3.heap.size < w7.heap.size := (by have := b7.size; first | omega | (revert this; simp; done) | (revert this; simp; omega))
  clear a0_6 a1_6 a2_6 a3_6 a4_6 a5_6 a6_6 a7_6 a8_6 a9_6 a10_6 a11_6 a12_6 a13_6 al_6 b0_6 b1_6 b2_6 b3_6 b4_6 b5_6 b6_6 b7_6 b8_6 b9_6 b10_6 b11_6 b12_6 b13_6 bl_6
  clear b7 d7
  go_wp2_with fail
  refine (implTOpen_out n0 HH.out _).mono ?_
  rintro e w8 ⟨rfl, b8⟩
  have d8 : Below w7.heap.size w7 w8 := (Below.trans (by go_grown) (b8.mono (by first | omega | (simp; done) | (simp; omega))))
  have c8 : Below w.heap.size w w8 := c7.trans (d8.mono c7.size)
  have a0_8 : w8.cell? ⟨w1.heap.size, 0, none⟩ = some (.int .i64 0) := (by rw [b8.cell (by first | omega | (simp; done) | (simp; omega))]; go_cell)
  have a1_8 : w8.cell? ⟨w1.heap.size, 1, none⟩ = some (.int .i64 0) := (by rw [b8.cell (by first | omega | (simp; done) | (simp; omega))]; go_cell)
  have a2_8 : w8.cell? ⟨w1.heap.size, 2, none⟩ = some (.int .i64 0) := (by rw [b8.cell (by first | omega | (simp; done) | (simp; omega))]; go_cell)
  have a3_8 : w8.cell? ⟨w1.heap.size, 3, none⟩ = some (.bool false) := (by rw [b8.cell (by first | omega | (simp; done) | (simp; omega))]; go_cell)
  have a4_8 : w8.cell? ⟨w1.heap.size, 4, none⟩ = some (.bool false) := (by rw [b8.cell (by first | omega | (simp; done) | (simp; omega))]; go_cell)
  have a5_8 : w8.cell? ⟨w1.heap.size, 5, none⟩ = some (.bool false) := (by rw [b8.cell (by first | omega | (simp; done) | (simp; omega))]; go_cell)
  have a6_8 : w8.cell? ⟨w1.heap.size, 6, none⟩ = some (.bool false) := (by rw [b8.cell (by first | omega | (simp; done) | (simp; omega))]; go_cell)
  have a7_8 : w8.cell? ⟨w1.heap.size, 7, none⟩ = some (.int .i64 0) := (by rw [b8.cell (by first | omega | (simp; done) | (simp; omega))]; go_cell)
  have a8_8 : w8.cell? ⟨w1.heap.size, 8, none⟩ = some (.int .i64 0) := (by rw [b8.cell (by first | omega | (simp; done) | (simp; omega))]; go_cell)
  have a9_8 : w8.cell? ⟨w1.heap.size, 9, none⟩ = some (.int .i64 0) := (by rw [b8.cell (by first | omega | (simp; done) | (simp; omega))]; go_cell)
  have a10_8 : w8.cell? ⟨w1.heap.size, 10, none⟩ = some (.int .i64 0) := (by rw [b8.cell (by first | omega | (simp; done) | (simp; omega))]; go_cell)
  have a11_8 : w8.cell? ⟨w1.heap.size, 11, none⟩ = some (.int .i64 0) := (by rw [b8.cell (by first | omega | (simp; done) | (simp; omega))]; go_cell)
  have a12_8 : w8.cell? ⟨w1.heap.size, 12, none⟩ = some (.slice none 0 0) := (by rw [b8.cell (by first | omega | (simp; done) | (simp; omega))]; go_cell)
  have a13_8 : w8.cell? ⟨w1.heap.size, 13, none⟩ = some (.slice none 0 0) := (by rw [b8.cell (by first | omega | (simp; done) | (simp; omega))]; go_cell)
  have al_8 : w1.heap.size < w8.heap.size := (by have := b8.size; first | omega | (revert this; simp; done) | (revert this; simp; omega))
  have b0_8 : w8.cell? ⟨w3.heap.size, 0, none⟩ = some (.int .i64 0) := (by rw [b8.cell (by first | omega | (simp; done) | (simp; omega))]; go_cell)
  have b1_8 : w8.cell? ⟨w3.heap.size, 1, none⟩ = some (.int .i64 0) := (by rw [b8.cell (by first | omega | (simp; done) | (simp; omega))]; go_cell)
  have b2_8 : w8.cell? ⟨w3.heap.size, 2, none⟩ = some (.int .i64 0) := (by rw [b8.cell (by first | omega | (simp; done) | (simp; omega))]; go_cell)
  have b3_8 : w8.cell? ⟨w3.heap.size, 3, none⟩ = some (.bool false) := (by rw [b8.cell (by first | omega | (simp; done) | (simp; omega))]; go_cell)
  have b4_8 : w8.cell? ⟨w3.heap.size, 4, none⟩ = some (.bool false) := (by rw [b8.cell (by first | omega | (simp; done) | (simp; omega))]; go_cell)
  have b5_8 : w8.cell? ⟨w3.heap.size, 5, none⟩ = some (.bool false) := (by rw [b8.cell (by first | omega | (simp; done) | (simp; omega))]; go_cell)
  have b6_8 : w8.cell? ⟨w3.heap.size, 6, none⟩ = some (.bool false) := (by rw [b8.cell (by first | omega | (simp; done) | (simp; omega))]; go_cell)
  have b7_8 : w8.cell? ⟨w3.heap.size, 7, none⟩ = some (.int .i64 0) := (by rw [b8.cell (by first | omega | (simp; done) | (simp; omega))]; go_cell)
  have b8_8 : w8.cell? ⟨w3.heap.size, 8, none⟩ = some (.int .i64 0) := (by rw [b8.cell (by first | omega | (simp; done) | (simp; omega))]; go_cell)
  have b9_8 : w8.cell? ⟨w3.heap.size, 9, none⟩ = some (.int .i64 0) := (by rw [b8.cell (by first | omega | (simp; done) | (simp; omega))]; go_cell)
  have b10_8 : w8.cell? ⟨w3.heap.size, 10, none⟩ = some (.int .i64 0) := (by rw [b8.cell (by first | omega | (simp; done) | (simp; omega))]; go_cell)
  have b11_8 : w8.cell? ⟨w3.heap.size, 11, none⟩ = some (.int .i64 0) := (by rw [b8.cell (by first | omega | (simp; done) | (simp; omega))]; go_cell)
  have b12_8 : w8.cell? ⟨w3.heap.size, 12, none⟩ = some (.slice none 0 0) := (by rw [b8.cell (by first | omega | (simp; done) | (simp; omega))]; go_cell)
  have b13_8 : w8.cell? ⟨w3.heap.size, 13, none⟩ = some (.slice none 0 0) := (by rw [b8.cell (by first | omega | (simp; done) | (simp; omega))]; go_cell)
  have bl_8 : w3.heap.size < w8.heap.size := (by have := b8.size; first | omega | (revert this; simp; done) | (revert this; simp; omega))
  clear a0_7 a1_7 a2_7 a3_7 a4_7 a5_7 a6_7 a7_7 a8_7 a9_7 a10_7 a11_7 a12_7 a13_7 al_7 b0_7 b1_7 b2_7 b3_7 b4_7 b5_7 b6_7 b7_7 b8_7 b9_7 b10_7 b11_7 b12_7 b13_7 bl_7
  clear b8 d8
  go_wp2_with fail
  have h0_9 : (w8.alloc (.cells #[.int .i64 0, .int .i64 0, .int .i64 0, .bool false, .bool false, .bool false, .bool false, .int .i64 0, .int .i64 0, .int .i64 0, .int .i64 0, .int .i64 0, .slice none 0 0, .slice none 0 0] 30)).cell? ⟨w8.heap.size, 0, none⟩ = some (.int .i64 0) := by go_cell
  have h1_9 : (w8.alloc (.cells #[.int .i64 0, .int .i64 0, .int .i64 0, .bool false, .bool false, .bool false, .bool false, .int .i64 0, .int .i64 0, .int .i64 0, .int .i64 0, .int .i64 0, .slice none 0 0, .slice none 0 0] 30)).cell? ⟨w8.heap.size, 1, none⟩ = some (.int .i64 0) := by go_cell
  have h2_9 : (w8.alloc (.cells #[.int .i64 0, .int .i64 0, .int .i64 0, .bool false, .bool false, .bool false, .bool false, .int .i64 0, .int .i64 0, .int .i64 0, .int .i64 0, .int .i64 0, .slice none 0 0, .slice none 0 0] 30)).cell? ⟨w8.heap.size, 2, none⟩ = some (.int .i64 0) := by go_cell
  have h3_9 : (w8.alloc (.cells #[.int .i64 0, .int .i64 0, .int .i64 0, .bool false, .bool false, .bool false, .bool false, .int .i64 0, .int .i64 0, .int .i64 0, .int .i64 0, .int .i64 0, .slice none 0 0, .slice none 0 0] 30)).cell? ⟨w8.heap.size, 3, none⟩ = some (.bool false) := by go_cell
  have h4_9 : (w8.alloc (.cells #[.int .i64 0, .int .i64 0, .int .i64 0, .bool false, .bool false, .bool false, .bool false, .int .i64 0, .int .i64 0, .int .i64 0, .int .i64 0, .int .i64 0, .slice none 0 0, .slice none 0 0] 30)).cell? ⟨w8.heap.size, 4, none⟩ = some (.bool false) := by go_cell
  have h5_9 : (w8.alloc (.cells #[.int .i64 0, .int .i64 0, .int .i64 0, .bool false, .bool false, .bool false, .bool false, .int .i64 0, .int .i64 0, .int .i64 0, .int .i64 0, .int .i64 0, .slice none 0 0, .slice none 0 0] 30)).cell? ⟨w8.heap.size, 5, none⟩ = some (.bool false) := by go_cell
  have h6_9 : (w8.alloc (.cells #[.int .i64 0, .int .i64 0, .int .i64 0, .bool false, .bool false, .bool false, .bool false, .int .i64 0, .int .i64 0, .int .i64 0, .int .i64 0, .int .i64 0, .slice none 0 0, .slice none 0 0] 30)).cell? ⟨w8.heap.size, 6, none⟩ = some (.bool false) := by go_cell
  have h7_9 : (w8.alloc (.cells #[.int .i64 0, .int .i64 0, .int .i64 0, .bool false, .bool false, .bool false, .bool false, .int .i64 0, .int .i64 0, .int .i64 0, .int .i64 0, .int .i64 0, .slice none 0 0, .slice none 0 0] 30)).cell? ⟨w8.heap.size, 7, none⟩ = some (.int .i64 0) := by go_cell
  have h8_9 : (w8.alloc (.cells #[.int .i64 0, .int .i64 0, .int .i64 0, .bool false, .bool false, .bool false, .bool false, .int .i64 0, .int .i64 0, .int .i64 0, .int .i64 0, .int .i64 0, .slice none 0 0, .slice none 0 0] 30)).cell? ⟨w8.heap.size, 8, none⟩ = some (.int .i64 0) := by go_cell
  have h9_9 : (w8.alloc (.cells #[.int .i64 0, .int .i64 0, .int .i64 0, .bool false, .bool false, .bool false, .bool false, .int .i64 0, .int .i64 0, .int .i64 0, .int .i64 0, .int .i64 0, .slice none 0 0, .slice none 0 0] 30)).cell? ⟨w8.heap.size, 9, none⟩ = some (.int .i64 0) := by go_cell
  have h10_9 : (w8.alloc (.cells #[.int .i64 0, .int .i64 0, .int .i64 0, .bool false, .bool false, .bool false, .bool false, .int .i64 0, .int .i64 0, .int .i64 0, .int .i64 0, .int .i64 0, .slice none 0 0, .slice none 0 0] 30)).cell? ⟨w8.heap.size, 10, none⟩ = some (.int .i64 0) := by go_cell
  have h11_9 : (w8.alloc (.cells #[.int .i64 0, .int .i64 0, .int .i64 0, .bool false, .bool false, .bool false, .bool false, .int .i64 0, .int .i64 0, .int .i64 0, .int .i64 0, .int .i64 0, .slice none 0 0, .slice none 0 0] 30)).cell? ⟨w8.heap.size, 11, none⟩ = some (.int .i64 0) := by go_cell
  have h12_9 : (w8.alloc (.cells #[.int .i64 0, .int .i64 0, .int .i64 0, .bool false, .bool false, .bool false, .bool false, .int .i64 0, .int .i64 0, .int .i64 0, .int .i64 0, .int .i64 0, .slice none 0 0, .slice none 0 0] 30)).cell? ⟨w8.heap.size, 12, none⟩ = some (.slice none 0 0) := by go_cell
  have h13_9 : (w8.alloc (.cells #[.int .i64 0, .int .i64 0, .int .i64 0, .bool false, .bool false, .bool false, .bool false, .int .i64 0, .int .i64 0, .int .i64 0, .int .i64 0, .int .i64 0, .slice none 0 0, .slice none 0 0] 30)).cell? ⟨w8.heap.size, 13, none⟩ = some (.slice none 0 0) := by go_cell
  have hl_9 : w8.heap.size < (w8.alloc (.cells #[.int .i64 0, .int .i64 0, .int .i64 0, .bool false, .bool false, .bool false, .bool false, .int .i64 0, .int .i64 0, .int .i64 0, .int .i64 0, .int .i64 0, .slice none 0 0, .slice none 0 0] 30)).heap.size := by simp
  have d9 : Below w8.heap.size w8 (w8.alloc (.cells #[.int .i64 0, .int .i64 0, .int .i64 0, .bool false, .bool false, .bool false, .bool false, .int .i64 0, .int .i64 0, .int .i64 0, .int .i64 0, .int .i64 0, .slice none 0 0, .slice none 0 0] 30)) := by go_grown
  generalize (w8.alloc (.cells #[.int .i64 0, .int .i64 0, .int .i64 0, .bool false, .bool false, .bool false, .bool false, .int .i64 0, .int .i64 0, .int .i64 0, .int .i64 0, .int .i64 0, .slice none 0 0, .slice none 0 0] 30)) = w9 at h0_9 h1_9 h2_9 h3_9 h4_9 h5_9 h6_9 h7_9 h8_9 h9_9 h10_9 h11_9 h12_9 h13_9 hl_9 d9 ⊢
  have c9 : Below w.heap.size w w9 := c8.trans (d9.mono c8.size)
  have a0_9 : w9.cell? ⟨w1.heap.size, 0, none⟩ = some (.int .i64 0) := (by rw [d9.cell (by first | omega | (simp; done) | (simp; omega))]; go_cell)
  have a1_9 : w9.cell? ⟨w1.heap.size, 1, none⟩ = some (.int .i64 0) := (by rw [d9.cell (by first | omega | (simp; done) | (simp; omega))]; go_cell)
  have a2_9 : w9.cell? ⟨w1.heap.size, 2, none⟩ = some (.int .i64 0) := (by rw [d9.cell (by first | omega | (simp; done) | (simp; omega))]; go_cell)
  have a3_9 : w9.cell? ⟨w1.heap.size, 3, none⟩ = some (.bool false) := (by rw [d9.cell (by first | omega | (simp; done) | (simp; omega))]; go_cell)
  have a4_9 : w9.cell? ⟨w1.heap.size, 4, none⟩ = some (.bool false) := (by rw [d9.cell (by first | omega | (simp; done) | (simp; omega))]; go_cell)
  have a5_9 : w9.cell? ⟨w1.heap.size, 5, none⟩ = some (.bool false) := (by rw [d9.cell (by first | omega | (simp; done) | (simp; omega))]; go_cell)
  have a6_9 : w9.cell? ⟨w1.heap.size, 6, none⟩ = some (.bool false) := (by rw [d9.cell (by first | omega | (simp; done) | (simp; omega))]; go_cell)
  have a7_9 : w9.cell? ⟨w1.heap.size, 7, none⟩ = some (.int .i64 0) := (by rw [d9.cell (by first | omega | (simp; done) | (simp; omega))]; go_cell)
  have a8_9 : w9.cell? ⟨w1.heap.size, 8, none⟩ = some (.int .i64 0) := (by rw [d9.cell (by first | omega | (simp; done) | (simp; omega))]; go_cell)
  have a9_9 : w9.cell? ⟨w1.heap.size, 9, none⟩ = some (.int .i64 0) := (by rw [d9.cell (by first | omega | (simp; done) | (simp; omega))]; go_cell)
  have a10_9 : w9.cell? ⟨w1.heap.size, 10, none⟩ = some (.int .i64 0) := (by rw [d9.cell (by first | omega | (simp; done) | (simp; omega))]; go_cell)
  have a11_9 : w9.cell? ⟨w1.heap.size, 11, none⟩ = some (.int .i64 0) := (by rw [d9.cell (by first | omega | (simp; done) | (simp; omega))]; go_cell)
  have a12_9 : w9.cell? ⟨w1.heap.size, 12, none⟩ = some (.slice none 0 0) := (by rw [d9.cell (by first | omega | (simp; done) | (simp; omega))]; go_cell)
  have a13_9 : w9.cell? ⟨w1.heap.size, 13, none⟩ = some (.slice none 0 0) := (by rw [d9.cell (by first | omega | (simp; done) | (simp; omega))]; go_cell)
  have al_9 : w1.heap.size < w9.heap.size := (by have := d9.size; omega)
  have b0_9 : w9.cell? ⟨w3.heap.size, 0, none⟩ = some (.int .i64 0) := (by rw [d9.cell (by first | omega | (simp; done) | (simp; omega))]; go_cell)
  have b1_9 : w9.cell? ⟨w3.heap.size, 1, none⟩ = some (.int .i64 0) := (by rw [d9.cell (by first | omega | (simp; done) | (simp; omega))]; go_cell)
  have b2_9 : w9.cell? ⟨w3.heap.size, 2, none⟩ = some (.int .i64 0) := (by rw [d9.cell (by first | omega | (simp; done) | (simp; omega))]; go_cell)
  have b3_9 : w9.cell? ⟨w3.heap.size, 3, none⟩ = some (.bool false) := (by rw [d9.cell (by first | omega | (simp; done) | (simp; omega))]; go_cell)
  have b4_9 : w9.cell? ⟨w3.heap.size, 4, none⟩ = some (.bool false) := (by rw [d9.cell (by first | omega | (simp; done) | (simp; omega))]; go_cell)
  have b5_9 : w9.cell? ⟨w3.heap.size, 5, none⟩ = some (.bool false) := (by rw [d9.cell (by first | omega | (simp; done) | (simp; omega))]; go_cell)
  have b6_9 : w9.cell? ⟨w3.heap.size, 6, none⟩ = some (.bool false) := (by rw [d9.cell (by first | omega | (simp; done) | (simp; omega))]; go_cell)
  have b7_9 : w9.cell? ⟨w3.heap.size, 7, none⟩ = some (.int .i64 0) := (by rw [d9.cell (by first | omega | (simp; done) | (simp; omega))]; go_cell)
  have b8_9 : w9.cell? ⟨w3.heap.size, 8, none⟩ = some (.int .i64 0) := (by rw [d9.cell (by first | omega | (simp; done) | (simp; omega))]; go_cell)
  have b9_9 : w9.cell? ⟨w3.heap.size, 9, none⟩ = some (.int .i64 0) := (by rw [d9.cell (by first | omega | (simp; done) | (simp; omega))]; go_cell)
  have b10_9 : w9.cell? ⟨w3.heap.size, 10, none⟩ = some (.int .i64 0) := (by rw [d9.cell (by first | omega | (simp; done) | (simp; omega))]; go_cell)
  have b11_9 : w9.cell? ⟨w3.heap.size, 11, none⟩ = some (.int .i64 0) := (by rw [d9.cell (by first | omega | (simp; done) | (simp; omega))]; go_cell)
  have b12_9 : w9.cell? ⟨w3.heap.size, 12, none⟩ = some (.slice none 0 0) := (by rw [d9.cell (by first | omega | (simp; done) | (simp; omega))]; go_cell)
  have b13_9 : w9.cell? ⟨w3.heap.size, 13, none⟩ = some (.slice none 0 0) := (by rw [d9.cell (by first | omega | (simp; done) | (simp; omega))]; go_cell)
  have bl_9 : w3.heap.size < w9.heap.size := (by have := d9.size; omega)
  clear a0_8 a1_8 a2_8 a3_8 a4_8 a5_8 a6_8 a7_8 a8_8 a9_8 a10_8 a11_8 a12_8 a13_8 al_8 b0_8 b1_8 b2_8 b3_8 b4_8 b5_8 b6_8 b7_8 b8_8 b9_8 b10_8 b11_8 b12_8 b13_8 bl_8
  clear d9
  refine (eqTier_rd 0 0 0 false false false false 0 0 0 0 0 _ _ _ _ _ _ _ (nilRS _) (nilRS _)).mono ?_
  rintro e w10 ⟨rfl, b10⟩
  have d10 : Below w9.heap.size w9 w10 := (Below.trans (by go_grown) (b10.mono (by first | omega | (simp; done) | (simp; omega))))
  have c10 : Below w.heap.size w w10 := c9.trans (d10.mono c9.size)
  have b0_10 : w10.cell? ⟨w3.heap.size, 0, none⟩ = some (.int .i64 0) := (by rw [b10.cell (by first | omega | (simp; done) | (simp; omega))]; go_cell)
  have b1_10 : w10.cell? ⟨w3.heap.size, 1, none⟩ = some (.int .i64 0) := (by rw [b10.cell (by first | omega | (simp; done) | (simp; omega))]; go_cell)
  have b2_10 : w10.cell? ⟨w3.heap.size, 2, none⟩ = some (.int .i64 0) := (by rw [b10.cell (by first | omega | (simp; done) | (simp; omega))]; go_cell)
  have b3_10 : w10.cell? ⟨w3.heap.size, 3, none⟩ = some (.bool false) := (by rw [b10.cell (by first | omega | (simp; done) | (simp; omega))]; go_cell)
  have b4_10 : w10.cell? ⟨w3.heap.size, 4, none⟩ = some (.bool false) := (by rw [b10.cell (by first | omega | (simp; done) | (simp; omega))]; go_cell)
  have b5_10 : w10.cell? ⟨w3.heap.size, 5, none⟩ = some (.bool false) := (by rw [b10.cell (by first | omega | (simp; done) | (simp; omega))]; go_cell)
  have b6_10 : w10.cell? ⟨w3.heap.size, 6, none⟩ = some (.bool false) := (by rw [b10.cell (by first | omega | (simp; done) | (simp; omega))]; go_cell)
  have b7_10 : w10.cell? ⟨w3.heap.size, 7, none⟩ = some (.int .i64 0) := (by rw [b10.cell (by first | omega | (simp; done) | (simp; omega))]; go_cell)
  have b8_10 : w10.cell? ⟨w3.heap.size, 8, none⟩ = some (.int .i64 0) := (by rw [b10.cell (by first | omega | (simp; done) | (simp; omega))]; go_cell)
  have b9_10 : w10.cell? ⟨w3.heap.size, 9, none⟩ = some (.int .i64 0) := (by rw [b10.cell (by first | omega | (simp; done) | (simp; omega))]; go_cell)
  have b10_10 : w10.cell? ⟨w3.heap.size, 10, none⟩ = some (.int .i64 0) := (by rw [b10.cell (by first | omega | (simp; done) | (simp; omega))]; go_cell)
  have b11_10 : w10.cell? ⟨w3.heap.size, 11, none⟩ = some (.int .i64 0) := (by rw [b10.cell (by first | omega | (simp; done) | (simp; omega))]; go_cell)
  have b12_10 : w10.cell? ⟨w3.heap.size, 12, none⟩ = some (.slice none 0 0) := (by rw [b10.cell (by first | omega | (simp; done) | (simp; omega))]; go_cell)
  have b13_10 : w10.cell? ⟨w3.heap.size, 13, none⟩ = some (.slice none 0 0) := (by rw [b10.cell (by first | omega | (simp; done) | (simp; omega))]; go_cell)
  have bl_10 : w3.heap.size < w10.heap.size := (by have := b10.size; first | omega | (revert this; simp; done) | (revert this; simp; omega))
  clear b0_9 b1_9 b2_9 b3_9 b4_9 b5_9 b6_9 b7_9 b8_9 b9_9 b10_9 b11_9 b12_9 b13_9 bl_9
  clear b10 d10
  go_wp2_with fail
  refine (heldTier_n _).mono ?_
  rintro e w11 ⟨rfl, b11⟩
  have c11 := c10.trans (b11.mono c10.size)
  clear b11
  go_wp2
  go_ret
  exact ⟨by simp, c11⟩
theorem lawTOpen_any (n0 : Int) (w : World) : Calls Try.prog 3 #[.int .i64 n0] w fun e w' => e = .returned (.bool true) ∧ Below w.heap.size w w' := by
  by_cases h : 0 ≤ n0 ∧ n0 < 2
  · exact lawTOpen_in n0 h.1 h.2 w
  · exact lawTOpen_out n0 h w
end Go.Proofs.Ytddpoheoecafjaa
