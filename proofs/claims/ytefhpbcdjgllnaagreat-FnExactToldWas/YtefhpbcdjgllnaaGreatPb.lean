/- impl.OpKey: contracts. -/
import Derived.Test.YtefhpbcdjgllnaaGreatOy
namespace Go.Proofs.YtefhpbcdjgllnaaGreat
open Go.RowKit
attribute [local go_sem ↓] Go.wp_at_zero Go.wp_at_succ

theorem method_setKey (k a b n : Int) (w : World) : (method 301 175 (.agg #[.int .i64 k, .int .i64 a, .int .i64 b, .int .i64 n]) "loop.example/kith/impl.key").run Tryz.prog w = .ok (146, .agg #[.int .i64 k, .int .i64 a, .int .i64 b, .int .i64 n]) w := by kernel_rfl
theorem method_bindKey (k a b n : Int) (w : World) : (method 301 178 (.agg #[.int .i64 k, .int .i64 a, .int .i64 b, .int .i64 n]) "loop.example/kith/impl.key").run Tryz.prog w = .ok (150, .agg #[.int .i64 k, .int .i64 a, .int .i64 b, .int .i64 n]) w := by kernel_rfl
theorem method_partKey (k a b n : Int) (w : World) : (method 301 179 (.agg #[.int .i64 k, .int .i64 a, .int .i64 b, .int .i64 n]) "loop.example/kith/impl.key").run Tryz.prog w = .ok (150, .agg #[.int .i64 k, .int .i64 a, .int .i64 b, .int .i64 n]) w := by kernel_rfl
theorem method_noKey (w : World) : (method 301 169 (.agg #[]) "loop.example/kith/impl.key").run Tryz.prog w = .ok (141, .agg #[]) w := by kernel_rfl
theorem noKey_any (w : World) : Calls Tryz.prog 141 #[.agg #[]] w fun e w' => e = .returned (.int .i64 (-1)) ∧ Below w.heap.size w w' := by
  go_enter Tryz.func141, Tryz.ntmps141
  go_wp2
  go_ret
  exact ⟨by simp, by go_grown⟩
set_option maxHeartbeats 1000000 in
theorem implOpKey_any (k a b n : Int) (w : World) : Calls Tryz.prog 89 #[.agg #[.int .i64 k, .int .i64 a, .int .i64 b, .int .i64 n]] w fun e w' => e = .returned (.int .i64 (opKey k a b n)) ∧ Below w.heap.size w w' := by
  rcases op_ways k a b n with ⟨h, -, e, -⟩ | ⟨h, -, e, -⟩ | ⟨h, -, e, -⟩ | ⟨h1, h2, h3, -, e, -⟩
  · rw [e]; clear e
    have hk : keyOf 0 a = a := by rw [keyOf_in (by omega) (by omega) h.2.1.1 h.2.1.2]; omega
    have HW := fun w => writeOf_set h w
    clear h
    have hm := method_setKey k a b n
    go_enter Tryz.func89, Tryz.ntmps89
    go_wp2_with fail
    refine (HW _).mono ?_
    rintro e w1 ⟨rfl, b1⟩
    have c1 : Below w.heap.size w w1 := (Below.trans (by go_grown) (b1.mono (by first | omega | (simp; done) | (simp; omega))))
    clear b1 HW
    go_wp2_with fail
    refine (setKey_any k a b n _).mono ?_
    rintro e w2 ⟨rfl, b2⟩
    have c2 : Below w.heap.size w w2 := c1.trans (b2.mono c1.size)
    rw [hk]
    go_wp2
    go_ret
    exact ⟨by simp, c2⟩
  · rw [e]; clear e
    have hk : keyOf 2 a = 16 + a := by rw [keyOf_in (by omega) (by omega) h.2.1.1 h.2.1.2]; omega
    have HW := fun w => writeOf_bind h w
    clear h
    have hm := method_bindKey k a b n
    go_enter Tryz.func89, Tryz.ntmps89
    go_wp2_with fail
    refine (HW _).mono ?_
    rintro e w1 ⟨rfl, b1⟩
    have c1 : Below w.heap.size w w1 := (Below.trans (by go_grown) (b1.mono (by first | omega | (simp; done) | (simp; omega))))
    clear b1 HW
    go_wp2_with fail
    refine (bondKey_any k a b n _).mono ?_
    rintro e w2 ⟨rfl, b2⟩
    have c2 : Below w.heap.size w w2 := c1.trans (b2.mono c1.size)
    rw [hk]
    go_wp2
    go_ret
    exact ⟨by simp, c2⟩
  · rw [e]; clear e
    have hk : keyOf 2 a = 16 + a := by rw [keyOf_in (by omega) (by omega) h.2.1.1 h.2.1.2]; omega
    have HW := fun w => writeOf_part h w
    clear h
    have hm := method_partKey k a b n
    go_enter Tryz.func89, Tryz.ntmps89
    go_wp2_with fail
    refine (HW _).mono ?_
    rintro e w1 ⟨rfl, b1⟩
    have c1 : Below w.heap.size w w1 := (Below.trans (by go_grown) (b1.mono (by first | omega | (simp; done) | (simp; omega))))
    clear b1 HW
    go_wp2_with fail
    refine (bondKey_any k a b n _).mono ?_
    rintro e w2 ⟨rfl, b2⟩
    have c2 : Below w.heap.size w w2 := c1.trans (b2.mono c1.size)
    rw [hk]
    go_wp2
    go_ret
    exact ⟨by simp, c2⟩
  · rw [e]; clear e
    have HW := fun w => writeOf_no h1 h2 h3 w
    clear h1 h2 h3
    have hm := method_noKey
    go_enter Tryz.func89, Tryz.ntmps89
    go_wp2_with fail
    refine (HW _).mono ?_
    rintro e w1 ⟨rfl, b1⟩
    have c1 : Below w.heap.size w w1 := (Below.trans (by go_grown) (b1.mono (by first | omega | (simp; done) | (simp; omega))))
    clear b1 HW
    go_wp2_with fail
    refine (noKey_any _).mono ?_
    rintro e w2 ⟨rfl, b2⟩
    have c2 : Below w.heap.size w w2 := c1.trans (b2.mono c1.size)
    go_wp2
    go_ret
    exact ⟨by simp, c2⟩
set_option maxHeartbeats 1000000 in
theorem specOpKey_any (k a b n : Int) (w : World) : Calls Tryz.prog 72 #[.agg #[.int .i64 k, .int .i64 a, .int .i64 b, .int .i64 n]] w fun e w' => e = .returned (.int .i64 (opKey k a b n)) ∧ Below w.heap.size w w' := by
  have HS := fun w => specOpOk_any k a b n w
  rcases op_ways k a b n with ⟨h, e0, e, -⟩ | ⟨h, e0, e, -⟩ | ⟨h, e0, e, -⟩ | ⟨-, -, -, e0, e, -⟩
  · rw [e]; clear e
    rw [e0] at HS; clear e0
    have hk : keyOf 0 a = a := by rw [keyOf_in (by omega) (by omega) h.2.1.1 h.2.1.2]; omega
    obtain ⟨rfl, -⟩ := h
    go_enter Tryz.func72, Tryz.ntmps72
    go_wp2_with fail
    generalize hW1 : (w.alloc (.cells #[.int .i64 1, .int .i64 a, .int .i64 b, .int .i64 n] 97)) = w1
    have a0_1 : w1.cell? ⟨w.heap.size, 0, none⟩ = some (.int .i64 1) := by subst hW1; go_cell
    have a1_1 : w1.cell? ⟨w.heap.size, 1, none⟩ = some (.int .i64 a) := by subst hW1; go_cell
    have a2_1 : w1.cell? ⟨w.heap.size, 2, none⟩ = some (.int .i64 b) := by subst hW1; go_cell
    have a3_1 : w1.cell? ⟨w.heap.size, 3, none⟩ = some (.int .i64 n) := by subst hW1; go_cell
    have al_1 : w.heap.size < w1.heap.size := by subst hW1; first | (simp; done) | (simp; omega)
    have c1 : Below w.heap.size w w1 := by subst hW1; go_grown
    have s1 : w1.heap.size = w.heap.size + 1 := by subst hW1; simp
    clear hW1
    have qa0_1 := cell_regrown a0_1
    have qa1_1 := cell_regrown a1_1
    have qa2_1 := cell_regrown a2_1
    have qa3_1 := cell_regrown a3_1
    refine (HS _).mono ?_
    rintro e w2 ⟨rfl, b2⟩
    have d2 : Below w1.heap.size w1 w2 := (Below.trans (by go_grown) (b2.mono (by first | omega | (simp; done) | (simp; omega))))
    have c2 : Below w.heap.size w w2 := c1.trans (d2.mono c1.size)
    have a0_2 : w2.cell? ⟨w.heap.size, 0, none⟩ = some (.int .i64 1) := (by rw [b2.cell (by first | omega | (simp; done) | (simp; omega))]; go_cell)
    have a1_2 : w2.cell? ⟨w.heap.size, 1, none⟩ = some (.int .i64 a) := (by rw [b2.cell (by first | omega | (simp; done) | (simp; omega))]; go_cell)
    have a2_2 : w2.cell? ⟨w.heap.size, 2, none⟩ = some (.int .i64 b) := (by rw [b2.cell (by first | omega | (simp; done) | (simp; omega))]; go_cell)
    have a3_2 : w2.cell? ⟨w.heap.size, 3, none⟩ = some (.int .i64 n) := (by rw [b2.cell (by first | omega | (simp; done) | (simp; omega))]; go_cell)
    have al_2 : w.heap.size < w2.heap.size := (by have := b2.size; first | omega | (revert this; simp; done) | (revert this; simp; omega))
    clear a0_1 a1_1 a2_1 a3_1 al_1
    clear b2 d2 HS
    go_wp2_with fail
    refine (specMake_any _ _ _).mono ?_
    rintro e w3 ⟨rfl, rfl⟩
    rw [hk]
    go_wp2
    go_ret
    exact ⟨by simp, by go_grown⟩
  · rw [e]; clear e
    rw [e0] at HS; clear e0
    have hk : keyOf 2 a = 16 + a := by rw [keyOf_in (by omega) (by omega) h.2.1.1 h.2.1.2]; omega
    obtain ⟨rfl, -⟩ := h
    go_enter Tryz.func72, Tryz.ntmps72
    go_wp2_with fail
    generalize hW1 : (w.alloc (.cells #[.int .i64 2, .int .i64 a, .int .i64 b, .int .i64 n] 97)) = w1
    have a0_1 : w1.cell? ⟨w.heap.size, 0, none⟩ = some (.int .i64 2) := by subst hW1; go_cell
    have a1_1 : w1.cell? ⟨w.heap.size, 1, none⟩ = some (.int .i64 a) := by subst hW1; go_cell
    have a2_1 : w1.cell? ⟨w.heap.size, 2, none⟩ = some (.int .i64 b) := by subst hW1; go_cell
    have a3_1 : w1.cell? ⟨w.heap.size, 3, none⟩ = some (.int .i64 n) := by subst hW1; go_cell
    have al_1 : w.heap.size < w1.heap.size := by subst hW1; first | (simp; done) | (simp; omega)
    have c1 : Below w.heap.size w w1 := by subst hW1; go_grown
    have s1 : w1.heap.size = w.heap.size + 1 := by subst hW1; simp
    clear hW1
    have qa0_1 := cell_regrown a0_1
    have qa1_1 := cell_regrown a1_1
    have qa2_1 := cell_regrown a2_1
    have qa3_1 := cell_regrown a3_1
    refine (HS _).mono ?_
    rintro e w2 ⟨rfl, b2⟩
    have d2 : Below w1.heap.size w1 w2 := (Below.trans (by go_grown) (b2.mono (by first | omega | (simp; done) | (simp; omega))))
    have c2 : Below w.heap.size w w2 := c1.trans (d2.mono c1.size)
    have a0_2 : w2.cell? ⟨w.heap.size, 0, none⟩ = some (.int .i64 2) := (by rw [b2.cell (by first | omega | (simp; done) | (simp; omega))]; go_cell)
    have a1_2 : w2.cell? ⟨w.heap.size, 1, none⟩ = some (.int .i64 a) := (by rw [b2.cell (by first | omega | (simp; done) | (simp; omega))]; go_cell)
    have a2_2 : w2.cell? ⟨w.heap.size, 2, none⟩ = some (.int .i64 b) := (by rw [b2.cell (by first | omega | (simp; done) | (simp; omega))]; go_cell)
    have a3_2 : w2.cell? ⟨w.heap.size, 3, none⟩ = some (.int .i64 n) := (by rw [b2.cell (by first | omega | (simp; done) | (simp; omega))]; go_cell)
    have al_2 : w.heap.size < w2.heap.size := (by have := b2.size; first | omega | (revert this; simp; done) | (revert this; simp; omega))
    clear a0_1 a1_1 a2_1 a3_1 al_1
    clear b2 d2 HS
    go_wp2_with fail
    refine (specMake_any _ _ _).mono ?_
    rintro e w3 ⟨rfl, rfl⟩
    rw [hk]
    go_wp2
    go_ret
    exact ⟨by simp, by go_grown⟩
  · rw [e]; clear e
    rw [e0] at HS; clear e0
    have hk : keyOf 2 a = 16 + a := by rw [keyOf_in (by omega) (by omega) h.2.1.1 h.2.1.2]; omega
    obtain ⟨rfl, -⟩ := h
    go_enter Tryz.func72, Tryz.ntmps72
    go_wp2_with fail
    generalize hW1 : (w.alloc (.cells #[.int .i64 3, .int .i64 a, .int .i64 b, .int .i64 n] 97)) = w1
    have a0_1 : w1.cell? ⟨w.heap.size, 0, none⟩ = some (.int .i64 3) := by subst hW1; go_cell
    have a1_1 : w1.cell? ⟨w.heap.size, 1, none⟩ = some (.int .i64 a) := by subst hW1; go_cell
    have a2_1 : w1.cell? ⟨w.heap.size, 2, none⟩ = some (.int .i64 b) := by subst hW1; go_cell
    have a3_1 : w1.cell? ⟨w.heap.size, 3, none⟩ = some (.int .i64 n) := by subst hW1; go_cell
    have al_1 : w.heap.size < w1.heap.size := by subst hW1; first | (simp; done) | (simp; omega)
    have c1 : Below w.heap.size w w1 := by subst hW1; go_grown
    have s1 : w1.heap.size = w.heap.size + 1 := by subst hW1; simp
    clear hW1
    have qa0_1 := cell_regrown a0_1
    have qa1_1 := cell_regrown a1_1
    have qa2_1 := cell_regrown a2_1
    have qa3_1 := cell_regrown a3_1
    refine (HS _).mono ?_
    rintro e w2 ⟨rfl, b2⟩
    have d2 : Below w1.heap.size w1 w2 := (Below.trans (by go_grown) (b2.mono (by first | omega | (simp; done) | (simp; omega))))
    have c2 : Below w.heap.size w w2 := c1.trans (d2.mono c1.size)
    have a0_2 : w2.cell? ⟨w.heap.size, 0, none⟩ = some (.int .i64 3) := (by rw [b2.cell (by first | omega | (simp; done) | (simp; omega))]; go_cell)
    have a1_2 : w2.cell? ⟨w.heap.size, 1, none⟩ = some (.int .i64 a) := (by rw [b2.cell (by first | omega | (simp; done) | (simp; omega))]; go_cell)
    have a2_2 : w2.cell? ⟨w.heap.size, 2, none⟩ = some (.int .i64 b) := (by rw [b2.cell (by first | omega | (simp; done) | (simp; omega))]; go_cell)
    have a3_2 : w2.cell? ⟨w.heap.size, 3, none⟩ = some (.int .i64 n) := (by rw [b2.cell (by first | omega | (simp; done) | (simp; omega))]; go_cell)
    have al_2 : w.heap.size < w2.heap.size := (by have := b2.size; first | omega | (revert this; simp; done) | (revert this; simp; omega))
    clear a0_1 a1_1 a2_1 a3_1 al_1
    clear b2 d2 HS
    go_wp2_with fail
    refine (specMake_any _ _ _).mono ?_
    rintro e w3 ⟨rfl, rfl⟩
    rw [hk]
    go_wp2
    go_ret
    exact ⟨by simp, by go_grown⟩
  · rw [e]; clear e
    rw [e0] at HS; clear e0
    go_enter Tryz.func72, Tryz.ntmps72
    go_wp2_with fail
    generalize hW1 : (w.alloc (.cells #[.int .i64 k, .int .i64 a, .int .i64 b, .int .i64 n] 97)) = w1
    have a0_1 : w1.cell? ⟨w.heap.size, 0, none⟩ = some (.int .i64 k) := by subst hW1; go_cell
    have a1_1 : w1.cell? ⟨w.heap.size, 1, none⟩ = some (.int .i64 a) := by subst hW1; go_cell
    have a2_1 : w1.cell? ⟨w.heap.size, 2, none⟩ = some (.int .i64 b) := by subst hW1; go_cell
    have a3_1 : w1.cell? ⟨w.heap.size, 3, none⟩ = some (.int .i64 n) := by subst hW1; go_cell
    have al_1 : w.heap.size < w1.heap.size := by subst hW1; first | (simp; done) | (simp; omega)
    have c1 : Below w.heap.size w w1 := by subst hW1; go_grown
    have s1 : w1.heap.size = w.heap.size + 1 := by subst hW1; simp
    clear hW1
    have qa0_1 := cell_regrown a0_1
    have qa1_1 := cell_regrown a1_1
    have qa2_1 := cell_regrown a2_1
    have qa3_1 := cell_regrown a3_1
    refine (HS _).mono ?_
    rintro e w2 ⟨rfl, b2⟩
    have d2 : Below w1.heap.size w1 w2 := (Below.trans (by go_grown) (b2.mono (by first | omega | (simp; done) | (simp; omega))))
    have c2 : Below w.heap.size w w2 := c1.trans (d2.mono c1.size)
    have a0_2 : w2.cell? ⟨w.heap.size, 0, none⟩ = some (.int .i64 k) := (by rw [b2.cell (by first | omega | (simp; done) | (simp; omega))]; go_cell)
    have a1_2 : w2.cell? ⟨w.heap.size, 1, none⟩ = some (.int .i64 a) := (by rw [b2.cell (by first | omega | (simp; done) | (simp; omega))]; go_cell)
    have a2_2 : w2.cell? ⟨w.heap.size, 2, none⟩ = some (.int .i64 b) := (by rw [b2.cell (by first | omega | (simp; done) | (simp; omega))]; go_cell)
    have a3_2 : w2.cell? ⟨w.heap.size, 3, none⟩ = some (.int .i64 n) := (by rw [b2.cell (by first | omega | (simp; done) | (simp; omega))]; go_cell)
    have al_2 : w.heap.size < w2.heap.size := (by have := b2.size; first | omega | (revert this; simp; done) | (revert this; simp; omega))
    clear a0_1 a1_1 a2_1 a3_1 al_1
    clear b2 d2 HS
    go_wp2_with fail
    go_ret
    exact ⟨by simp, by go_grown⟩
end Go.Proofs.YtefhpbcdjgllnaaGreat
