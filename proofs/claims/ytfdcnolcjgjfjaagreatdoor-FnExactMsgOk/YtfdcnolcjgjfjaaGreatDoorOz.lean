/- OpOk, OpOther and their like, of both; toOp: contracts. -/
import Derived.Test.YtfdcnolcjgjfjaaGreatDoorOy
namespace Go.Proofs.YtfdcnolcjgjfjaaGreatDoor
open Go.RowKit
attribute [local go_sem ↓] Go.wp_at_zero Go.wp_at_succ

set_option maxHeartbeats 400000 in
theorem toOp_any (k a b n : Int) (w : World) :
    Calls Tryz.prog 47 #[.agg #[.int .i64 k, .int .i64 a, .int .i64 b, .int .i64 n]] w fun e w' => e = .returned (.agg #[.int .i64 k, .int .i64 a, .int .i64 b, .int .i64 n]) ∧ Below w.heap.size w w' := by
  go_enter Tryz.func47, Tryz.ntmps47
  go_wp2
  refine bodyPost_ret (v := .agg #[.int .i64 k, .int .i64 a, .int .i64 b, .int .i64 n]) (by simp [results, Tryz.results47, go_sem]) rfl ⟨rfl, ?_⟩
  go_grown

theorem method_setOther (k a b n : Int) (w : World) : (method 349 188 (.agg #[.int .i64 k, .int .i64 a, .int .i64 b, .int .i64 n]) "loop.example/kith/impl.other").run Tryz.prog w = .ok (231, .agg #[.int .i64 k, .int .i64 a, .int .i64 b, .int .i64 n]) w := by kernel_rfl
theorem method_bindOther (k a b n : Int) (w : World) : (method 349 191 (.agg #[.int .i64 k, .int .i64 a, .int .i64 b, .int .i64 n]) "loop.example/kith/impl.other").run Tryz.prog w = .ok (236, .agg #[.int .i64 k, .int .i64 a, .int .i64 b, .int .i64 n]) w := by kernel_rfl
theorem method_partOther (k a b n : Int) (w : World) : (method 349 192 (.agg #[.int .i64 k, .int .i64 a, .int .i64 b, .int .i64 n]) "loop.example/kith/impl.other").run Tryz.prog w = .ok (236, .agg #[.int .i64 k, .int .i64 a, .int .i64 b, .int .i64 n]) w := by kernel_rfl
theorem method_noOther (w : World) : (method 349 166 (.agg #[]) "loop.example/kith/impl.other").run Tryz.prog w = .ok (223, .agg #[]) w := by kernel_rfl
theorem setOther_any (k a b n : Int) (w : World) : Calls Tryz.prog 231 #[.agg #[.int .i64 k, .int .i64 a, .int .i64 b, .int .i64 n]] w fun e w' => e = .returned (.int .i64 (-1)) ∧ Below w.heap.size w w' := by
  go_enter Tryz.func231, Tryz.ntmps231
  go_wp2
  go_ret
  exact ⟨by simp, by go_grown⟩
theorem noOther_any (w : World) : Calls Tryz.prog 223 #[.agg #[]] w fun e w' => e = .returned (.int .i64 (-1)) ∧ Below w.heap.size w w' := by
  go_enter Tryz.func223, Tryz.ntmps223
  go_wp2
  go_ret
  exact ⟨by simp, by go_grown⟩

set_option maxHeartbeats 1000000 in
theorem implOther_any (k a b n : Int) (w : World) : Calls Tryz.prog 103 #[.agg #[.int .i64 k, .int .i64 a, .int .i64 b, .int .i64 n]] w fun e w' => e = .returned (.int .i64 (opOther k a b n)) ∧ Below w.heap.size w w' := by
  rcases op_ways k a b n with ⟨h, -, -, e⟩ | ⟨h, -, -, e⟩ | ⟨h, -, -, e⟩ | ⟨h1, h2, h3, -, -, e⟩
  · rw [e]; clear e
    have HW := fun w => writeOf_set h w
    clear h
    have hm := method_setOther k a b n
    go_enter Tryz.func103, Tryz.ntmps103
    go_wp2_with fail
    refine (HW _).mono ?_
    rintro e w1 ⟨rfl, b1⟩
    have c1 : Below w.heap.size w w1 := (Below.trans (by go_grown) (b1.mono (by first | omega | (simp; done) | (simp; omega))))
    clear b1 HW
    go_wp2_with fail
    refine (setOther_any k a b n _).mono ?_
    rintro e w2 ⟨rfl, b2⟩
    have c2 : Below w.heap.size w w2 := c1.trans (b2.mono c1.size)
    go_wp2
    go_ret
    exact ⟨by simp, c2⟩
  · rw [e]; clear e
    have HW := fun w => writeOf_bind h w
    have hk : keyOf 1 b = 8 + b := by rw [keyOf_in (by omega) (by omega) h.2.2.1.1 h.2.2.1.2]; omega
    clear h
    have hm := method_bindOther k a b n
    go_enter Tryz.func103, Tryz.ntmps103
    go_wp2_with fail
    refine (HW _).mono ?_
    rintro e w1 ⟨rfl, b1⟩
    have c1 : Below w.heap.size w w1 := (Below.trans (by go_grown) (b1.mono (by first | omega | (simp; done) | (simp; omega))))
    clear b1 HW
    go_wp2_with fail
    refine (bondOther_any k a b n _).mono ?_
    rintro e w2 ⟨rfl, b2⟩
    have c2 : Below w.heap.size w w2 := c1.trans (b2.mono c1.size)
    rw [hk]
    go_wp2
    go_ret
    exact ⟨by simp, c2⟩
  · rw [e]; clear e
    have HW := fun w => writeOf_part h w
    have hk : keyOf 1 b = 8 + b := by rw [keyOf_in (by omega) (by omega) h.2.2.1.1 h.2.2.1.2]; omega
    clear h
    have hm := method_partOther k a b n
    go_enter Tryz.func103, Tryz.ntmps103
    go_wp2_with fail
    refine (HW _).mono ?_
    rintro e w1 ⟨rfl, b1⟩
    have c1 : Below w.heap.size w w1 := (Below.trans (by go_grown) (b1.mono (by first | omega | (simp; done) | (simp; omega))))
    clear b1 HW
    go_wp2_with fail
    refine (bondOther_any k a b n _).mono ?_
    rintro e w2 ⟨rfl, b2⟩
    have c2 : Below w.heap.size w w2 := c1.trans (b2.mono c1.size)
    rw [hk]
    go_wp2
    go_ret
    exact ⟨by simp, c2⟩
  · rw [e]; clear e
    have HW := fun w => writeOf_no h1 h2 h3 w
    clear h1 h2 h3
    have hm := method_noOther
    go_enter Tryz.func103, Tryz.ntmps103
    go_wp2_with fail
    refine (HW _).mono ?_
    rintro e w1 ⟨rfl, b1⟩
    have c1 : Below w.heap.size w w1 := (Below.trans (by go_grown) (b1.mono (by first | omega | (simp; done) | (simp; omega))))
    clear b1 HW
    go_wp2_with fail
    refine (noOther_any _).mono ?_
    rintro e w2 ⟨rfl, b2⟩
    have c2 : Below w.heap.size w w2 := c1.trans (b2.mono c1.size)
    go_wp2
    go_ret
    exact ⟨by simp, c2⟩
end Go.Proofs.YtfdcnolcjgjfjaaGreatDoor
