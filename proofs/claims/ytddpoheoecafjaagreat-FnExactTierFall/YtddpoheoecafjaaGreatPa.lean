/- impl.OpOk: contracts. -/
import Derived.Test.YtddpoheoecafjaaGreatOy
namespace Go.Proofs.YtddpoheoecafjaaGreat
open Go.RowKit
attribute [local go_sem ↓] Go.wp_at_zero Go.wp_at_succ

set_option maxHeartbeats 1000000 in
theorem implOpOk_any (k a b n : Int) (w : World) : Calls Tryz.prog 164 #[.agg #[.int .i64 k, .int .i64 a, .int .i64 b, .int .i64 n]] w fun e w' => e = .returned (.bool (opOk k a b n)) ∧ Below w.heap.size w w' := by
  rcases op_ways k a b n with ⟨h, e, -, -⟩ | ⟨h, e, -, -⟩ | ⟨h, e, -, -⟩ | ⟨h1, h2, h3, e, -, -⟩
  · rw [e]; clear e
    have hr := setR_of h
    have HW := fun w => writeOf_set h w
    clear h
    have hm := method_setRight k a b n
    go_enter Tryz.func164, Tryz.ntmps164
    go_wp2_with fail
    refine (HW _).mono ?_
    rintro e w1 ⟨rfl, b1⟩
    have c1 : Below w.heap.size w w1 := (Below.trans (by go_grown) (b1.mono (by first | omega | (simp; done) | (simp; omega))))
    clear b1 HW
    go_wp2_with fail
    refine (setRight_any k a b n _).mono ?_
    rintro e w2 ⟨rfl, b2⟩
    have c2 : Below w.heap.size w w2 := c1.trans (b2.mono c1.size)
    rw [hr]
    go_wp2
    go_ret
    exact ⟨by simp, c2⟩
  · rw [e]; clear e
    have hr := bindR_of h
    have HW := fun w => writeOf_bind h w
    clear h
    have hm := method_bindRight k a b n
    go_enter Tryz.func164, Tryz.ntmps164
    go_wp2_with fail
    refine (HW _).mono ?_
    rintro e w1 ⟨rfl, b1⟩
    have c1 : Below w.heap.size w w1 := (Below.trans (by go_grown) (b1.mono (by first | omega | (simp; done) | (simp; omega))))
    clear b1 HW
    go_wp2_with fail
    refine (bindRight_any k a b n _).mono ?_
    rintro e w2 ⟨rfl, b2⟩
    have c2 : Below w.heap.size w w2 := c1.trans (b2.mono c1.size)
    rw [hr]
    go_wp2
    go_ret
    exact ⟨by simp, c2⟩
  · rw [e]; clear e
    have hr := partR_of h
    have HW := fun w => writeOf_part h w
    clear h
    have hm := method_partRight k a b n
    go_enter Tryz.func164, Tryz.ntmps164
    go_wp2_with fail
    refine (HW _).mono ?_
    rintro e w1 ⟨rfl, b1⟩
    have c1 : Below w.heap.size w w1 := (Below.trans (by go_grown) (b1.mono (by first | omega | (simp; done) | (simp; omega))))
    clear b1 HW
    go_wp2_with fail
    refine (partRight_any k a b n _).mono ?_
    rintro e w2 ⟨rfl, b2⟩
    have c2 : Below w.heap.size w w2 := c1.trans (b2.mono c1.size)
    rw [hr]
    go_wp2
    go_ret
    exact ⟨by simp, c2⟩
  · rw [e]; clear e
    have HW := fun w => writeOf_no h1 h2 h3 w
    clear h1 h2 h3
    have hm := method_noRight
    go_enter Tryz.func164, Tryz.ntmps164
    go_wp2_with fail
    refine (HW _).mono ?_
    rintro e w1 ⟨rfl, b1⟩
    have c1 : Below w.heap.size w w1 := (Below.trans (by go_grown) (b1.mono (by first | omega | (simp; done) | (simp; omega))))
    clear b1 HW
    go_wp2_with fail
    refine (noRight_any _).mono ?_
    rintro e w2 ⟨rfl, b2⟩
    have c2 : Below w.heap.size w w2 := c1.trans (b2.mono c1.size)
    go_wp2
    go_ret
    exact ⟨by simp, c2⟩
end Go.Proofs.YtddpoheoecafjaaGreat
