/- What a tier waits for, and both TierOk: contracts. Written by a program (gqb.py). -/
import Derived.Test.YtddpoheoecafjaaGreatGrA
import Derived.Test.YtddpoheoecafjaaGreatMq
import Derived.Test.YtddpoheoecafjaaGreatPa
import Derived.Test.YtddpoheoecafjaaGreatXl
import Derived.Test.YtddpoheoecafjaaGreatGrD
import Derived.Test.YtddpoheoecafjaaGreatCd
import Derived.BigQuiet
namespace Go.Proofs.YtddpoheoecafjaaGreat
open Go.RowKit
attribute [local go_sem ↓] Go.wp_at_zero Go.wp_at_succ

/-! ### What a tier waits for, by its kind -/
abbrev rdW (k : Int) : Value := .iface 77 (.int .i64 k)
abbrev wrW (k a b n : Int) : Value := .iface 94 (.agg #[.int .i64 k, .int .i64 a, .int .i64 b, .int .i64 n])
abbrev idleW : Value := .iface 126 (.agg #[])
theorem askedOf_any (i0 i1 i2 : Int) (q0 q1 q2 q3 : Bool) (i3 i4 i5 i6 i7 : Int) (va0 va1 : Value) (w : World) : Calls Tryz.prog 39 #[.agg #[.int .i64 i0, .int .i64 i1, .int .i64 i2, .bool q0, .bool q1, .bool q2, .bool q3, .int .i64 i3, .int .i64 i4, .int .i64 i5, .int .i64 i6, .int .i64 i7, va0, va1]] w fun e w' => e = .returned (.agg #[.bool q2, .bool q3, .int .i64 i3, .int .i64 i4, .int .i64 i5, .int .i64 i6, .int .i64 i7]) ∧ Below w.heap.size w w' := by
  go_enter Tryz.func39, Tryz.ntmps39
  go_wp2
  refine bodyPost_ret (v := .agg #[.bool q2, .bool q3, .int .i64 i3, .int .i64 i4, .int .i64 i5, .int .i64 i6, .int .i64 i7]) (by simp [results, Tryz.results39, go_sem]) rfl ⟨rfl, ?_⟩
  go_grown
theorem waitOf_rd (q2 : Bool) (i3 i4 i5 i6 i7 : Int) (w : World) : Calls Tryz.prog 67 #[.agg #[.bool q2, .bool true, .int .i64 i3, .int .i64 i4, .int .i64 i5, .int .i64 i6, .int .i64 i7]] w fun e w' => e = .returned (rdW i3) ∧ Below w.heap.size w w' := by
  go_enter Tryz.func67, Tryz.ntmps67
  go_wp2
  go_ret
  exact ⟨by simp, by go_grown⟩
theorem waitOf_wr (i3 i4 i5 i6 i7 : Int) (w : World) : Calls Tryz.prog 67 #[.agg #[.bool true, .bool false, .int .i64 i3, .int .i64 i4, .int .i64 i5, .int .i64 i6, .int .i64 i7]] w fun e w' => e = .returned (wrW i4 i5 i6 i7) ∧ Below w.heap.size w w' := by
  go_enter Tryz.func67, Tryz.ntmps67
  go_wp2
  go_ret
  exact ⟨by simp, by go_grown⟩
theorem waitOf_no (i3 i4 i5 i6 i7 : Int) (w : World) : Calls Tryz.prog 67 #[.agg #[.bool false, .bool false, .int .i64 i3, .int .i64 i4, .int .i64 i5, .int .i64 i6, .int .i64 i7]] w fun e w' => e = .returned idleW ∧ Below w.heap.size w w' := by
  go_enter Tryz.func67, Tryz.ntmps67
  go_wp2
  go_ret
  exact ⟨by simp, by go_grown⟩
theorem method_rdRight (k : Int) (w : World) : (method 321 77 (.int .i64 k) "loop.example/kith/impl.right").run Tryz.prog w = .ok (159, .int .i64 k) w := by kernel_rfl
theorem method_wrRight (k a b n : Int) (w : World) : (method 321 94 (.agg #[.int .i64 k, .int .i64 a, .int .i64 b, .int .i64 n]) "loop.example/kith/impl.right").run Tryz.prog w = .ok (162, .agg #[.int .i64 k, .int .i64 a, .int .i64 b, .int .i64 n]) w := by kernel_rfl
theorem method_noRightW (w : World) : (method 321 126 (.agg #[]) "loop.example/kith/impl.right").run Tryz.prog w = .ok (169, .agg #[]) w := by kernel_rfl
theorem method_rdAsked (k : Int) (w : World) : (method 321 77 (.int .i64 k) "loop.example/kith/impl.asked").run Tryz.prog w = .ok (157, .int .i64 k) w := by kernel_rfl
theorem method_wrAsked (k a b n : Int) (w : World) : (method 321 94 (.agg #[.int .i64 k, .int .i64 a, .int .i64 b, .int .i64 n]) "loop.example/kith/impl.asked").run Tryz.prog w = .ok (160, .agg #[.int .i64 k, .int .i64 a, .int .i64 b, .int .i64 n]) w := by kernel_rfl
theorem method_noAsked (w : World) : (method 321 126 (.agg #[]) "loop.example/kith/impl.asked").run Tryz.prog w = .ok (167, .agg #[]) w := by kernel_rfl
theorem rdRight_is {k : Int} {r : Bool} (h : keyIn k = r) (w : World) : Calls Tryz.prog 159 #[.int .i64 k] w fun e w' => e = .returned (.bool r) ∧ Below w.heap.size w w' := by
  go_enter Tryz.func159, Tryz.ntmps159
  go_wp2_with fail
  refine (keyRight_any _ _).mono ?_
  rintro e w2 ⟨rfl, rfl⟩
  rw [h]
  go_wp2
  go_ret
  exact ⟨by simp, by go_grown⟩
theorem wrRight_is {k a b n : Int} {r : Bool} (h : opOk k a b n = r) (w : World) : Calls Tryz.prog 162 #[.agg #[.int .i64 k, .int .i64 a, .int .i64 b, .int .i64 n]] w fun e w' => e = .returned (.bool r) ∧ Below w.heap.size w w' := by
  have HH := hid h
  clear h
  go_enter Tryz.func162, Tryz.ntmps162
  go_wp2_with fail
  refine (implOpOk_any _ _ _ _ _).mono ?_
  rintro e w2 ⟨rfl, b2⟩
  have c2 : Below w.heap.size w w2 := (Below.trans (by go_grown) (b2.mono (by first | omega | (simp; done) | (simp; omega))))
  rw [HH.out]
  clear b2
  go_wp2
  go_ret
  exact ⟨by simp, c2⟩
theorem noRight_yes (w : World) : Calls Tryz.prog 169 #[.agg #[]] w fun e w' => e = .returned (.bool true) ∧ Below w.heap.size w w' := by
  go_enter Tryz.func169, Tryz.ntmps169
  go_wp2
  go_ret
  exact ⟨by simp, by go_grown⟩
theorem rdAsked_any (k : Int) (w : World) : Calls Tryz.prog 157 #[.int .i64 k] w fun e w' => e = .returned (.agg #[.bool true, .bool true, .int .i64 k, .int .i64 0, .int .i64 0, .int .i64 0, .int .i64 0]) ∧ Below w.heap.size w w' := by
  go_enter Tryz.func157, Tryz.ntmps157
  go_wp2
  refine bodyPost_ret (v := .agg #[.bool true, .bool true, .int .i64 k, .int .i64 0, .int .i64 0, .int .i64 0, .int .i64 0]) (by simp [results, Tryz.results157, go_sem]) rfl ⟨rfl, ?_⟩
  go_grown
theorem wrAsked_any (k a b n : Int) (w : World) : Calls Tryz.prog 160 #[.agg #[.int .i64 k, .int .i64 a, .int .i64 b, .int .i64 n]] w fun e w' => e = .returned (.agg #[.bool true, .bool false, .int .i64 0, .int .i64 k, .int .i64 a, .int .i64 b, .int .i64 n]) ∧ Below w.heap.size w w' := by
  go_enter Tryz.func160, Tryz.ntmps160
  go_wp2
  refine bodyPost_ret (v := .agg #[.bool true, .bool false, .int .i64 0, .int .i64 k, .int .i64 a, .int .i64 b, .int .i64 n]) (by simp [results, Tryz.results160, go_sem]) rfl ⟨rfl, ?_⟩
  go_grown
theorem noAsked_any (w : World) : Calls Tryz.prog 167 #[.agg #[]] w fun e w' => e = .returned (.agg #[.bool false, .bool false, .int .i64 0, .int .i64 0, .int .i64 0, .int .i64 0, .int .i64 0]) ∧ Below w.heap.size w w' := by
  go_enter Tryz.func167, Tryz.ntmps167
  go_wp2
  refine bodyPost_ret (v := .agg #[.bool false, .bool false, .int .i64 0, .int .i64 0, .int .i64 0, .int .i64 0, .int .i64 0]) (by simp [results, Tryz.results167, go_sem]) rfl ⟨rfl, ?_⟩
  go_grown

/-- Can a tier wait so, at the number of its last request? -/
def askR (q2 q3 : Bool) (i3 i4 i5 i6 i7 : Int) (i2 : Int) : Bool :=
  bif q3 then q2 && keyIn i3 && zO i4 i5 i6 i7 && decide (0 < i2) else bif q2 then decide (i3 = 0) && opOk i4 i5 i6 i7 && decide (0 < i2) else decide (i3 = 0) && zO i4 i5 i6 i7
def okT (i0 i1 i2 : Int) (_q0 _q1 q2 q3 : Bool) (i3 i4 i5 i6 i7 : Int) (I F : List KD) : Bool :=
  decide (0 ≤ i0 ∧ i0 < 2 ∧ 0 ≤ i1 ∧ i1 ≤ 1000 ∧ 0 ≤ i2 ∧ i2 ≤ 1000) && askR q2 q3 i3 i4 i5 i6 i7 i2 && okC I F
theorem zO_yes {a b c d : Int} (h : zO a b c d = true) : a = 0 ∧ b = 0 ∧ c = 0 ∧ d = 0 := by simpa [zO] using h
def sameA (x y : Value) : Sem Value := binOp .eql 69 x y
theorem sameA_open (x y : Value) : binOp .eql 69 x y = sameA x y := rfl
def DO : List (TypeId × (List Value → Prop)) := [(3, OneInt), (3, OneInt), (3, OneInt), (3, OneInt)]
theorem Tryz.shp_co : Tryz.prog.cellsOf 33 = 4 := by kernel_rfl
theorem eqOp_s (d : Nat) : EqS Tryz.prog (d + 2) 33 (fun l => Fits Tryz.prog l 0 DO) :=
  eqS_struct (by kernel_rfl) (by kernel_rfl) (D := DO) (by kernel_rfl) (by
    intro x hx
    simp only [DO, List.mem_cons, List.not_mem_nil, or_false] at hx
    rcases hx with rfl | rfl | rfl | rfl <;> exact eqP_int Tryz.shp_int)
def DA : List (TypeId × (List Value → Prop)) := [(4, OneBool), (4, OneBool), (3, OneInt), (33, fun l => Fits Tryz.prog l 0 DO)]
theorem eqAsked_s (d : Nat) : EqS Tryz.prog (d + 4) 69 (fun l => Fits Tryz.prog l 0 DA) :=
  eqS_struct (by kernel_rfl) (by kernel_rfl) (D := DA) (by kernel_rfl) (by
    intro x hx
    simp only [DA, List.mem_cons, List.not_mem_nil, or_false] at hx
    rcases hx with rfl | rfl | rfl | rfl
    · exact eqP_bool Tryz.shp_bool
    · exact eqP_bool Tryz.shp_bool
    · exact eqP_int Tryz.shp_int
    · exact eqP_of Tryz.underlying33 rfl (eqOp_s (d + 1)))
theorem fits_op (a b c n : Int) : Fits Tryz.prog [.int .i64 a, .int .i64 b, .int .i64 c, .int .i64 n] 0 DO := by
  simp only [DO, Fits, Tryz.shp_c3]
  exact ⟨⟨a, rfl⟩, ⟨b, rfl⟩, ⟨c, rfl⟩, ⟨n, rfl⟩, rfl⟩
theorem fits_asked (q2 q3 : Bool) (i3 i4 i5 i6 i7 : Int) : Fits Tryz.prog [.bool q2, .bool q3, .int .i64 i3, .int .i64 i4, .int .i64 i5, .int .i64 i6, .int .i64 i7] 0 DA := by
  simp only [DA, Fits, Tryz.shp_c3, Tryz.shp_c4, Tryz.shp_co]
  exact ⟨⟨q2, rfl⟩, ⟨q3, rfl⟩, ⟨i3, rfl⟩, fits_op _ _ _ _, rfl⟩
theorem sameA_is {q2 q3 p2 p3 : Bool} {i3 i4 i5 i6 i7 j3 j4 j5 j6 j7 : Int} {r : Bool} (h : (q2 = p2 ∧ q3 = p3 ∧ i3 = j3 ∧ i4 = j4 ∧ i5 = j5 ∧ i6 = j6 ∧ i7 = j7) ↔ r = true) (w : World) :
    (sameA (.agg #[.bool q2, .bool q3, .int .i64 i3, .int .i64 i4, .int .i64 i5, .int .i64 i6, .int .i64 i7]) (.agg #[.bool p2, .bool p3, .int .i64 j3, .int .i64 j4, .int .i64 j5, .int .i64 j6, .int .i64 j7])).run Tryz.prog w = .ok (.bool r) w := by
  obtain ⟨r', hr, hiff⟩ := eqAsked_s 9996 w _ _ (fits_asked q2 q3 i3 i4 i5 i6 i7) (fits_asked p2 p3 j3 j4 j5 j6 j7)
  have e : r' = r := by
    rw [Bool.eq_iff_iff, hiff, ← h]
    simp
  subst e
  rw [sameA, run_eql_struct, hr]
  rfl
attribute [local go_sem ↓] sameA_open
set_option maxHeartbeats 1000000 in
theorem askR_rd0 (q2 : Bool) (i3 i4 i5 i6 i7 i2 : Int) (hk : keyIn i3 = false) (w : World) : Calls Tryz.prog 38 #[.agg #[.bool q2, .bool true, .int .i64 i3, .int .i64 i4, .int .i64 i5, .int .i64 i6, .int .i64 i7], .int .i64 i2] w fun e w' => e = .returned (.bool false) ∧ Below w.heap.size w w' := by
  have hm := method_rdRight i3
  have HK := hid hk
  clear hk
  go_enter Tryz.func38, Tryz.ntmps38
  go_wp2_with fail
  generalize hW1 : (w.alloc (.cells #[.bool q2, .bool true, .int .i64 i3, .int .i64 i4, .int .i64 i5, .int .i64 i6, .int .i64 i7] 69)) = w1
  have a0_1 : w1.cell? ⟨w.heap.size, 0, none⟩ = some (.bool q2) := by subst hW1; go_cell
  have a1_1 : w1.cell? ⟨w.heap.size, 1, none⟩ = some (.bool true) := by subst hW1; go_cell
  have a2_1 : w1.cell? ⟨w.heap.size, 2, none⟩ = some (.int .i64 i3) := by subst hW1; go_cell
  have a3_1 : w1.cell? ⟨w.heap.size, 3, none⟩ = some (.int .i64 i4) := by subst hW1; go_cell
  have a4_1 : w1.cell? ⟨w.heap.size, 4, none⟩ = some (.int .i64 i5) := by subst hW1; go_cell
  have a5_1 : w1.cell? ⟨w.heap.size, 5, none⟩ = some (.int .i64 i6) := by subst hW1; go_cell
  have a6_1 : w1.cell? ⟨w.heap.size, 6, none⟩ = some (.int .i64 i7) := by subst hW1; go_cell
  have al_1 : w.heap.size < w1.heap.size := by subst hW1; first | (simp; done) | (simp; omega)
  have c1 : Below w.heap.size w w1 := by subst hW1; go_grown
  have s1 : w1.heap.size = w.heap.size + 1 := by subst hW1; simp
  clear hW1
  have qa0_1 := cell_regrown a0_1
  have qa1_1 := cell_regrown a1_1
  have qa2_1 := cell_regrown a2_1
  have qa3_1 := cell_regrown a3_1
  have qa4_1 := cell_regrown a4_1
  have qa5_1 := cell_regrown a5_1
  have qa6_1 := cell_regrown a6_1
  refine (waitOf_rd _ _ _ _ _ _ _).mono ?_
  rintro e w2 ⟨rfl, b2⟩
  have d2 : Below w1.heap.size w1 w2 := (Below.trans (by go_grown) (b2.mono (by first | omega | (simp; done) | (simp; omega))))
  have c2 : Below w.heap.size w w2 := c1.trans (d2.mono c1.size)
  have a0_2 : w2.cell? ⟨w.heap.size, 0, none⟩ = some (.bool q2) := (by rw [b2.cell (by first | omega | (simp; done) | (simp; omega))]; go_cell)
  have a1_2 : w2.cell? ⟨w.heap.size, 1, none⟩ = some (.bool true) := (by rw [b2.cell (by first | omega | (simp; done) | (simp; omega))]; go_cell)
  have a2_2 : w2.cell? ⟨w.heap.size, 2, none⟩ = some (.int .i64 i3) := (by rw [b2.cell (by first | omega | (simp; done) | (simp; omega))]; go_cell)
  have a3_2 : w2.cell? ⟨w.heap.size, 3, none⟩ = some (.int .i64 i4) := (by rw [b2.cell (by first | omega | (simp; done) | (simp; omega))]; go_cell)
  have a4_2 : w2.cell? ⟨w.heap.size, 4, none⟩ = some (.int .i64 i5) := (by rw [b2.cell (by first | omega | (simp; done) | (simp; omega))]; go_cell)
  have a5_2 : w2.cell? ⟨w.heap.size, 5, none⟩ = some (.int .i64 i6) := (by rw [b2.cell (by first | omega | (simp; done) | (simp; omega))]; go_cell)
  have a6_2 : w2.cell? ⟨w.heap.size, 6, none⟩ = some (.int .i64 i7) := (by rw [b2.cell (by first | omega | (simp; done) | (simp; omega))]; go_cell)
  have al_2 : w.heap.size < w2.heap.size := (by have := b2.size; first | omega | (revert this; simp; done) | (revert this; simp; omega))
  clear a0_1 a1_1 a2_1 a3_1 a4_1 a5_1 a6_1 al_1
  clear b2 d2
  go_wp2_with fail
  have r0 := cell_regrown a0_2
  have r1 := cell_regrown a1_2
  have r2 := cell_regrown a2_2
  have r3 := cell_regrown a3_2
  have r4 := cell_regrown a4_2
  have r5 := cell_regrown a5_2
  have r6 := cell_regrown a6_2
  refine wp_region_quiet_below (by kernel_rfl) (by kernel_rfl) ?_
  repeat (first | go_big_quiet_skip | (go_big_quiet_want; go_big_quiet_op; first | go_big_quiet_on | go_big_quiet_call (first | (go_at_call 159; exact Calls.regrown_of (rdRight_is HK.out _)))))
  refine wpQuiet_nil ?_
  rintro wq ⟨pq, hwq⟩
  have hq : Below w2.heap.size w2 wq := by rw [hwq]; exact below_regrown _ _ _
  clear hwq pq
  clear r0 r1 r2 r3 r4 r5 r6
  have cq := c2.trans (hq.mono c2.size)
  go_wp2
  go_ret
  exact ⟨by simp, cq⟩
set_option maxHeartbeats 1000000 in
theorem askR_rd1 (q2 : Bool) (i3 i4 i5 i6 i7 i2 : Int) (hk : keyIn i3 = true) (hs : ¬ (q2 = true ∧ i4 = 0 ∧ i5 = 0 ∧ i6 = 0 ∧ i7 = 0)) (w : World) : Calls Tryz.prog 38 #[.agg #[.bool q2, .bool true, .int .i64 i3, .int .i64 i4, .int .i64 i5, .int .i64 i6, .int .i64 i7], .int .i64 i2] w fun e w' => e = .returned (.bool false) ∧ Below w.heap.size w w' := by
  have hm := method_rdRight i3
  have hm2 := method_rdAsked i3
  have HK := hid hk
  have hsame := fun W => sameA_is (q2 := true) (q3 := true) (p2 := q2) (p3 := true) (i3 := i3) (j3 := i3) (i4 := 0) (i5 := 0) (i6 := 0) (i7 := 0) (j4 := i4) (j5 := i5) (j6 := i6) (j7 := i7) (r := false) (by simp only [Bool.false_eq_true, iff_false]; intro h; exact hs ⟨h.1.symm, h.2.2.2.1.symm, h.2.2.2.2.1.symm, h.2.2.2.2.2.1.symm, h.2.2.2.2.2.2.symm⟩) W
  clear hs hk
  go_enter Tryz.func38, Tryz.ntmps38
  go_wp2_with fail
  generalize hW1 : (w.alloc (.cells #[.bool q2, .bool true, .int .i64 i3, .int .i64 i4, .int .i64 i5, .int .i64 i6, .int .i64 i7] 69)) = w1
  have a0_1 : w1.cell? ⟨w.heap.size, 0, none⟩ = some (.bool q2) := by subst hW1; go_cell
  have a1_1 : w1.cell? ⟨w.heap.size, 1, none⟩ = some (.bool true) := by subst hW1; go_cell
  have a2_1 : w1.cell? ⟨w.heap.size, 2, none⟩ = some (.int .i64 i3) := by subst hW1; go_cell
  have a3_1 : w1.cell? ⟨w.heap.size, 3, none⟩ = some (.int .i64 i4) := by subst hW1; go_cell
  have a4_1 : w1.cell? ⟨w.heap.size, 4, none⟩ = some (.int .i64 i5) := by subst hW1; go_cell
  have a5_1 : w1.cell? ⟨w.heap.size, 5, none⟩ = some (.int .i64 i6) := by subst hW1; go_cell
  have a6_1 : w1.cell? ⟨w.heap.size, 6, none⟩ = some (.int .i64 i7) := by subst hW1; go_cell
  have al_1 : w.heap.size < w1.heap.size := by subst hW1; first | (simp; done) | (simp; omega)
  have c1 : Below w.heap.size w w1 := by subst hW1; go_grown
  have s1 : w1.heap.size = w.heap.size + 1 := by subst hW1; simp
  clear hW1
  have qa0_1 := cell_regrown a0_1
  have qa1_1 := cell_regrown a1_1
  have qa2_1 := cell_regrown a2_1
  have qa3_1 := cell_regrown a3_1
  have qa4_1 := cell_regrown a4_1
  have qa5_1 := cell_regrown a5_1
  have qa6_1 := cell_regrown a6_1
  refine (waitOf_rd _ _ _ _ _ _ _).mono ?_
  rintro e w2 ⟨rfl, b2⟩
  have d2 : Below w1.heap.size w1 w2 := (Below.trans (by go_grown) (b2.mono (by first | omega | (simp; done) | (simp; omega))))
  have c2 : Below w.heap.size w w2 := c1.trans (d2.mono c1.size)
  have a0_2 : w2.cell? ⟨w.heap.size, 0, none⟩ = some (.bool q2) := (by rw [b2.cell (by first | omega | (simp; done) | (simp; omega))]; go_cell)
  have a1_2 : w2.cell? ⟨w.heap.size, 1, none⟩ = some (.bool true) := (by rw [b2.cell (by first | omega | (simp; done) | (simp; omega))]; go_cell)
  have a2_2 : w2.cell? ⟨w.heap.size, 2, none⟩ = some (.int .i64 i3) := (by rw [b2.cell (by first | omega | (simp; done) | (simp; omega))]; go_cell)
  have a3_2 : w2.cell? ⟨w.heap.size, 3, none⟩ = some (.int .i64 i4) := (by rw [b2.cell (by first | omega | (simp; done) | (simp; omega))]; go_cell)
  have a4_2 : w2.cell? ⟨w.heap.size, 4, none⟩ = some (.int .i64 i5) := (by rw [b2.cell (by first | omega | (simp; done) | (simp; omega))]; go_cell)
  have a5_2 : w2.cell? ⟨w.heap.size, 5, none⟩ = some (.int .i64 i6) := (by rw [b2.cell (by first | omega | (simp; done) | (simp; omega))]; go_cell)
  have a6_2 : w2.cell? ⟨w.heap.size, 6, none⟩ = some (.int .i64 i7) := (by rw [b2.cell (by first | omega | (simp; done) | (simp; omega))]; go_cell)
  have al_2 : w.heap.size < w2.heap.size := (by have := b2.size; first | omega | (revert this; simp; done) | (revert this; simp; omega))
  clear a0_1 a1_1 a2_1 a3_1 a4_1 a5_1 a6_1 al_1
  clear b2 d2
  go_wp2_with fail
  have r0 := cell_regrown a0_2
  have r1 := cell_regrown a1_2
  have r2 := cell_regrown a2_2
  have r3 := cell_regrown a3_2
  have r4 := cell_regrown a4_2
  have r5 := cell_regrown a5_2
  have r6 := cell_regrown a6_2
  refine wp_region_quiet_below (by kernel_rfl) (by kernel_rfl) ?_
  repeat (first | go_big_quiet_skip | (go_big_quiet_want; go_big_quiet_op; first | go_big_quiet_on | go_big_quiet_call (first | (go_at_call 159; exact Calls.regrown_of (rdRight_is HK.out _)) | (go_at_call 157; exact Calls.regrown_of (rdAsked_any _ _)))))
  refine wpQuiet_nil ?_
  rintro wq ⟨pq, hwq⟩
  have hq : Below w2.heap.size w2 wq := by rw [hwq]; exact below_regrown _ _ _
  clear hwq pq
  clear r0 r1 r2 r3 r4 r5 r6
  have cq := c2.trans (hq.mono c2.size)
  go_wp2
  go_ret
  exact ⟨by simp, cq⟩
set_option maxHeartbeats 1000000 in
theorem askR_rd2 (i3 i2 : Int) (hk : keyIn i3 = true) (h2 : decide (i2 > 0) = true) (w : World) : Calls Tryz.prog 38 #[.agg #[.bool true, .bool true, .int .i64 i3, .int .i64 0, .int .i64 0, .int .i64 0, .int .i64 0], .int .i64 i2] w fun e w' => e = .returned (.bool true) ∧ Below w.heap.size w w' := by
  have hm := method_rdRight i3
  have hm2 := method_rdAsked i3
  have HK := hid hk
  have hsame := fun W => sameA_is (q2 := true) (q3 := true) (p2 := true) (p3 := true) (i3 := i3) (j3 := i3) (i4 := 0) (i5 := 0) (i6 := 0) (i7 := 0) (j4 := 0) (j5 := 0) (j6 := 0) (j7 := 0) (r := true) (by simp) W
  clear hk
  go_enter Tryz.func38, Tryz.ntmps38
  go_wp2_with fail
  generalize hW1 : (w.alloc (.cells #[.bool true, .bool true, .int .i64 i3, .int .i64 0, .int .i64 0, .int .i64 0, .int .i64 0] 69)) = w1
  have a0_1 : w1.cell? ⟨w.heap.size, 0, none⟩ = some (.bool true) := by subst hW1; go_cell
  have a1_1 : w1.cell? ⟨w.heap.size, 1, none⟩ = some (.bool true) := by subst hW1; go_cell
  have a2_1 : w1.cell? ⟨w.heap.size, 2, none⟩ = some (.int .i64 i3) := by subst hW1; go_cell
  have a3_1 : w1.cell? ⟨w.heap.size, 3, none⟩ = some (.int .i64 0) := by subst hW1; go_cell
  have a4_1 : w1.cell? ⟨w.heap.size, 4, none⟩ = some (.int .i64 0) := by subst hW1; go_cell
  have a5_1 : w1.cell? ⟨w.heap.size, 5, none⟩ = some (.int .i64 0) := by subst hW1; go_cell
  have a6_1 : w1.cell? ⟨w.heap.size, 6, none⟩ = some (.int .i64 0) := by subst hW1; go_cell
  have al_1 : w.heap.size < w1.heap.size := by subst hW1; first | (simp; done) | (simp; omega)
  have c1 : Below w.heap.size w w1 := by subst hW1; go_grown
  have s1 : w1.heap.size = w.heap.size + 1 := by subst hW1; simp
  clear hW1
  have qa0_1 := cell_regrown a0_1
  have qa1_1 := cell_regrown a1_1
  have qa2_1 := cell_regrown a2_1
  have qa3_1 := cell_regrown a3_1
  have qa4_1 := cell_regrown a4_1
  have qa5_1 := cell_regrown a5_1
  have qa6_1 := cell_regrown a6_1
  refine (waitOf_rd _ _ _ _ _ _ _).mono ?_
  rintro e w2 ⟨rfl, b2⟩
  have d2 : Below w1.heap.size w1 w2 := (Below.trans (by go_grown) (b2.mono (by first | omega | (simp; done) | (simp; omega))))
  have c2 : Below w.heap.size w w2 := c1.trans (d2.mono c1.size)
  have a0_2 : w2.cell? ⟨w.heap.size, 0, none⟩ = some (.bool true) := (by rw [b2.cell (by first | omega | (simp; done) | (simp; omega))]; go_cell)
  have a1_2 : w2.cell? ⟨w.heap.size, 1, none⟩ = some (.bool true) := (by rw [b2.cell (by first | omega | (simp; done) | (simp; omega))]; go_cell)
  have a2_2 : w2.cell? ⟨w.heap.size, 2, none⟩ = some (.int .i64 i3) := (by rw [b2.cell (by first | omega | (simp; done) | (simp; omega))]; go_cell)
  have a3_2 : w2.cell? ⟨w.heap.size, 3, none⟩ = some (.int .i64 0) := (by rw [b2.cell (by first | omega | (simp; done) | (simp; omega))]; go_cell)
  have a4_2 : w2.cell? ⟨w.heap.size, 4, none⟩ = some (.int .i64 0) := (by rw [b2.cell (by first | omega | (simp; done) | (simp; omega))]; go_cell)
  have a5_2 : w2.cell? ⟨w.heap.size, 5, none⟩ = some (.int .i64 0) := (by rw [b2.cell (by first | omega | (simp; done) | (simp; omega))]; go_cell)
  have a6_2 : w2.cell? ⟨w.heap.size, 6, none⟩ = some (.int .i64 0) := (by rw [b2.cell (by first | omega | (simp; done) | (simp; omega))]; go_cell)
  have al_2 : w.heap.size < w2.heap.size := (by have := b2.size; first | omega | (revert this; simp; done) | (revert this; simp; omega))
  clear a0_1 a1_1 a2_1 a3_1 a4_1 a5_1 a6_1 al_1
  clear b2 d2
  go_wp2_with fail
  have r0 := cell_regrown a0_2
  have r1 := cell_regrown a1_2
  have r2 := cell_regrown a2_2
  have r3 := cell_regrown a3_2
  have r4 := cell_regrown a4_2
  have r5 := cell_regrown a5_2
  have r6 := cell_regrown a6_2
  refine wp_region_quiet_below (by kernel_rfl) (by kernel_rfl) ?_
  repeat (first | go_big_quiet_skip | (go_big_quiet_want; go_big_quiet_op; first | go_big_quiet_on | go_big_quiet_call (first | (go_at_call 159; exact Calls.regrown_of (rdRight_is HK.out _)) | (go_at_call 157; exact Calls.regrown_of (rdAsked_any _ _)))))
  refine wpQuiet_nil ?_
  rintro wq ⟨pq, hwq⟩
  have hq : Below w2.heap.size w2 wq := by rw [hwq]; exact below_regrown _ _ _
  clear hwq pq
  clear r0 r1 r2 r3 r4 r5 r6
  have cq := c2.trans (hq.mono c2.size)
  go_wp2
  go_ret
  exact ⟨by simp, cq⟩
set_option maxHeartbeats 1000000 in
theorem askR_rd3 (i3 i2 : Int) (hk : keyIn i3 = true) (h2 : decide (i2 > 0) = false) (w : World) : Calls Tryz.prog 38 #[.agg #[.bool true, .bool true, .int .i64 i3, .int .i64 0, .int .i64 0, .int .i64 0, .int .i64 0], .int .i64 i2] w fun e w' => e = .returned (.bool false) ∧ Below w.heap.size w w' := by
  have hm := method_rdRight i3
  have hm2 := method_rdAsked i3
  have HK := hid hk
  have hsame := fun W => sameA_is (q2 := true) (q3 := true) (p2 := true) (p3 := true) (i3 := i3) (j3 := i3) (i4 := 0) (i5 := 0) (i6 := 0) (i7 := 0) (j4 := 0) (j5 := 0) (j6 := 0) (j7 := 0) (r := true) (by simp) W
  clear hk
  go_enter Tryz.func38, Tryz.ntmps38
  go_wp2_with fail
  generalize hW1 : (w.alloc (.cells #[.bool true, .bool true, .int .i64 i3, .int .i64 0, .int .i64 0, .int .i64 0, .int .i64 0] 69)) = w1
  have a0_1 : w1.cell? ⟨w.heap.size, 0, none⟩ = some (.bool true) := by subst hW1; go_cell
  have a1_1 : w1.cell? ⟨w.heap.size, 1, none⟩ = some (.bool true) := by subst hW1; go_cell
  have a2_1 : w1.cell? ⟨w.heap.size, 2, none⟩ = some (.int .i64 i3) := by subst hW1; go_cell
  have a3_1 : w1.cell? ⟨w.heap.size, 3, none⟩ = some (.int .i64 0) := by subst hW1; go_cell
  have a4_1 : w1.cell? ⟨w.heap.size, 4, none⟩ = some (.int .i64 0) := by subst hW1; go_cell
  have a5_1 : w1.cell? ⟨w.heap.size, 5, none⟩ = some (.int .i64 0) := by subst hW1; go_cell
  have a6_1 : w1.cell? ⟨w.heap.size, 6, none⟩ = some (.int .i64 0) := by subst hW1; go_cell
  have al_1 : w.heap.size < w1.heap.size := by subst hW1; first | (simp; done) | (simp; omega)
  have c1 : Below w.heap.size w w1 := by subst hW1; go_grown
  have s1 : w1.heap.size = w.heap.size + 1 := by subst hW1; simp
  clear hW1
  have qa0_1 := cell_regrown a0_1
  have qa1_1 := cell_regrown a1_1
  have qa2_1 := cell_regrown a2_1
  have qa3_1 := cell_regrown a3_1
  have qa4_1 := cell_regrown a4_1
  have qa5_1 := cell_regrown a5_1
  have qa6_1 := cell_regrown a6_1
  refine (waitOf_rd _ _ _ _ _ _ _).mono ?_
  rintro e w2 ⟨rfl, b2⟩
  have d2 : Below w1.heap.size w1 w2 := (Below.trans (by go_grown) (b2.mono (by first | omega | (simp; done) | (simp; omega))))
  have c2 : Below w.heap.size w w2 := c1.trans (d2.mono c1.size)
  have a0_2 : w2.cell? ⟨w.heap.size, 0, none⟩ = some (.bool true) := (by rw [b2.cell (by first | omega | (simp; done) | (simp; omega))]; go_cell)
  have a1_2 : w2.cell? ⟨w.heap.size, 1, none⟩ = some (.bool true) := (by rw [b2.cell (by first | omega | (simp; done) | (simp; omega))]; go_cell)
  have a2_2 : w2.cell? ⟨w.heap.size, 2, none⟩ = some (.int .i64 i3) := (by rw [b2.cell (by first | omega | (simp; done) | (simp; omega))]; go_cell)
  have a3_2 : w2.cell? ⟨w.heap.size, 3, none⟩ = some (.int .i64 0) := (by rw [b2.cell (by first | omega | (simp; done) | (simp; omega))]; go_cell)
  have a4_2 : w2.cell? ⟨w.heap.size, 4, none⟩ = some (.int .i64 0) := (by rw [b2.cell (by first | omega | (simp; done) | (simp; omega))]; go_cell)
  have a5_2 : w2.cell? ⟨w.heap.size, 5, none⟩ = some (.int .i64 0) := (by rw [b2.cell (by first | omega | (simp; done) | (simp; omega))]; go_cell)
  have a6_2 : w2.cell? ⟨w.heap.size, 6, none⟩ = some (.int .i64 0) := (by rw [b2.cell (by first | omega | (simp; done) | (simp; omega))]; go_cell)
  have al_2 : w.heap.size < w2.heap.size := (by have := b2.size; first | omega | (revert this; simp; done) | (revert this; simp; omega))
  clear a0_1 a1_1 a2_1 a3_1 a4_1 a5_1 a6_1 al_1
  clear b2 d2
  go_wp2_with fail
  have r0 := cell_regrown a0_2
  have r1 := cell_regrown a1_2
  have r2 := cell_regrown a2_2
  have r3 := cell_regrown a3_2
  have r4 := cell_regrown a4_2
  have r5 := cell_regrown a5_2
  have r6 := cell_regrown a6_2
  refine wp_region_quiet_below (by kernel_rfl) (by kernel_rfl) ?_
  repeat (first | go_big_quiet_skip | (go_big_quiet_want; go_big_quiet_op; first | go_big_quiet_on | go_big_quiet_call (first | (go_at_call 159; exact Calls.regrown_of (rdRight_is HK.out _)) | (go_at_call 157; exact Calls.regrown_of (rdAsked_any _ _)))))
  refine wpQuiet_nil ?_
  rintro wq ⟨pq, hwq⟩
  have hq : Below w2.heap.size w2 wq := by rw [hwq]; exact below_regrown _ _ _
  clear hwq pq
  clear r0 r1 r2 r3 r4 r5 r6
  have cq := c2.trans (hq.mono c2.size)
  go_wp2
  go_ret
  exact ⟨by simp, cq⟩
set_option maxHeartbeats 1000000 in
theorem askR_wr0 (i3 i4 i5 i6 i7 i2 : Int) (hk : opOk i4 i5 i6 i7 = false) (w : World) : Calls Tryz.prog 38 #[.agg #[.bool true, .bool false, .int .i64 i3, .int .i64 i4, .int .i64 i5, .int .i64 i6, .int .i64 i7], .int .i64 i2] w fun e w' => e = .returned (.bool false) ∧ Below w.heap.size w w' := by
  have hm := method_wrRight i4 i5 i6 i7
  have HK := hid hk
  clear hk
  go_enter Tryz.func38, Tryz.ntmps38
  go_wp2_with fail
  generalize hW1 : (w.alloc (.cells #[.bool true, .bool false, .int .i64 i3, .int .i64 i4, .int .i64 i5, .int .i64 i6, .int .i64 i7] 69)) = w1
  have a0_1 : w1.cell? ⟨w.heap.size, 0, none⟩ = some (.bool true) := by subst hW1; go_cell
  have a1_1 : w1.cell? ⟨w.heap.size, 1, none⟩ = some (.bool false) := by subst hW1; go_cell
  have a2_1 : w1.cell? ⟨w.heap.size, 2, none⟩ = some (.int .i64 i3) := by subst hW1; go_cell
  have a3_1 : w1.cell? ⟨w.heap.size, 3, none⟩ = some (.int .i64 i4) := by subst hW1; go_cell
  have a4_1 : w1.cell? ⟨w.heap.size, 4, none⟩ = some (.int .i64 i5) := by subst hW1; go_cell
  have a5_1 : w1.cell? ⟨w.heap.size, 5, none⟩ = some (.int .i64 i6) := by subst hW1; go_cell
  have a6_1 : w1.cell? ⟨w.heap.size, 6, none⟩ = some (.int .i64 i7) := by subst hW1; go_cell
  have al_1 : w.heap.size < w1.heap.size := by subst hW1; first | (simp; done) | (simp; omega)
  have c1 : Below w.heap.size w w1 := by subst hW1; go_grown
  have s1 : w1.heap.size = w.heap.size + 1 := by subst hW1; simp
  clear hW1
  have qa0_1 := cell_regrown a0_1
  have qa1_1 := cell_regrown a1_1
  have qa2_1 := cell_regrown a2_1
  have qa3_1 := cell_regrown a3_1
  have qa4_1 := cell_regrown a4_1
  have qa5_1 := cell_regrown a5_1
  have qa6_1 := cell_regrown a6_1
  refine (waitOf_wr _ _ _ _ _ _).mono ?_
  rintro e w2 ⟨rfl, b2⟩
  have d2 : Below w1.heap.size w1 w2 := (Below.trans (by go_grown) (b2.mono (by first | omega | (simp; done) | (simp; omega))))
  have c2 : Below w.heap.size w w2 := c1.trans (d2.mono c1.size)
  have a0_2 : w2.cell? ⟨w.heap.size, 0, none⟩ = some (.bool true) := (by rw [b2.cell (by first | omega | (simp; done) | (simp; omega))]; go_cell)
  have a1_2 : w2.cell? ⟨w.heap.size, 1, none⟩ = some (.bool false) := (by rw [b2.cell (by first | omega | (simp; done) | (simp; omega))]; go_cell)
  have a2_2 : w2.cell? ⟨w.heap.size, 2, none⟩ = some (.int .i64 i3) := (by rw [b2.cell (by first | omega | (simp; done) | (simp; omega))]; go_cell)
  have a3_2 : w2.cell? ⟨w.heap.size, 3, none⟩ = some (.int .i64 i4) := (by rw [b2.cell (by first | omega | (simp; done) | (simp; omega))]; go_cell)
  have a4_2 : w2.cell? ⟨w.heap.size, 4, none⟩ = some (.int .i64 i5) := (by rw [b2.cell (by first | omega | (simp; done) | (simp; omega))]; go_cell)
  have a5_2 : w2.cell? ⟨w.heap.size, 5, none⟩ = some (.int .i64 i6) := (by rw [b2.cell (by first | omega | (simp; done) | (simp; omega))]; go_cell)
  have a6_2 : w2.cell? ⟨w.heap.size, 6, none⟩ = some (.int .i64 i7) := (by rw [b2.cell (by first | omega | (simp; done) | (simp; omega))]; go_cell)
  have al_2 : w.heap.size < w2.heap.size := (by have := b2.size; first | omega | (revert this; simp; done) | (revert this; simp; omega))
  clear a0_1 a1_1 a2_1 a3_1 a4_1 a5_1 a6_1 al_1
  clear b2 d2
  go_wp2_with fail
  have r0 := cell_regrown a0_2
  have r1 := cell_regrown a1_2
  have r2 := cell_regrown a2_2
  have r3 := cell_regrown a3_2
  have r4 := cell_regrown a4_2
  have r5 := cell_regrown a5_2
  have r6 := cell_regrown a6_2
  refine wp_region_quiet_below (by kernel_rfl) (by kernel_rfl) ?_
  repeat (first | go_big_quiet_skip | (go_big_quiet_want; go_big_quiet_op; first | go_big_quiet_on | go_big_quiet_call (first | (go_at_call 162; exact Calls.regrown_of (wrRight_is HK.out _)))))
  refine wpQuiet_nil ?_
  rintro wq ⟨pq, hwq⟩
  have hq : Below w2.heap.size w2 wq := by rw [hwq]; exact below_regrown _ _ _
  clear hwq pq
  clear r0 r1 r2 r3 r4 r5 r6
  have cq := c2.trans (hq.mono c2.size)
  go_wp2
  go_ret
  exact ⟨by simp, cq⟩
set_option maxHeartbeats 1000000 in
theorem askR_wr1 (i3 i4 i5 i6 i7 i2 : Int) (hk : opOk i4 i5 i6 i7 = true) (hs : ¬ i3 = 0) (w : World) : Calls Tryz.prog 38 #[.agg #[.bool true, .bool false, .int .i64 i3, .int .i64 i4, .int .i64 i5, .int .i64 i6, .int .i64 i7], .int .i64 i2] w fun e w' => e = .returned (.bool false) ∧ Below w.heap.size w w' := by
  have hm := method_wrRight i4 i5 i6 i7
  have hm2 := method_wrAsked i4 i5 i6 i7
  have HK := hid hk
  have hsame := fun W => sameA_is (q2 := true) (q3 := false) (p2 := true) (p3 := false) (i3 := 0) (j3 := i3) (i4 := i4) (i5 := i5) (i6 := i6) (i7 := i7) (j4 := i4) (j5 := i5) (j6 := i6) (j7 := i7) (r := false) (by simp only [Bool.false_eq_true, iff_false]; intro h; exact hs h.2.2.1.symm) W
  clear hs hk
  go_enter Tryz.func38, Tryz.ntmps38
  go_wp2_with fail
  generalize hW1 : (w.alloc (.cells #[.bool true, .bool false, .int .i64 i3, .int .i64 i4, .int .i64 i5, .int .i64 i6, .int .i64 i7] 69)) = w1
  have a0_1 : w1.cell? ⟨w.heap.size, 0, none⟩ = some (.bool true) := by subst hW1; go_cell
  have a1_1 : w1.cell? ⟨w.heap.size, 1, none⟩ = some (.bool false) := by subst hW1; go_cell
  have a2_1 : w1.cell? ⟨w.heap.size, 2, none⟩ = some (.int .i64 i3) := by subst hW1; go_cell
  have a3_1 : w1.cell? ⟨w.heap.size, 3, none⟩ = some (.int .i64 i4) := by subst hW1; go_cell
  have a4_1 : w1.cell? ⟨w.heap.size, 4, none⟩ = some (.int .i64 i5) := by subst hW1; go_cell
  have a5_1 : w1.cell? ⟨w.heap.size, 5, none⟩ = some (.int .i64 i6) := by subst hW1; go_cell
  have a6_1 : w1.cell? ⟨w.heap.size, 6, none⟩ = some (.int .i64 i7) := by subst hW1; go_cell
  have al_1 : w.heap.size < w1.heap.size := by subst hW1; first | (simp; done) | (simp; omega)
  have c1 : Below w.heap.size w w1 := by subst hW1; go_grown
  have s1 : w1.heap.size = w.heap.size + 1 := by subst hW1; simp
  clear hW1
  have qa0_1 := cell_regrown a0_1
  have qa1_1 := cell_regrown a1_1
  have qa2_1 := cell_regrown a2_1
  have qa3_1 := cell_regrown a3_1
  have qa4_1 := cell_regrown a4_1
  have qa5_1 := cell_regrown a5_1
  have qa6_1 := cell_regrown a6_1
  refine (waitOf_wr _ _ _ _ _ _).mono ?_
  rintro e w2 ⟨rfl, b2⟩
  have d2 : Below w1.heap.size w1 w2 := (Below.trans (by go_grown) (b2.mono (by first | omega | (simp; done) | (simp; omega))))
  have c2 : Below w.heap.size w w2 := c1.trans (d2.mono c1.size)
  have a0_2 : w2.cell? ⟨w.heap.size, 0, none⟩ = some (.bool true) := (by rw [b2.cell (by first | omega | (simp; done) | (simp; omega))]; go_cell)
  have a1_2 : w2.cell? ⟨w.heap.size, 1, none⟩ = some (.bool false) := (by rw [b2.cell (by first | omega | (simp; done) | (simp; omega))]; go_cell)
  have a2_2 : w2.cell? ⟨w.heap.size, 2, none⟩ = some (.int .i64 i3) := (by rw [b2.cell (by first | omega | (simp; done) | (simp; omega))]; go_cell)
  have a3_2 : w2.cell? ⟨w.heap.size, 3, none⟩ = some (.int .i64 i4) := (by rw [b2.cell (by first | omega | (simp; done) | (simp; omega))]; go_cell)
  have a4_2 : w2.cell? ⟨w.heap.size, 4, none⟩ = some (.int .i64 i5) := (by rw [b2.cell (by first | omega | (simp; done) | (simp; omega))]; go_cell)
  have a5_2 : w2.cell? ⟨w.heap.size, 5, none⟩ = some (.int .i64 i6) := (by rw [b2.cell (by first | omega | (simp; done) | (simp; omega))]; go_cell)
  have a6_2 : w2.cell? ⟨w.heap.size, 6, none⟩ = some (.int .i64 i7) := (by rw [b2.cell (by first | omega | (simp; done) | (simp; omega))]; go_cell)
  have al_2 : w.heap.size < w2.heap.size := (by have := b2.size; first | omega | (revert this; simp; done) | (revert this; simp; omega))
  clear a0_1 a1_1 a2_1 a3_1 a4_1 a5_1 a6_1 al_1
  clear b2 d2
  go_wp2_with fail
  have r0 := cell_regrown a0_2
  have r1 := cell_regrown a1_2
  have r2 := cell_regrown a2_2
  have r3 := cell_regrown a3_2
  have r4 := cell_regrown a4_2
  have r5 := cell_regrown a5_2
  have r6 := cell_regrown a6_2
  refine wp_region_quiet_below (by kernel_rfl) (by kernel_rfl) ?_
  repeat (first | go_big_quiet_skip | (go_big_quiet_want; go_big_quiet_op; first | go_big_quiet_on | go_big_quiet_call (first | (go_at_call 162; exact Calls.regrown_of (wrRight_is HK.out _)) | (go_at_call 160; exact Calls.regrown_of (wrAsked_any _ _ _ _ _)))))
  refine wpQuiet_nil ?_
  rintro wq ⟨pq, hwq⟩
  have hq : Below w2.heap.size w2 wq := by rw [hwq]; exact below_regrown _ _ _
  clear hwq pq
  clear r0 r1 r2 r3 r4 r5 r6
  have cq := c2.trans (hq.mono c2.size)
  go_wp2
  go_ret
  exact ⟨by simp, cq⟩
set_option maxHeartbeats 1000000 in
theorem askR_wr2 (i4 i5 i6 i7 i2 : Int) (hk : opOk i4 i5 i6 i7 = true) (h2 : decide (i2 > 0) = true) (w : World) : Calls Tryz.prog 38 #[.agg #[.bool true, .bool false, .int .i64 0, .int .i64 i4, .int .i64 i5, .int .i64 i6, .int .i64 i7], .int .i64 i2] w fun e w' => e = .returned (.bool true) ∧ Below w.heap.size w w' := by
  have hm := method_wrRight i4 i5 i6 i7
  have hm2 := method_wrAsked i4 i5 i6 i7
  have HK := hid hk
  have hsame := fun W => sameA_is (q2 := true) (q3 := false) (p2 := true) (p3 := false) (i3 := 0) (j3 := 0) (i4 := i4) (i5 := i5) (i6 := i6) (i7 := i7) (j4 := i4) (j5 := i5) (j6 := i6) (j7 := i7) (r := true) (by simp) W
  clear hk
  go_enter Tryz.func38, Tryz.ntmps38
  go_wp2_with fail
  generalize hW1 : (w.alloc (.cells #[.bool true, .bool false, .int .i64 0, .int .i64 i4, .int .i64 i5, .int .i64 i6, .int .i64 i7] 69)) = w1
  have a0_1 : w1.cell? ⟨w.heap.size, 0, none⟩ = some (.bool true) := by subst hW1; go_cell
  have a1_1 : w1.cell? ⟨w.heap.size, 1, none⟩ = some (.bool false) := by subst hW1; go_cell
  have a2_1 : w1.cell? ⟨w.heap.size, 2, none⟩ = some (.int .i64 0) := by subst hW1; go_cell
  have a3_1 : w1.cell? ⟨w.heap.size, 3, none⟩ = some (.int .i64 i4) := by subst hW1; go_cell
  have a4_1 : w1.cell? ⟨w.heap.size, 4, none⟩ = some (.int .i64 i5) := by subst hW1; go_cell
  have a5_1 : w1.cell? ⟨w.heap.size, 5, none⟩ = some (.int .i64 i6) := by subst hW1; go_cell
  have a6_1 : w1.cell? ⟨w.heap.size, 6, none⟩ = some (.int .i64 i7) := by subst hW1; go_cell
  have al_1 : w.heap.size < w1.heap.size := by subst hW1; first | (simp; done) | (simp; omega)
  have c1 : Below w.heap.size w w1 := by subst hW1; go_grown
  have s1 : w1.heap.size = w.heap.size + 1 := by subst hW1; simp
  clear hW1
  have qa0_1 := cell_regrown a0_1
  have qa1_1 := cell_regrown a1_1
  have qa2_1 := cell_regrown a2_1
  have qa3_1 := cell_regrown a3_1
  have qa4_1 := cell_regrown a4_1
  have qa5_1 := cell_regrown a5_1
  have qa6_1 := cell_regrown a6_1
  refine (waitOf_wr _ _ _ _ _ _).mono ?_
  rintro e w2 ⟨rfl, b2⟩
  have d2 : Below w1.heap.size w1 w2 := (Below.trans (by go_grown) (b2.mono (by first | omega | (simp; done) | (simp; omega))))
  have c2 : Below w.heap.size w w2 := c1.trans (d2.mono c1.size)
  have a0_2 : w2.cell? ⟨w.heap.size, 0, none⟩ = some (.bool true) := (by rw [b2.cell (by first | omega | (simp; done) | (simp; omega))]; go_cell)
  have a1_2 : w2.cell? ⟨w.heap.size, 1, none⟩ = some (.bool false) := (by rw [b2.cell (by first | omega | (simp; done) | (simp; omega))]; go_cell)
  have a2_2 : w2.cell? ⟨w.heap.size, 2, none⟩ = some (.int .i64 0) := (by rw [b2.cell (by first | omega | (simp; done) | (simp; omega))]; go_cell)
  have a3_2 : w2.cell? ⟨w.heap.size, 3, none⟩ = some (.int .i64 i4) := (by rw [b2.cell (by first | omega | (simp; done) | (simp; omega))]; go_cell)
  have a4_2 : w2.cell? ⟨w.heap.size, 4, none⟩ = some (.int .i64 i5) := (by rw [b2.cell (by first | omega | (simp; done) | (simp; omega))]; go_cell)
  have a5_2 : w2.cell? ⟨w.heap.size, 5, none⟩ = some (.int .i64 i6) := (by rw [b2.cell (by first | omega | (simp; done) | (simp; omega))]; go_cell)
  have a6_2 : w2.cell? ⟨w.heap.size, 6, none⟩ = some (.int .i64 i7) := (by rw [b2.cell (by first | omega | (simp; done) | (simp; omega))]; go_cell)
  have al_2 : w.heap.size < w2.heap.size := (by have := b2.size; first | omega | (revert this; simp; done) | (revert this; simp; omega))
  clear a0_1 a1_1 a2_1 a3_1 a4_1 a5_1 a6_1 al_1
  clear b2 d2
  go_wp2_with fail
  have r0 := cell_regrown a0_2
  have r1 := cell_regrown a1_2
  have r2 := cell_regrown a2_2
  have r3 := cell_regrown a3_2
  have r4 := cell_regrown a4_2
  have r5 := cell_regrown a5_2
  have r6 := cell_regrown a6_2
  refine wp_region_quiet_below (by kernel_rfl) (by kernel_rfl) ?_
  repeat (first | go_big_quiet_skip | (go_big_quiet_want; go_big_quiet_op; first | go_big_quiet_on | go_big_quiet_call (first | (go_at_call 162; exact Calls.regrown_of (wrRight_is HK.out _)) | (go_at_call 160; exact Calls.regrown_of (wrAsked_any _ _ _ _ _)))))
  refine wpQuiet_nil ?_
  rintro wq ⟨pq, hwq⟩
  have hq : Below w2.heap.size w2 wq := by rw [hwq]; exact below_regrown _ _ _
  clear hwq pq
  clear r0 r1 r2 r3 r4 r5 r6
  have cq := c2.trans (hq.mono c2.size)
  go_wp2
  go_ret
  exact ⟨by simp, cq⟩
set_option maxHeartbeats 1000000 in
theorem askR_wr3 (i4 i5 i6 i7 i2 : Int) (hk : opOk i4 i5 i6 i7 = true) (h2 : decide (i2 > 0) = false) (w : World) : Calls Tryz.prog 38 #[.agg #[.bool true, .bool false, .int .i64 0, .int .i64 i4, .int .i64 i5, .int .i64 i6, .int .i64 i7], .int .i64 i2] w fun e w' => e = .returned (.bool false) ∧ Below w.heap.size w w' := by
  have hm := method_wrRight i4 i5 i6 i7
  have hm2 := method_wrAsked i4 i5 i6 i7
  have HK := hid hk
  have hsame := fun W => sameA_is (q2 := true) (q3 := false) (p2 := true) (p3 := false) (i3 := 0) (j3 := 0) (i4 := i4) (i5 := i5) (i6 := i6) (i7 := i7) (j4 := i4) (j5 := i5) (j6 := i6) (j7 := i7) (r := true) (by simp) W
  clear hk
  go_enter Tryz.func38, Tryz.ntmps38
  go_wp2_with fail
  generalize hW1 : (w.alloc (.cells #[.bool true, .bool false, .int .i64 0, .int .i64 i4, .int .i64 i5, .int .i64 i6, .int .i64 i7] 69)) = w1
  have a0_1 : w1.cell? ⟨w.heap.size, 0, none⟩ = some (.bool true) := by subst hW1; go_cell
  have a1_1 : w1.cell? ⟨w.heap.size, 1, none⟩ = some (.bool false) := by subst hW1; go_cell
  have a2_1 : w1.cell? ⟨w.heap.size, 2, none⟩ = some (.int .i64 0) := by subst hW1; go_cell
  have a3_1 : w1.cell? ⟨w.heap.size, 3, none⟩ = some (.int .i64 i4) := by subst hW1; go_cell
  have a4_1 : w1.cell? ⟨w.heap.size, 4, none⟩ = some (.int .i64 i5) := by subst hW1; go_cell
  have a5_1 : w1.cell? ⟨w.heap.size, 5, none⟩ = some (.int .i64 i6) := by subst hW1; go_cell
  have a6_1 : w1.cell? ⟨w.heap.size, 6, none⟩ = some (.int .i64 i7) := by subst hW1; go_cell
  have al_1 : w.heap.size < w1.heap.size := by subst hW1; first | (simp; done) | (simp; omega)
  have c1 : Below w.heap.size w w1 := by subst hW1; go_grown
  have s1 : w1.heap.size = w.heap.size + 1 := by subst hW1; simp
  clear hW1
  have qa0_1 := cell_regrown a0_1
  have qa1_1 := cell_regrown a1_1
  have qa2_1 := cell_regrown a2_1
  have qa3_1 := cell_regrown a3_1
  have qa4_1 := cell_regrown a4_1
  have qa5_1 := cell_regrown a5_1
  have qa6_1 := cell_regrown a6_1
  refine (waitOf_wr _ _ _ _ _ _).mono ?_
  rintro e w2 ⟨rfl, b2⟩
  have d2 : Below w1.heap.size w1 w2 := (Below.trans (by go_grown) (b2.mono (by first | omega | (simp; done) | (simp; omega))))
  have c2 : Below w.heap.size w w2 := c1.trans (d2.mono c1.size)
  have a0_2 : w2.cell? ⟨w.heap.size, 0, none⟩ = some (.bool true) := (by rw [b2.cell (by first | omega | (simp; done) | (simp; omega))]; go_cell)
  have a1_2 : w2.cell? ⟨w.heap.size, 1, none⟩ = some (.bool false) := (by rw [b2.cell (by first | omega | (simp; done) | (simp; omega))]; go_cell)
  have a2_2 : w2.cell? ⟨w.heap.size, 2, none⟩ = some (.int .i64 0) := (by rw [b2.cell (by first | omega | (simp; done) | (simp; omega))]; go_cell)
  have a3_2 : w2.cell? ⟨w.heap.size, 3, none⟩ = some (.int .i64 i4) := (by rw [b2.cell (by first | omega | (simp; done) | (simp; omega))]; go_cell)
  have a4_2 : w2.cell? ⟨w.heap.size, 4, none⟩ = some (.int .i64 i5) := (by rw [b2.cell (by first | omega | (simp; done) | (simp; omega))]; go_cell)
  have a5_2 : w2.cell? ⟨w.heap.size, 5, none⟩ = some (.int .i64 i6) := (by rw [b2.cell (by first | omega | (simp; done) | (simp; omega))]; go_cell)
  have a6_2 : w2.cell? ⟨w.heap.size, 6, none⟩ = some (.int .i64 i7) := (by rw [b2.cell (by first | omega | (simp; done) | (simp; omega))]; go_cell)
  have al_2 : w.heap.size < w2.heap.size := (by have := b2.size; first | omega | (revert this; simp; done) | (revert this; simp; omega))
  clear a0_1 a1_1 a2_1 a3_1 a4_1 a5_1 a6_1 al_1
  clear b2 d2
  go_wp2_with fail
  have r0 := cell_regrown a0_2
  have r1 := cell_regrown a1_2
  have r2 := cell_regrown a2_2
  have r3 := cell_regrown a3_2
  have r4 := cell_regrown a4_2
  have r5 := cell_regrown a5_2
  have r6 := cell_regrown a6_2
  refine wp_region_quiet_below (by kernel_rfl) (by kernel_rfl) ?_
  repeat (first | go_big_quiet_skip | (go_big_quiet_want; go_big_quiet_op; first | go_big_quiet_on | go_big_quiet_call (first | (go_at_call 162; exact Calls.regrown_of (wrRight_is HK.out _)) | (go_at_call 160; exact Calls.regrown_of (wrAsked_any _ _ _ _ _)))))
  refine wpQuiet_nil ?_
  rintro wq ⟨pq, hwq⟩
  have hq : Below w2.heap.size w2 wq := by rw [hwq]; exact below_regrown _ _ _
  clear hwq pq
  clear r0 r1 r2 r3 r4 r5 r6
  have cq := c2.trans (hq.mono c2.size)
  go_wp2
  go_ret
  exact ⟨by simp, cq⟩
set_option maxHeartbeats 1000000 in
theorem askR_no1 (i3 i4 i5 i6 i7 i2 : Int) (hs : ¬ (i3 = 0 ∧ i4 = 0 ∧ i5 = 0 ∧ i6 = 0 ∧ i7 = 0)) (w : World) : Calls Tryz.prog 38 #[.agg #[.bool false, .bool false, .int .i64 i3, .int .i64 i4, .int .i64 i5, .int .i64 i6, .int .i64 i7], .int .i64 i2] w fun e w' => e = .returned (.bool false) ∧ Below w.heap.size w w' := by
  have hm := method_noRightW
  have hm2 := method_noAsked
  have hsame := fun W => sameA_is (q2 := false) (q3 := false) (p2 := false) (p3 := false) (i3 := 0) (j3 := i3) (i4 := 0) (i5 := 0) (i6 := 0) (i7 := 0) (j4 := i4) (j5 := i5) (j6 := i6) (j7 := i7) (r := false) (by simp only [Bool.false_eq_true, iff_false]; intro h; exact hs ⟨h.2.2.1.symm, h.2.2.2.1.symm, h.2.2.2.2.1.symm, h.2.2.2.2.2.1.symm, h.2.2.2.2.2.2.symm⟩) W
  clear hs
  go_enter Tryz.func38, Tryz.ntmps38
  go_wp2_with fail
  generalize hW1 : (w.alloc (.cells #[.bool false, .bool false, .int .i64 i3, .int .i64 i4, .int .i64 i5, .int .i64 i6, .int .i64 i7] 69)) = w1
  have a0_1 : w1.cell? ⟨w.heap.size, 0, none⟩ = some (.bool false) := by subst hW1; go_cell
  have a1_1 : w1.cell? ⟨w.heap.size, 1, none⟩ = some (.bool false) := by subst hW1; go_cell
  have a2_1 : w1.cell? ⟨w.heap.size, 2, none⟩ = some (.int .i64 i3) := by subst hW1; go_cell
  have a3_1 : w1.cell? ⟨w.heap.size, 3, none⟩ = some (.int .i64 i4) := by subst hW1; go_cell
  have a4_1 : w1.cell? ⟨w.heap.size, 4, none⟩ = some (.int .i64 i5) := by subst hW1; go_cell
  have a5_1 : w1.cell? ⟨w.heap.size, 5, none⟩ = some (.int .i64 i6) := by subst hW1; go_cell
  have a6_1 : w1.cell? ⟨w.heap.size, 6, none⟩ = some (.int .i64 i7) := by subst hW1; go_cell
  have al_1 : w.heap.size < w1.heap.size := by subst hW1; first | (simp; done) | (simp; omega)
  have c1 : Below w.heap.size w w1 := by subst hW1; go_grown
  have s1 : w1.heap.size = w.heap.size + 1 := by subst hW1; simp
  clear hW1
  have qa0_1 := cell_regrown a0_1
  have qa1_1 := cell_regrown a1_1
  have qa2_1 := cell_regrown a2_1
  have qa3_1 := cell_regrown a3_1
  have qa4_1 := cell_regrown a4_1
  have qa5_1 := cell_regrown a5_1
  have qa6_1 := cell_regrown a6_1
  refine (waitOf_no _ _ _ _ _ _).mono ?_
  rintro e w2 ⟨rfl, b2⟩
  have d2 : Below w1.heap.size w1 w2 := (Below.trans (by go_grown) (b2.mono (by first | omega | (simp; done) | (simp; omega))))
  have c2 : Below w.heap.size w w2 := c1.trans (d2.mono c1.size)
  have a0_2 : w2.cell? ⟨w.heap.size, 0, none⟩ = some (.bool false) := (by rw [b2.cell (by first | omega | (simp; done) | (simp; omega))]; go_cell)
  have a1_2 : w2.cell? ⟨w.heap.size, 1, none⟩ = some (.bool false) := (by rw [b2.cell (by first | omega | (simp; done) | (simp; omega))]; go_cell)
  have a2_2 : w2.cell? ⟨w.heap.size, 2, none⟩ = some (.int .i64 i3) := (by rw [b2.cell (by first | omega | (simp; done) | (simp; omega))]; go_cell)
  have a3_2 : w2.cell? ⟨w.heap.size, 3, none⟩ = some (.int .i64 i4) := (by rw [b2.cell (by first | omega | (simp; done) | (simp; omega))]; go_cell)
  have a4_2 : w2.cell? ⟨w.heap.size, 4, none⟩ = some (.int .i64 i5) := (by rw [b2.cell (by first | omega | (simp; done) | (simp; omega))]; go_cell)
  have a5_2 : w2.cell? ⟨w.heap.size, 5, none⟩ = some (.int .i64 i6) := (by rw [b2.cell (by first | omega | (simp; done) | (simp; omega))]; go_cell)
  have a6_2 : w2.cell? ⟨w.heap.size, 6, none⟩ = some (.int .i64 i7) := (by rw [b2.cell (by first | omega | (simp; done) | (simp; omega))]; go_cell)
  have al_2 : w.heap.size < w2.heap.size := (by have := b2.size; first | omega | (revert this; simp; done) | (revert this; simp; omega))
  clear a0_1 a1_1 a2_1 a3_1 a4_1 a5_1 a6_1 al_1
  clear b2 d2
  go_wp2_with fail
  have r0 := cell_regrown a0_2
  have r1 := cell_regrown a1_2
  have r2 := cell_regrown a2_2
  have r3 := cell_regrown a3_2
  have r4 := cell_regrown a4_2
  have r5 := cell_regrown a5_2
  have r6 := cell_regrown a6_2
  refine wp_region_quiet_below (by kernel_rfl) (by kernel_rfl) ?_
  repeat (first | go_big_quiet_skip | (go_big_quiet_want; go_big_quiet_op; first | go_big_quiet_on | go_big_quiet_call (first | (go_at_call 169; exact Calls.regrown_of (noRight_yes _)) | (go_at_call 167; exact Calls.regrown_of (noAsked_any _)))))
  refine wpQuiet_nil ?_
  rintro wq ⟨pq, hwq⟩
  have hq : Below w2.heap.size w2 wq := by rw [hwq]; exact below_regrown _ _ _
  clear hwq pq
  clear r0 r1 r2 r3 r4 r5 r6
  have cq := c2.trans (hq.mono c2.size)
  go_wp2
  go_ret
  exact ⟨by simp, cq⟩
set_option maxHeartbeats 1000000 in
theorem askR_no2 (i2 : Int) (h2 : decide (i2 > 0) = true) (w : World) : Calls Tryz.prog 38 #[.agg #[.bool false, .bool false, .int .i64 0, .int .i64 0, .int .i64 0, .int .i64 0, .int .i64 0], .int .i64 i2] w fun e w' => e = .returned (.bool true) ∧ Below w.heap.size w w' := by
  have hm := method_noRightW
  have hm2 := method_noAsked
  have hsame := fun W => sameA_is (q2 := false) (q3 := false) (p2 := false) (p3 := false) (i3 := 0) (j3 := 0) (i4 := 0) (i5 := 0) (i6 := 0) (i7 := 0) (j4 := 0) (j5 := 0) (j6 := 0) (j7 := 0) (r := true) (by simp) W
  go_enter Tryz.func38, Tryz.ntmps38
  go_wp2_with fail
  generalize hW1 : (w.alloc (.cells #[.bool false, .bool false, .int .i64 0, .int .i64 0, .int .i64 0, .int .i64 0, .int .i64 0] 69)) = w1
  have a0_1 : w1.cell? ⟨w.heap.size, 0, none⟩ = some (.bool false) := by subst hW1; go_cell
  have a1_1 : w1.cell? ⟨w.heap.size, 1, none⟩ = some (.bool false) := by subst hW1; go_cell
  have a2_1 : w1.cell? ⟨w.heap.size, 2, none⟩ = some (.int .i64 0) := by subst hW1; go_cell
  have a3_1 : w1.cell? ⟨w.heap.size, 3, none⟩ = some (.int .i64 0) := by subst hW1; go_cell
  have a4_1 : w1.cell? ⟨w.heap.size, 4, none⟩ = some (.int .i64 0) := by subst hW1; go_cell
  have a5_1 : w1.cell? ⟨w.heap.size, 5, none⟩ = some (.int .i64 0) := by subst hW1; go_cell
  have a6_1 : w1.cell? ⟨w.heap.size, 6, none⟩ = some (.int .i64 0) := by subst hW1; go_cell
  have al_1 : w.heap.size < w1.heap.size := by subst hW1; first | (simp; done) | (simp; omega)
  have c1 : Below w.heap.size w w1 := by subst hW1; go_grown
  have s1 : w1.heap.size = w.heap.size + 1 := by subst hW1; simp
  clear hW1
  have qa0_1 := cell_regrown a0_1
  have qa1_1 := cell_regrown a1_1
  have qa2_1 := cell_regrown a2_1
  have qa3_1 := cell_regrown a3_1
  have qa4_1 := cell_regrown a4_1
  have qa5_1 := cell_regrown a5_1
  have qa6_1 := cell_regrown a6_1
  refine (waitOf_no _ _ _ _ _ _).mono ?_
  rintro e w2 ⟨rfl, b2⟩
  have d2 : Below w1.heap.size w1 w2 := (Below.trans (by go_grown) (b2.mono (by first | omega | (simp; done) | (simp; omega))))
  have c2 : Below w.heap.size w w2 := c1.trans (d2.mono c1.size)
  have a0_2 : w2.cell? ⟨w.heap.size, 0, none⟩ = some (.bool false) := (by rw [b2.cell (by first | omega | (simp; done) | (simp; omega))]; go_cell)
  have a1_2 : w2.cell? ⟨w.heap.size, 1, none⟩ = some (.bool false) := (by rw [b2.cell (by first | omega | (simp; done) | (simp; omega))]; go_cell)
  have a2_2 : w2.cell? ⟨w.heap.size, 2, none⟩ = some (.int .i64 0) := (by rw [b2.cell (by first | omega | (simp; done) | (simp; omega))]; go_cell)
  have a3_2 : w2.cell? ⟨w.heap.size, 3, none⟩ = some (.int .i64 0) := (by rw [b2.cell (by first | omega | (simp; done) | (simp; omega))]; go_cell)
  have a4_2 : w2.cell? ⟨w.heap.size, 4, none⟩ = some (.int .i64 0) := (by rw [b2.cell (by first | omega | (simp; done) | (simp; omega))]; go_cell)
  have a5_2 : w2.cell? ⟨w.heap.size, 5, none⟩ = some (.int .i64 0) := (by rw [b2.cell (by first | omega | (simp; done) | (simp; omega))]; go_cell)
  have a6_2 : w2.cell? ⟨w.heap.size, 6, none⟩ = some (.int .i64 0) := (by rw [b2.cell (by first | omega | (simp; done) | (simp; omega))]; go_cell)
  have al_2 : w.heap.size < w2.heap.size := (by have := b2.size; first | omega | (revert this; simp; done) | (revert this; simp; omega))
  clear a0_1 a1_1 a2_1 a3_1 a4_1 a5_1 a6_1 al_1
  clear b2 d2
  go_wp2_with fail
  have r0 := cell_regrown a0_2
  have r1 := cell_regrown a1_2
  have r2 := cell_regrown a2_2
  have r3 := cell_regrown a3_2
  have r4 := cell_regrown a4_2
  have r5 := cell_regrown a5_2
  have r6 := cell_regrown a6_2
  refine wp_region_quiet_below (by kernel_rfl) (by kernel_rfl) ?_
  repeat (first | go_big_quiet_skip | (go_big_quiet_want; go_big_quiet_op; first | go_big_quiet_on | go_big_quiet_call (first | (go_at_call 169; exact Calls.regrown_of (noRight_yes _)) | (go_at_call 167; exact Calls.regrown_of (noAsked_any _)))))
  refine wpQuiet_nil ?_
  rintro wq ⟨pq, hwq⟩
  have hq : Below w2.heap.size w2 wq := by rw [hwq]; exact below_regrown _ _ _
  clear hwq pq
  clear r0 r1 r2 r3 r4 r5 r6
  have cq := c2.trans (hq.mono c2.size)
  go_wp2
  go_ret
  exact ⟨by simp, cq⟩
set_option maxHeartbeats 1000000 in
theorem askR_no3 (i2 : Int) (h2 : decide (i2 > 0) = false) (w : World) : Calls Tryz.prog 38 #[.agg #[.bool false, .bool false, .int .i64 0, .int .i64 0, .int .i64 0, .int .i64 0, .int .i64 0], .int .i64 i2] w fun e w' => e = .returned (.bool true) ∧ Below w.heap.size w w' := by
  have hm := method_noRightW
  have hm2 := method_noAsked
  have hsame := fun W => sameA_is (q2 := false) (q3 := false) (p2 := false) (p3 := false) (i3 := 0) (j3 := 0) (i4 := 0) (i5 := 0) (i6 := 0) (i7 := 0) (j4 := 0) (j5 := 0) (j6 := 0) (j7 := 0) (r := true) (by simp) W
  go_enter Tryz.func38, Tryz.ntmps38
  go_wp2_with fail
  generalize hW1 : (w.alloc (.cells #[.bool false, .bool false, .int .i64 0, .int .i64 0, .int .i64 0, .int .i64 0, .int .i64 0] 69)) = w1
  have a0_1 : w1.cell? ⟨w.heap.size, 0, none⟩ = some (.bool false) := by subst hW1; go_cell
  have a1_1 : w1.cell? ⟨w.heap.size, 1, none⟩ = some (.bool false) := by subst hW1; go_cell
  have a2_1 : w1.cell? ⟨w.heap.size, 2, none⟩ = some (.int .i64 0) := by subst hW1; go_cell
  have a3_1 : w1.cell? ⟨w.heap.size, 3, none⟩ = some (.int .i64 0) := by subst hW1; go_cell
  have a4_1 : w1.cell? ⟨w.heap.size, 4, none⟩ = some (.int .i64 0) := by subst hW1; go_cell
  have a5_1 : w1.cell? ⟨w.heap.size, 5, none⟩ = some (.int .i64 0) := by subst hW1; go_cell
  have a6_1 : w1.cell? ⟨w.heap.size, 6, none⟩ = some (.int .i64 0) := by subst hW1; go_cell
  have al_1 : w.heap.size < w1.heap.size := by subst hW1; first | (simp; done) | (simp; omega)
  have c1 : Below w.heap.size w w1 := by subst hW1; go_grown
  have s1 : w1.heap.size = w.heap.size + 1 := by subst hW1; simp
  clear hW1
  have qa0_1 := cell_regrown a0_1
  have qa1_1 := cell_regrown a1_1
  have qa2_1 := cell_regrown a2_1
  have qa3_1 := cell_regrown a3_1
  have qa4_1 := cell_regrown a4_1
  have qa5_1 := cell_regrown a5_1
  have qa6_1 := cell_regrown a6_1
  refine (waitOf_no _ _ _ _ _ _).mono ?_
  rintro e w2 ⟨rfl, b2⟩
  have d2 : Below w1.heap.size w1 w2 := (Below.trans (by go_grown) (b2.mono (by first | omega | (simp; done) | (simp; omega))))
  have c2 : Below w.heap.size w w2 := c1.trans (d2.mono c1.size)
  have a0_2 : w2.cell? ⟨w.heap.size, 0, none⟩ = some (.bool false) := (by rw [b2.cell (by first | omega | (simp; done) | (simp; omega))]; go_cell)
  have a1_2 : w2.cell? ⟨w.heap.size, 1, none⟩ = some (.bool false) := (by rw [b2.cell (by first | omega | (simp; done) | (simp; omega))]; go_cell)
  have a2_2 : w2.cell? ⟨w.heap.size, 2, none⟩ = some (.int .i64 0) := (by rw [b2.cell (by first | omega | (simp; done) | (simp; omega))]; go_cell)
  have a3_2 : w2.cell? ⟨w.heap.size, 3, none⟩ = some (.int .i64 0) := (by rw [b2.cell (by first | omega | (simp; done) | (simp; omega))]; go_cell)
  have a4_2 : w2.cell? ⟨w.heap.size, 4, none⟩ = some (.int .i64 0) := (by rw [b2.cell (by first | omega | (simp; done) | (simp; omega))]; go_cell)
  have a5_2 : w2.cell? ⟨w.heap.size, 5, none⟩ = some (.int .i64 0) := (by rw [b2.cell (by first | omega | (simp; done) | (simp; omega))]; go_cell)
  have a6_2 : w2.cell? ⟨w.heap.size, 6, none⟩ = some (.int .i64 0) := (by rw [b2.cell (by first | omega | (simp; done) | (simp; omega))]; go_cell)
  have al_2 : w.heap.size < w2.heap.size := (by have := b2.size; first | omega | (revert this; simp; done) | (revert this; simp; omega))
  clear a0_1 a1_1 a2_1 a3_1 a4_1 a5_1 a6_1 al_1
  clear b2 d2
  go_wp2_with fail
  have r0 := cell_regrown a0_2
  have r1 := cell_regrown a1_2
  have r2 := cell_regrown a2_2
  have r3 := cell_regrown a3_2
  have r4 := cell_regrown a4_2
  have r5 := cell_regrown a5_2
  have r6 := cell_regrown a6_2
  refine wp_region_quiet_below (by kernel_rfl) (by kernel_rfl) ?_
  repeat (first | go_big_quiet_skip | (go_big_quiet_want; go_big_quiet_op; first | go_big_quiet_on | go_big_quiet_call (first | (go_at_call 169; exact Calls.regrown_of (noRight_yes _)) | (go_at_call 167; exact Calls.regrown_of (noAsked_any _)))))
  refine wpQuiet_nil ?_
  rintro wq ⟨pq, hwq⟩
  have hq : Below w2.heap.size w2 wq := by rw [hwq]; exact below_regrown _ _ _
  clear hwq pq
  clear r0 r1 r2 r3 r4 r5 r6
  have cq := c2.trans (hq.mono c2.size)
  go_wp2
  go_ret
  exact ⟨by simp, cq⟩
theorem gt_dec (i2 : Int) (h : 0 < i2) : decide (i2 > 0) = true := decide_eq_true h
theorem askR_any (q2 q3 : Bool) (i3 i4 i5 i6 i7 : Int) (i2 : Int) (w : World) : Calls Tryz.prog 38 #[.agg #[.bool q2, .bool q3, .int .i64 i3, .int .i64 i4, .int .i64 i5, .int .i64 i6, .int .i64 i7], .int .i64 i2] w fun e w' => e = .returned (.bool (askR q2 q3 i3 i4 i5 i6 i7 i2)) ∧ Below w.heap.size w w' := by
  cases q3 with
  | true =>
    cases hk : keyIn i3 with
    | false =>
      have e : askR q2 true i3 i4 i5 i6 i7 i2 = false := by simp [askR, hk]
      rw [e]; exact askR_rd0 _ _ _ _ _ _ _ hk w
    | true =>
      by_cases hs : q2 = true ∧ i4 = 0 ∧ i5 = 0 ∧ i6 = 0 ∧ i7 = 0
      · obtain ⟨rfl, rfl, rfl, rfl, rfl⟩ := hs
        cases h2 : decide (i2 > 0) with
        | true =>
          have e : askR true true i3 0 0 0 0 i2 = true := by have := of_decide_eq_true h2; simp [askR, hk, zO]; omega
          rw [e]; exact askR_rd2 _ _ hk h2 w
        | false =>
          have e : askR true true i3 0 0 0 0 i2 = false := by have := of_decide_eq_false h2; simp [askR, hk, zO]; omega
          rw [e]; exact askR_rd3 _ _ hk h2 w
      · have e : askR q2 true i3 i4 i5 i6 i7 i2 = false := by
          cases hz : zO i4 i5 i6 i7 with
          | false => simp [askR, hz]
          | true =>
            cases q2 with
            | false => simp [askR]
            | true => exact absurd ⟨rfl, zO_yes hz⟩ hs
        rw [e]; exact askR_rd1 _ _ _ _ _ _ _ hk hs w
  | false =>
    cases q2 with
    | true =>
      cases hk : opOk i4 i5 i6 i7 with
      | false =>
        have e : askR true false i3 i4 i5 i6 i7 i2 = false := by simp [askR, hk]
        rw [e]; exact askR_wr0 _ _ _ _ _ _ hk w
      | true =>
        by_cases h3 : i3 = 0
        · subst h3
          cases h2 : decide (i2 > 0) with
          | true =>
            have e : askR true false 0 i4 i5 i6 i7 i2 = true := by have := of_decide_eq_true h2; simp [askR, hk]; omega
            rw [e]; exact askR_wr2 _ _ _ _ _ hk h2 w
          | false =>
            have e : askR true false 0 i4 i5 i6 i7 i2 = false := by have := of_decide_eq_false h2; simp [askR, hk]; omega
            rw [e]; exact askR_wr3 _ _ _ _ _ hk h2 w
        · have e : askR true false i3 i4 i5 i6 i7 i2 = false := by simp [askR, h3]
          rw [e]; exact askR_wr1 _ _ _ _ _ _ hk h3 w
    | false =>
      by_cases hs : i3 = 0 ∧ i4 = 0 ∧ i5 = 0 ∧ i6 = 0 ∧ i7 = 0
      · obtain ⟨rfl, rfl, rfl, rfl, rfl⟩ := hs
        have e : askR false false 0 0 0 0 0 i2 = true := by simp [askR, zO]
        rw [e]
        cases h2 : decide (i2 > 0) with
        | true => exact askR_no2 _ h2 w
        | false => exact askR_no3 _ h2 w
      · have e : askR false false i3 i4 i5 i6 i7 i2 = false := by
          cases hz : zO i4 i5 i6 i7 with
          | false => simp [askR, hz]
          | true =>
            by_cases h3 : i3 = 0
            · exact absurd ⟨h3, zO_yes hz⟩ hs
            · simp [askR, h3]
        rw [e]; exact askR_no1 _ _ _ _ _ _ hs w
end Go.Proofs.YtddpoheoecafjaaGreat
