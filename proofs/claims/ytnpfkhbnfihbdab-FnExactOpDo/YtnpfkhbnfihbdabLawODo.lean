/- The law FnExactOpDo: its walk. -/
import Derived.Test.YtnpfkhbnfihbdabOd
import Derived.Test.YtnpfkhbnfihbdabOe
import Derived.Test.YtnpfkhbnfihbdabOg
import Derived.Test.YtnpfkhbnfihbdabOz
import Derived.Test.YtnpfkhbnfihbdabVv
import Derived.Deep.Cut
namespace Go.Proofs.Ytnpfkhbnfihbdab
open Go.RowKit

set_option maxRecDepth 100000 in
set_option maxHeartbeats 16000000 in
theorem lawODo_any (m : Int) (v : Value) (l : List (Int × Int)) (k a b n : Int) (w : World) (h : Rd w v l) :
    Calls Try.prog 4 #[.agg #[.int .i64 m, v], .agg #[.int .i64 k, .int .i64 a, .int .i64 b, .int .i64 n]] w fun e w' => e = .returned (.bool true) ∧ Below w.heap.size w w' := by
  obtain ⟨ao, cap, hv, hml, hc⟩ := id h
  subst hv
  clear hc
  by_cases hbig : l.length ≤ 1048576
  · have HR := hid h
    clear h
    have hll : l.length ≤ 1099511627776 := by omega
    go_enter Try.func4, Try.ntmps4
    go_wp2_with fail
    have a0_1 : ((w.alloc (.cells #[.int .i64 m, .slice ao l.length cap] 30)).alloc (.cells #[.int .i64 k, .int .i64 a, .int .i64 b, .int .i64 n] 23)).cell? ⟨w.heap.size, 0, none⟩ = some (.int .i64 m) := by go_cell
    have a1_1 : ((w.alloc (.cells #[.int .i64 m, .slice ao l.length cap] 30)).alloc (.cells #[.int .i64 k, .int .i64 a, .int .i64 b, .int .i64 n] 23)).cell? ⟨w.heap.size, 1, none⟩ = some (.slice ao l.length cap) := by go_cell
    have al_1 : w.heap.size < ((w.alloc (.cells #[.int .i64 m, .slice ao l.length cap] 30)).alloc (.cells #[.int .i64 k, .int .i64 a, .int .i64 b, .int .i64 n] 23)).heap.size := by first | (simp; done) | (simp; omega)
    have o0_1 : ((w.alloc (.cells #[.int .i64 m, .slice ao l.length cap] 30)).alloc (.cells #[.int .i64 k, .int .i64 a, .int .i64 b, .int .i64 n] 23)).cell? ⟨w.heap.size + 1, 0, none⟩ = some (.int .i64 k) := by go_cell
    have o1_1 : ((w.alloc (.cells #[.int .i64 m, .slice ao l.length cap] 30)).alloc (.cells #[.int .i64 k, .int .i64 a, .int .i64 b, .int .i64 n] 23)).cell? ⟨w.heap.size + 1, 1, none⟩ = some (.int .i64 a) := by go_cell
    have o2_1 : ((w.alloc (.cells #[.int .i64 m, .slice ao l.length cap] 30)).alloc (.cells #[.int .i64 k, .int .i64 a, .int .i64 b, .int .i64 n] 23)).cell? ⟨w.heap.size + 1, 2, none⟩ = some (.int .i64 b) := by go_cell
    have o3_1 : ((w.alloc (.cells #[.int .i64 m, .slice ao l.length cap] 30)).alloc (.cells #[.int .i64 k, .int .i64 a, .int .i64 b, .int .i64 n] 23)).cell? ⟨w.heap.size + 1, 3, none⟩ = some (.int .i64 n) := by go_cell
    have ol_1 : w.heap.size + 1 < ((w.alloc (.cells #[.int .i64 m, .slice ao l.length cap] 30)).alloc (.cells #[.int .i64 k, .int .i64 a, .int .i64 b, .int .i64 n] 23)).heap.size := by first | (simp; done) | (simp; omega)
    have c1 : Below w.heap.size w ((w.alloc (.cells #[.int .i64 m, .slice ao l.length cap] 30)).alloc (.cells #[.int .i64 k, .int .i64 a, .int .i64 b, .int .i64 n] 23)) := by go_grown
    have s1 : ((w.alloc (.cells #[.int .i64 m, .slice ao l.length cap] 30)).alloc (.cells #[.int .i64 k, .int .i64 a, .int .i64 b, .int .i64 n] 23)).heap.size = w.heap.size + 2 := by simp
    generalize ((w.alloc (.cells #[.int .i64 m, .slice ao l.length cap] 30)).alloc (.cells #[.int .i64 k, .int .i64 a, .int .i64 b, .int .i64 n] 23)) = w1 at a0_1 a1_1 al_1 o0_1 o1_1 o2_1 o3_1 ol_1 c1 s1 ⊢
    have qa0_1 := cell_regrown a0_1
    have qa1_1 := cell_regrown a1_1
    have qo0_1 := cell_regrown o0_1
    have qo1_1 := cell_regrown o1_1
    have qo2_1 := cell_regrown o2_1
    have qo3_1 := cell_regrown o3_1
    refine (szVal_fits m ao l.length cap _ (by omega) (by omega) _).mono ?_
    rintro e w2 ⟨rfl, b2⟩
    have d2 : Below w1.heap.size w1 w2 := (Below.trans (by go_grown) (b2.mono (by first | omega | (simp; done) | (simp; omega))))
    have c2 : Below w.heap.size w w2 := c1.trans (d2.mono c1.size)
    have a0_2 : w2.cell? ⟨w.heap.size, 0, none⟩ = some (.int .i64 m) := (by rw [b2.cell (by first | omega | (simp; done) | (simp; omega))]; go_cell)
    have a1_2 : w2.cell? ⟨w.heap.size, 1, none⟩ = some (.slice ao l.length cap) := (by rw [b2.cell (by first | omega | (simp; done) | (simp; omega))]; go_cell)
    have al_2 : w.heap.size < w2.heap.size := (by have := b2.size; first | omega | (revert this; simp; done) | (revert this; simp; omega))
    have o0_2 : w2.cell? ⟨w.heap.size + 1, 0, none⟩ = some (.int .i64 k) := (by rw [b2.cell (by first | omega | (simp; done) | (simp; omega))]; go_cell)
    have o1_2 : w2.cell? ⟨w.heap.size + 1, 1, none⟩ = some (.int .i64 a) := (by rw [b2.cell (by first | omega | (simp; done) | (simp; omega))]; go_cell)
    have o2_2 : w2.cell? ⟨w.heap.size + 1, 2, none⟩ = some (.int .i64 b) := (by rw [b2.cell (by first | omega | (simp; done) | (simp; omega))]; go_cell)
    have o3_2 : w2.cell? ⟨w.heap.size + 1, 3, none⟩ = some (.int .i64 n) := (by rw [b2.cell (by first | omega | (simp; done) | (simp; omega))]; go_cell)
    have ol_2 : w.heap.size + 1 < w2.heap.size := (by have := b2.size; first | omega | (revert this; simp; done) | (revert this; simp; omega))
    clear a0_1 a1_1 al_1 o0_1 o1_1 o2_1 o3_1 ol_1
    clear b2 d2
    have HR2 := hid (HR.out.later c2)
    go_upto_region 5 with fail
    go_cut [6] from 13 (fun s wx => VarV w2 w2.heap.size s (doN k a b n) (doL k a b n l) wx)
    case first =>
      go_region_with (first
        | (go_at_call 14; refine (toVal_any m (.slice ao l.length cap) l _ (HR2.out.later (by go_grown)) hbig).mono ?_; rintro e w3 ⟨va, rfl, oa, b3⟩; (first | with_reducible have V3 := VarZ.drawn b3 | skip); have d3 : Below w2.heap.size w2 w3 := (Below.trans (by go_grown) (b3.mono (by first | omega | (simp; done) | (simp; omega)))); have c3 : Below w.heap.size w w3 := c2.trans (d3.mono c2.size); have o0_3 : w3.cell? ⟨w.heap.size + 1, 0, none⟩ = some (.int .i64 k) := (by rw [b3.cell (by first | omega | (simp; done) | (simp; omega))]; go_cell); have o1_3 : w3.cell? ⟨w.heap.size + 1, 1, none⟩ = some (.int .i64 a) := (by rw [b3.cell (by first | omega | (simp; done) | (simp; omega))]; go_cell); have o2_3 : w3.cell? ⟨w.heap.size + 1, 2, none⟩ = some (.int .i64 b) := (by rw [b3.cell (by first | omega | (simp; done) | (simp; omega))]; go_cell); have o3_3 : w3.cell? ⟨w.heap.size + 1, 3, none⟩ = some (.int .i64 n) := (by rw [b3.cell (by first | omega | (simp; done) | (simp; omega))]; go_cell); have ol_3 : w.heap.size + 1 < w3.heap.size := (by have := b3.size; first | omega | (revert this; simp; done) | (revert this; simp; omega)); clear o0_2 o1_2 o2_2 o3_2 ol_2; have OA3 := hid oa; clear oa)
        | (go_at_call 10; refine (toOp_any k a b n _).mono ?_; rintro e w4 ⟨rfl, b4⟩; have d4 : Below w3.heap.size w3 w4 := (Below.trans (by go_grown) (b4.mono (by first | omega | (simp; done) | (simp; omega)))); have c4 : Below w.heap.size w w4 := c3.trans (d4.mono c3.size); (first | with_reducible have V4 := VarZ.later V3 d4 | with_reducible have V4 := VarZ.past b4 | skip); have OA4 := hid (OA3.out.later d4); clear OA3)
        | (go_at_call 13; refine (specDo_any k a b n m _ l _ (OA4.out.rd.later (by go_grown)) hll).mono ?_; rintro e w5 ⟨⟨vs, rfl, os⟩, b5⟩; obtain ⟨so, sc, hsv, _⟩ := os.rd; subst hsv; have d5 : Below w4.heap.size w4 w5 := (Below.trans (by go_grown) (b5.mono (by first | omega | (simp; done) | (simp; omega)))); have c5 : Below w.heap.size w w5 := c4.trans (d5.mono c4.size); have HB5 := hid (fun j hj => os.block j hj); (first | (with_reducible have V5 := VarZ.later V4 d5; have z0 := V5.c0; have z1 := V5.c1; have z2 := V5.f0; have z3 := V5.f1; have z4 := V5.lt; have z5 := V4.lt) | (with_reducible have V5 := VarZ.past b5; have z0 := V5.c0; have z1 := V5.c1; have z2 := V5.f0; have z3 := V5.f1; have z4 := V5.lt) | skip); have OS5 := hid os; clear os))
      all_goals
        go_wp2_with fail
        go_meet
        have e25 := (d3.trans (d4.mono d3.size)).trans (d5.mono (Nat.le_trans d3.size d4.size))
        have s4 := Nat.le_trans d3.size d4.size
        have t3 := d3.size
        have t4 := d4.size
        first
          | (with_reducible refine VarV.of_new OS5.out ?_ e25.size e25; first | omega | (simp; omega))
          | (with_reducible refine VarV.of_set V5 OS5.out ?_ ?_ ?_ e25 <;> first | omega | (simp; done) | (simp; omega))
    case rest =>
      obtain ⟨Bw, vs, rfl, hB0, hB1, x0, x1, os, hne, b3⟩ := hcut
      obtain ⟨w3, hw3⟩ : ∃ x, x = wc := ⟨_, rfl⟩
      subst hw3
      have HS3 := hid os
      have HNS := hid hne
      obtain ⟨so, sc, hsv, _⟩ := os.rd
      subst hsv
      have d3 : Below w2.heap.size w2 w3 := (Below.trans (by go_grown) (b3.mono (by first | omega | (simp; done) | (simp; omega))))
      have c3 : Below w.heap.size w w3 := c2.trans (d3.mono c2.size)
      have a0_3 : w3.cell? ⟨w.heap.size, 0, none⟩ = some (.int .i64 m) := (by rw [b3.cell (by first | omega | (simp; done) | (simp; omega))]; go_cell)
      have a1_3 : w3.cell? ⟨w.heap.size, 1, none⟩ = some (.slice ao l.length cap) := (by rw [b3.cell (by first | omega | (simp; done) | (simp; omega))]; go_cell)
      have al_3 : w.heap.size < w3.heap.size := (by have := b3.size; first | omega | (revert this; simp; done) | (revert this; simp; omega))
      have o0_3 : w3.cell? ⟨w.heap.size + 1, 0, none⟩ = some (.int .i64 k) := (by rw [b3.cell (by first | omega | (simp; done) | (simp; omega))]; go_cell)
      have o1_3 : w3.cell? ⟨w.heap.size + 1, 1, none⟩ = some (.int .i64 a) := (by rw [b3.cell (by first | omega | (simp; done) | (simp; omega))]; go_cell)
      have o2_3 : w3.cell? ⟨w.heap.size + 1, 2, none⟩ = some (.int .i64 b) := (by rw [b3.cell (by first | omega | (simp; done) | (simp; omega))]; go_cell)
      have o3_3 : w3.cell? ⟨w.heap.size + 1, 3, none⟩ = some (.int .i64 n) := (by rw [b3.cell (by first | omega | (simp; done) | (simp; omega))]; go_cell)
      have ol_3 : w.heap.size + 1 < w3.heap.size := (by have := b3.size; first | omega | (revert this; simp; done) | (revert this; simp; omega))
      clear a0_2 a1_2 al_2 o0_2 o1_2 o2_2 o3_2 ol_2
      have x0_3 := x0
      have x1_3 := x1
      have xl_3 := hB1
      have zx3 : Bw < w3.heap.size := hB1
      have zo3 : w.heap.size + 1 < w3.heap.size := ol_3
      have zl2 : (doL k a b n l).length ≤ 1099511627776 := Nat.le_trans (doL_length k a b n l) (by omega)
      clear b3 d3 x0 x1 hB1 os hne
      go_wp2_with fail
      refine (toVal_any m _ l _ (HR.out.later c3) hbig).mono ?_
      rintro e w4 ⟨vy, rfl, oy, b4⟩
      have HY4 := hid oy
      obtain ⟨yo, yc, hyv, _⟩ := oy.rd
      subst hyv
      clear oy
      have d4 : Below w3.heap.size w3 w4 := (Below.trans (by go_grown) (b4.mono (by first | omega | (simp; done) | (simp; omega))))
      have c4 : Below w.heap.size w w4 := c3.trans (d4.mono c3.size)
      have a0_4 : w4.cell? ⟨w.heap.size, 0, none⟩ = some (.int .i64 m) := (by rw [b4.cell (by first | omega | (simp; done) | (simp; omega))]; go_cell)
      have a1_4 : w4.cell? ⟨w.heap.size, 1, none⟩ = some (.slice ao l.length cap) := (by rw [b4.cell (by first | omega | (simp; done) | (simp; omega))]; go_cell)
      have al_4 : w.heap.size < w4.heap.size := (by have := b4.size; first | omega | (revert this; simp; done) | (revert this; simp; omega))
      have o0_4 : w4.cell? ⟨w.heap.size + 1, 0, none⟩ = some (.int .i64 k) := (by rw [b4.cell (by first | omega | (simp; done) | (simp; omega))]; go_cell)
      have o1_4 : w4.cell? ⟨w.heap.size + 1, 1, none⟩ = some (.int .i64 a) := (by rw [b4.cell (by first | omega | (simp; done) | (simp; omega))]; go_cell)
      have o2_4 : w4.cell? ⟨w.heap.size + 1, 2, none⟩ = some (.int .i64 b) := (by rw [b4.cell (by first | omega | (simp; done) | (simp; omega))]; go_cell)
      have o3_4 : w4.cell? ⟨w.heap.size + 1, 3, none⟩ = some (.int .i64 n) := (by rw [b4.cell (by first | omega | (simp; done) | (simp; omega))]; go_cell)
      have ol_4 : w.heap.size + 1 < w4.heap.size := (by have := b4.size; first | omega | (revert this; simp; done) | (revert this; simp; omega))
      have x0_4 : w4.cell? ⟨Bw, 0, none⟩ = some (.int .i64 (doN k a b n)) := (by rw [b4.cell (by first | omega | (simp; done) | (simp; omega))]; go_cell)
      have x1_4 : w4.cell? ⟨Bw, 1, none⟩ = some (.slice so (doL k a b n l).length sc) := (by rw [b4.cell (by first | omega | (simp; done) | (simp; omega))]; go_cell)
      have xl_4 : Bw < w4.heap.size := (by have := b4.size; first | omega | (revert this; simp; done) | (revert this; simp; omega))
      clear a0_3 a1_3 al_3 o0_3 o1_3 o2_3 o3_3 ol_3 x0_3 x1_3 xl_3
      have HS4 := hid (HS3.out.later d4)
      have z34 := d4.size
      clear b4 d4
      go_wp2_with fail
      have y0_5 : (w4.alloc (.cells #[.int .i64 m, .slice yo l.length yc] 34)).cell? ⟨w4.heap.size, 0, none⟩ = some (.int .i64 m) := by go_cell
      have y1_5 : (w4.alloc (.cells #[.int .i64 m, .slice yo l.length yc] 34)).cell? ⟨w4.heap.size, 1, none⟩ = some (.slice yo l.length yc) := by go_cell
      have yl_5 : w4.heap.size < (w4.alloc (.cells #[.int .i64 m, .slice yo l.length yc] 34)).heap.size := by simp
      have d5 : Below w4.heap.size w4 (w4.alloc (.cells #[.int .i64 m, .slice yo l.length yc] 34)) := by go_grown
      generalize (w4.alloc (.cells #[.int .i64 m, .slice yo l.length yc] 34)) = w5 at y0_5 y1_5 yl_5 d5 ⊢
      have c5 : Below w.heap.size w w5 := c4.trans (d5.mono c4.size)
      have a0_5 : w5.cell? ⟨w.heap.size, 0, none⟩ = some (.int .i64 m) := (by rw [d5.cell (by first | omega | (simp; done) | (simp; omega))]; go_cell)
      have a1_5 : w5.cell? ⟨w.heap.size, 1, none⟩ = some (.slice ao l.length cap) := (by rw [d5.cell (by first | omega | (simp; done) | (simp; omega))]; go_cell)
      have al_5 : w.heap.size < w5.heap.size := (by have := d5.size; omega)
      have o0_5 : w5.cell? ⟨w.heap.size + 1, 0, none⟩ = some (.int .i64 k) := (by rw [d5.cell (by first | omega | (simp; done) | (simp; omega))]; go_cell)
      have o1_5 : w5.cell? ⟨w.heap.size + 1, 1, none⟩ = some (.int .i64 a) := (by rw [d5.cell (by first | omega | (simp; done) | (simp; omega))]; go_cell)
      have o2_5 : w5.cell? ⟨w.heap.size + 1, 2, none⟩ = some (.int .i64 b) := (by rw [d5.cell (by first | omega | (simp; done) | (simp; omega))]; go_cell)
      have o3_5 : w5.cell? ⟨w.heap.size + 1, 3, none⟩ = some (.int .i64 n) := (by rw [d5.cell (by first | omega | (simp; done) | (simp; omega))]; go_cell)
      have ol_5 : w.heap.size + 1 < w5.heap.size := (by have := d5.size; omega)
      have x0_5 : w5.cell? ⟨Bw, 0, none⟩ = some (.int .i64 (doN k a b n)) := (by rw [d5.cell (by first | omega | (simp; done) | (simp; omega))]; go_cell)
      have x1_5 : w5.cell? ⟨Bw, 1, none⟩ = some (.slice so (doL k a b n l).length sc) := (by rw [d5.cell (by first | omega | (simp; done) | (simp; omega))]; go_cell)
      have xl_5 : Bw < w5.heap.size := (by have := d5.size; omega)
      clear a0_4 a1_4 al_4 o0_4 o1_4 o2_4 o3_4 ol_4 x0_4 x1_4 xl_4
      have HS5 := hid (HS4.out.later d5)
      have HY5 := hid (HY4.out.later d5)
      have z45 := d5.size
      clear d5
      go_upto_region 7 with fail
      go_cut [8] from 13 (fun s wx => VarV w5 w5.heap.size s (doN k a b n) (doL k a b n l) wx)
      case first =>
        go_region_with (first
          | (go_at_call 10; refine (toOp_any k a b n _).mono ?_; rintro e w6 ⟨rfl, b6⟩; (first | with_reducible have V6 := VarZ.drawn b6 | skip); have d6 : Below w5.heap.size w5 w6 := (Below.trans (by go_grown) (b6.mono (by first | omega | (simp; done) | (simp; omega)))); have c6 : Below w.heap.size w w6 := c5.trans (d6.mono c5.size); have y0_6 : w6.cell? ⟨w4.heap.size, 0, none⟩ = some (.int .i64 m) := (by rw [b6.cell (by first | omega | (simp; done) | (simp; omega))]; go_cell); have y1_6 : w6.cell? ⟨w4.heap.size, 1, none⟩ = some (.slice yo l.length yc) := (by rw [b6.cell (by first | omega | (simp; done) | (simp; omega))]; go_cell); have yl_6 : w4.heap.size < w6.heap.size := (by have := b6.size; first | omega | (revert this; simp; done) | (revert this; simp; omega)); clear y0_5 y1_5 yl_5; have HY6 := hid (HY5.out.later d6))
          | (go_at_call 15; refine (implDo_any k a b n m _ l _ (HY6.out.rd.later (by go_grown)) hll).mono ?_; rintro e w7 ⟨⟨vg, rfl, og⟩, b7⟩; obtain ⟨go, gc, hgv, _⟩ := og.rd; subst hgv; have d7 : Below w6.heap.size w6 w7 := (Below.trans (by go_grown) (b7.mono (by first | omega | (simp; done) | (simp; omega)))); have c7 : Below w.heap.size w w7 := c6.trans (d7.mono c6.size); (first | (with_reducible have V7 := VarZ.later V6 d7; have z0 := V7.c0; have z1 := V7.c1; have z2 := V7.f0; have z3 := V7.f1; have z4 := V7.lt; have z5 := V6.lt) | (with_reducible have V7 := VarZ.past b7; have z0 := V7.c0; have z1 := V7.c1; have z2 := V7.f0; have z3 := V7.f1; have z4 := V7.lt) | skip); have OG7 := hid og; clear og))
        all_goals
          go_wp2_with fail
          go_meet
          have e57 := d6.trans (d7.mono d6.size)
          have s6 := d6.size
          first
            | (with_reducible refine VarV.of_new OG7.out ?_ e57.size e57; first | omega | (simp; omega))
            | (with_reducible refine VarV.of_set V7 OG7.out ?_ ?_ ?_ e57 <;> first | omega | (simp; done) | (simp; omega))
      case rest =>
        obtain ⟨Bg, vg, rfl, hG0, hG1, q0, q1, og, hneg, b6⟩ := hcut
        obtain ⟨w6, hw6⟩ : ∃ x, x = wc := ⟨_, rfl⟩
        subst hw6
        have HG6 := hid og
        have HNG := hid hneg
        obtain ⟨go, gc, hgv, _⟩ := og.rd
        subst hgv
        have d6 : Below w5.heap.size w5 w6 := (Below.trans (by go_grown) (b6.mono (by first | omega | (simp; done) | (simp; omega))))
        have c6 : Below w.heap.size w w6 := c5.trans (d6.mono c5.size)
        have a0_6 : w6.cell? ⟨w.heap.size, 0, none⟩ = some (.int .i64 m) := (by rw [b6.cell (by first | omega | (simp; done) | (simp; omega))]; go_cell)
        have a1_6 : w6.cell? ⟨w.heap.size, 1, none⟩ = some (.slice ao l.length cap) := (by rw [b6.cell (by first | omega | (simp; done) | (simp; omega))]; go_cell)
        have al_6 : w.heap.size < w6.heap.size := (by have := b6.size; first | omega | (revert this; simp; done) | (revert this; simp; omega))
        have o0_6 : w6.cell? ⟨w.heap.size + 1, 0, none⟩ = some (.int .i64 k) := (by rw [b6.cell (by first | omega | (simp; done) | (simp; omega))]; go_cell)
        have o1_6 : w6.cell? ⟨w.heap.size + 1, 1, none⟩ = some (.int .i64 a) := (by rw [b6.cell (by first | omega | (simp; done) | (simp; omega))]; go_cell)
        have o2_6 : w6.cell? ⟨w.heap.size + 1, 2, none⟩ = some (.int .i64 b) := (by rw [b6.cell (by first | omega | (simp; done) | (simp; omega))]; go_cell)
        have o3_6 : w6.cell? ⟨w.heap.size + 1, 3, none⟩ = some (.int .i64 n) := (by rw [b6.cell (by first | omega | (simp; done) | (simp; omega))]; go_cell)
        have ol_6 : w.heap.size + 1 < w6.heap.size := (by have := b6.size; first | omega | (revert this; simp; done) | (revert this; simp; omega))
        have x0_6 : w6.cell? ⟨Bw, 0, none⟩ = some (.int .i64 (doN k a b n)) := (by rw [b6.cell (by first | omega | (simp; done) | (simp; omega))]; go_cell)
        have x1_6 : w6.cell? ⟨Bw, 1, none⟩ = some (.slice so (doL k a b n l).length sc) := (by rw [b6.cell (by first | omega | (simp; done) | (simp; omega))]; go_cell)
        have xl_6 : Bw < w6.heap.size := (by have := b6.size; first | omega | (revert this; simp; done) | (revert this; simp; omega))
        have y0_6 : w6.cell? ⟨w4.heap.size, 0, none⟩ = some (.int .i64 m) := (by rw [b6.cell (by first | omega | (simp; done) | (simp; omega))]; go_cell)
        have y1_6 : w6.cell? ⟨w4.heap.size, 1, none⟩ = some (.slice yo l.length yc) := (by rw [b6.cell (by first | omega | (simp; done) | (simp; omega))]; go_cell)
        have yl_6 : w4.heap.size < w6.heap.size := (by have := b6.size; first | omega | (revert this; simp; done) | (revert this; simp; omega))
        clear a0_5 a1_5 al_5 o0_5 o1_5 o2_5 o3_5 ol_5 x0_5 x1_5 xl_5 y0_5 y1_5 yl_5
        have g0_6 := q0
        have g1_6 := q1
        have gl_6 := hG1
        have HS6 := hid (HS5.out.later d6)
        have HY6 := hid (HY5.out.later d6)
        have z56 := d6.size
        clear b6 d6 q0 q1 hG1 og hneg
        go_wp2_with fail
        refine (eqVal_self (doN k a b n) _ _ (doL k a b n l) _ HG6.out.rd HS6.out.rd).mono ?_
        rintro e w7 ⟨rfl, b7⟩
        have d7 : Below w6.heap.size w6 w7 := (Below.trans (by go_grown) (b7.mono (by first | omega | (simp; done) | (simp; omega))))
        have c7 : Below w.heap.size w w7 := c6.trans (d7.mono c6.size)
        have a0_7 : w7.cell? ⟨w.heap.size, 0, none⟩ = some (.int .i64 m) := (by rw [b7.cell (by first | omega | (simp; done) | (simp; omega))]; go_cell)
        have a1_7 : w7.cell? ⟨w.heap.size, 1, none⟩ = some (.slice ao l.length cap) := (by rw [b7.cell (by first | omega | (simp; done) | (simp; omega))]; go_cell)
        have al_7 : w.heap.size < w7.heap.size := (by have := b7.size; first | omega | (revert this; simp; done) | (revert this; simp; omega))
        have o0_7 : w7.cell? ⟨w.heap.size + 1, 0, none⟩ = some (.int .i64 k) := (by rw [b7.cell (by first | omega | (simp; done) | (simp; omega))]; go_cell)
        have o1_7 : w7.cell? ⟨w.heap.size + 1, 1, none⟩ = some (.int .i64 a) := (by rw [b7.cell (by first | omega | (simp; done) | (simp; omega))]; go_cell)
        have o2_7 : w7.cell? ⟨w.heap.size + 1, 2, none⟩ = some (.int .i64 b) := (by rw [b7.cell (by first | omega | (simp; done) | (simp; omega))]; go_cell)
        have o3_7 : w7.cell? ⟨w.heap.size + 1, 3, none⟩ = some (.int .i64 n) := (by rw [b7.cell (by first | omega | (simp; done) | (simp; omega))]; go_cell)
        have ol_7 : w.heap.size + 1 < w7.heap.size := (by have := b7.size; first | omega | (revert this; simp; done) | (revert this; simp; omega))
        have x0_7 : w7.cell? ⟨Bw, 0, none⟩ = some (.int .i64 (doN k a b n)) := (by rw [b7.cell (by first | omega | (simp; done) | (simp; omega))]; go_cell)
        have x1_7 : w7.cell? ⟨Bw, 1, none⟩ = some (.slice so (doL k a b n l).length sc) := (by rw [b7.cell (by first | omega | (simp; done) | (simp; omega))]; go_cell)
        have xl_7 : Bw < w7.heap.size := (by have := b7.size; first | omega | (revert this; simp; done) | (revert this; simp; omega))
        have y0_7 : w7.cell? ⟨w4.heap.size, 0, none⟩ = some (.int .i64 m) := (by rw [b7.cell (by first | omega | (simp; done) | (simp; omega))]; go_cell)
        have y1_7 : w7.cell? ⟨w4.heap.size, 1, none⟩ = some (.slice yo l.length yc) := (by rw [b7.cell (by first | omega | (simp; done) | (simp; omega))]; go_cell)
        have yl_7 : w4.heap.size < w7.heap.size := (by have := b7.size; first | omega | (revert this; simp; done) | (revert this; simp; omega))
        have g0_7 : w7.cell? ⟨Bg, 0, none⟩ = some (.int .i64 (doN k a b n)) := (by rw [b7.cell (by first | omega | (simp; done) | (simp; omega))]; go_cell)
        have g1_7 : w7.cell? ⟨Bg, 1, none⟩ = some (.slice go (doL k a b n l).length gc) := (by rw [b7.cell (by first | omega | (simp; done) | (simp; omega))]; go_cell)
        have gl_7 : Bg < w7.heap.size := (by have := b7.size; first | omega | (revert this; simp; done) | (revert this; simp; omega))
        clear a0_6 a1_6 al_6 o0_6 o1_6 o2_6 o3_6 ol_6 x0_6 x1_6 xl_6 y0_6 y1_6 yl_6 g0_6 g1_6 gl_6
        have HS7 := hid (HS6.out.later d7)
        have HY7 := hid (HY6.out.later d7)
        have HG7 := hid (HG6.out.later d7)
        have z67 := d7.size
        clear b7 d7
        go_wp2_with fail
        go_upto_region 10 with fail
        go_cut [37] from 13 (fun s wx => s = .bool false ∧ Below w7.heap.size w7 wx)
        case first =>
          go_region_with (first
            | (go_at_call 14; refine (toVal_any m (.slice ao l.length cap) l _ (HR.out.later (c7.drew)) hbig).mono ?_; rintro e w8 ⟨ve, rfl, oe, b8⟩; have d8 : Below w7.heap.size w7 w8 := (Below.trans (by go_grown) (b8.mono (by first | omega | (simp; done) | (simp; omega)))); have c8 : Below w.heap.size w w8 := c7.trans (d8.mono c7.size); have y0_8 : w8.cell? ⟨w4.heap.size, 0, none⟩ = some (.int .i64 m) := (by rw [b8.cell (by first | omega | (simp; done) | (simp; omega))]; go_cell); have y1_8 : w8.cell? ⟨w4.heap.size, 1, none⟩ = some (.slice yo l.length yc) := (by rw [b8.cell (by first | omega | (simp; done) | (simp; omega))]; go_cell); have yl_8 : w4.heap.size < w8.heap.size := (by have := b8.size; first | omega | (revert this; simp; done) | (revert this; simp; omega)); clear y0_7 y1_7 yl_7)
            | (go_at_call 16; refine (eqVal_self m _ _ l _ (HY7.out.rd.later d8) oe.rd).mono ?_; rintro e w9 ⟨rfl, b9⟩; have d9 : Below w8.heap.size w8 w9 := (Below.trans (by go_grown) (b9.mono (by first | omega | (simp; done) | (simp; omega)))); have c9 : Below w.heap.size w w9 := c8.trans (d9.mono c8.size)))
          all_goals
            go_wp2_with fail
            go_meet
            exact ⟨rfl, d8.trans (d9.mono d8.size)⟩
        case rest =>
          obtain ⟨rfl, b8⟩ := hcut
          obtain ⟨w8, hw8⟩ : ∃ x, x = wc := ⟨_, rfl⟩
          subst hw8
          have d8 : Below w7.heap.size w7 w8 := (Below.trans (by go_grown) (b8.mono (by first | omega | (simp; done) | (simp; omega))))
          have c8 : Below w.heap.size w w8 := c7.trans (d8.mono c7.size)
          have a0_8 : w8.cell? ⟨w.heap.size, 0, none⟩ = some (.int .i64 m) := (by rw [b8.cell (by first | omega | (simp; done) | (simp; omega))]; go_cell)
          have a1_8 : w8.cell? ⟨w.heap.size, 1, none⟩ = some (.slice ao l.length cap) := (by rw [b8.cell (by first | omega | (simp; done) | (simp; omega))]; go_cell)
          have al_8 : w.heap.size < w8.heap.size := (by have := b8.size; first | omega | (revert this; simp; done) | (revert this; simp; omega))
          have o0_8 : w8.cell? ⟨w.heap.size + 1, 0, none⟩ = some (.int .i64 k) := (by rw [b8.cell (by first | omega | (simp; done) | (simp; omega))]; go_cell)
          have o1_8 : w8.cell? ⟨w.heap.size + 1, 1, none⟩ = some (.int .i64 a) := (by rw [b8.cell (by first | omega | (simp; done) | (simp; omega))]; go_cell)
          have o2_8 : w8.cell? ⟨w.heap.size + 1, 2, none⟩ = some (.int .i64 b) := (by rw [b8.cell (by first | omega | (simp; done) | (simp; omega))]; go_cell)
          have o3_8 : w8.cell? ⟨w.heap.size + 1, 3, none⟩ = some (.int .i64 n) := (by rw [b8.cell (by first | omega | (simp; done) | (simp; omega))]; go_cell)
          have ol_8 : w.heap.size + 1 < w8.heap.size := (by have := b8.size; first | omega | (revert this; simp; done) | (revert this; simp; omega))
          have x0_8 : w8.cell? ⟨Bw, 0, none⟩ = some (.int .i64 (doN k a b n)) := (by rw [b8.cell (by first | omega | (simp; done) | (simp; omega))]; go_cell)
          have x1_8 : w8.cell? ⟨Bw, 1, none⟩ = some (.slice so (doL k a b n l).length sc) := (by rw [b8.cell (by first | omega | (simp; done) | (simp; omega))]; go_cell)
          have xl_8 : Bw < w8.heap.size := (by have := b8.size; first | omega | (revert this; simp; done) | (revert this; simp; omega))
          have y0_8 : w8.cell? ⟨w4.heap.size, 0, none⟩ = some (.int .i64 m) := (by rw [b8.cell (by first | omega | (simp; done) | (simp; omega))]; go_cell)
          have y1_8 : w8.cell? ⟨w4.heap.size, 1, none⟩ = some (.slice yo l.length yc) := (by rw [b8.cell (by first | omega | (simp; done) | (simp; omega))]; go_cell)
          have yl_8 : w4.heap.size < w8.heap.size := (by have := b8.size; first | omega | (revert this; simp; done) | (revert this; simp; omega))
          have g0_8 : w8.cell? ⟨Bg, 0, none⟩ = some (.int .i64 (doN k a b n)) := (by rw [b8.cell (by first | omega | (simp; done) | (simp; omega))]; go_cell)
          have g1_8 : w8.cell? ⟨Bg, 1, none⟩ = some (.slice go (doL k a b n l).length gc) := (by rw [b8.cell (by first | omega | (simp; done) | (simp; omega))]; go_cell)
          have gl_8 : Bg < w8.heap.size := (by have := b8.size; first | omega | (revert this; simp; done) | (revert this; simp; omega))
          clear a0_7 a1_7 al_7 o0_7 o1_7 o2_7 o3_7 ol_7 x0_7 x1_7 xl_7 y0_7 y1_7 yl_7 g0_7 g1_7 gl_7
          have HS8 := hid (HS7.out.later d8)
          have HY8 := hid (HY7.out.later d8)
          have HG8 := hid (HG7.out.later d8)
          have z78 := d8.size
          clear b8 d8
          go_wp2_with fail
          refine (markVal_any m _ l 1 _ _ HY8.out (by omega) (by omega) hll).mono ?_
          rintro e w9 ⟨rfl, oy9, g9⟩
          have B9 := hid (Below.of_grown (B := w3.heap.size) g9 (by omega) (fun j hj => (HY8.out.block j hj).1))
          have hne9 : some Bg ≠ (Value.slice yo l.length yc).ownBlock := fun e => by have := (HY4.out.block _ e.symm).2; omega
          have a0_9 := (B9.out.cell (p := ⟨w.heap.size, 0, none⟩) (by show w.heap.size < w3.heap.size; omega)).trans a0_8
          have a1_9 := (B9.out.cell (p := ⟨w.heap.size, 1, none⟩) (by show w.heap.size < w3.heap.size; omega)).trans a1_8
          have al_9 : w.heap.size < w9.heap.size := by have := g9.size; omega
          have o0_9 := (B9.out.cell (p := ⟨w.heap.size + 1, 0, none⟩) (by show w.heap.size + 1 < w3.heap.size; omega)).trans o0_8
          have o1_9 := (B9.out.cell (p := ⟨w.heap.size + 1, 1, none⟩) (by show w.heap.size + 1 < w3.heap.size; omega)).trans o1_8
          have o2_9 := (B9.out.cell (p := ⟨w.heap.size + 1, 2, none⟩) (by show w.heap.size + 1 < w3.heap.size; omega)).trans o2_8
          have o3_9 := (B9.out.cell (p := ⟨w.heap.size + 1, 3, none⟩) (by show w.heap.size + 1 < w3.heap.size; omega)).trans o3_8
          have ol_9 : w.heap.size + 1 < w9.heap.size := by have := g9.size; omega
          have x0_9 := (B9.out.cell (p := ⟨Bw, 0, none⟩) (by show Bw < w3.heap.size; omega)).trans x0_8
          have x1_9 := (B9.out.cell (p := ⟨Bw, 1, none⟩) (by show Bw < w3.heap.size; omega)).trans x1_8
          have xl_9 : Bw < w9.heap.size := by have := g9.size; omega
          have g0_9 := g9.cell g0_8 hne9
          have g1_9 := g9.cell g1_8 hne9
          have gl_9 : Bg < w9.heap.size := by have := g9.size; omega
          have c9 : Below w.heap.size w w9 := c8.trans (B9.out.mono (by omega))
          have HS9 := hid (HS8.out.below (fun j hj => (HS3.out.block j hj).2) B9.out)
          have HG9 := hid (HG8.out.kept g9 (HG8.out.apart HY4.out z45))
          have z89 := g9.size
          clear g9 oy9 hne9 a0_8 a1_8 al_8 o0_8 o1_8 o2_8 o3_8 ol_8 x0_8 x1_8 xl_8 g0_8 g1_8 gl_8
          go_wp2_with fail
          refine (eqVal_self (doN k a b n) _ _ (doL k a b n l) _ HG9.out.rd HS9.out.rd).mono ?_
          rintro e w10 ⟨rfl, b10⟩
          have d10 : Below w9.heap.size w9 w10 := (Below.trans (by go_grown) (b10.mono (by first | omega | (simp; done) | (simp; omega))))
          have c10 : Below w.heap.size w w10 := c9.trans (d10.mono c9.size)
          have a0_10 : w10.cell? ⟨w.heap.size, 0, none⟩ = some (.int .i64 m) := (by rw [b10.cell (by first | omega | (simp; done) | (simp; omega))]; go_cell)
          have a1_10 : w10.cell? ⟨w.heap.size, 1, none⟩ = some (.slice ao l.length cap) := (by rw [b10.cell (by first | omega | (simp; done) | (simp; omega))]; go_cell)
          have al_10 : w.heap.size < w10.heap.size := (by have := b10.size; first | omega | (revert this; simp; done) | (revert this; simp; omega))
          have o0_10 : w10.cell? ⟨w.heap.size + 1, 0, none⟩ = some (.int .i64 k) := (by rw [b10.cell (by first | omega | (simp; done) | (simp; omega))]; go_cell)
          have o1_10 : w10.cell? ⟨w.heap.size + 1, 1, none⟩ = some (.int .i64 a) := (by rw [b10.cell (by first | omega | (simp; done) | (simp; omega))]; go_cell)
          have o2_10 : w10.cell? ⟨w.heap.size + 1, 2, none⟩ = some (.int .i64 b) := (by rw [b10.cell (by first | omega | (simp; done) | (simp; omega))]; go_cell)
          have o3_10 : w10.cell? ⟨w.heap.size + 1, 3, none⟩ = some (.int .i64 n) := (by rw [b10.cell (by first | omega | (simp; done) | (simp; omega))]; go_cell)
          have ol_10 : w.heap.size + 1 < w10.heap.size := (by have := b10.size; first | omega | (revert this; simp; done) | (revert this; simp; omega))
          have x0_10 : w10.cell? ⟨Bw, 0, none⟩ = some (.int .i64 (doN k a b n)) := (by rw [b10.cell (by first | omega | (simp; done) | (simp; omega))]; go_cell)
          have x1_10 : w10.cell? ⟨Bw, 1, none⟩ = some (.slice so (doL k a b n l).length sc) := (by rw [b10.cell (by first | omega | (simp; done) | (simp; omega))]; go_cell)
          have xl_10 : Bw < w10.heap.size := (by have := b10.size; first | omega | (revert this; simp; done) | (revert this; simp; omega))
          have g0_10 : w10.cell? ⟨Bg, 0, none⟩ = some (.int .i64 (doN k a b n)) := (by rw [b10.cell (by first | omega | (simp; done) | (simp; omega))]; go_cell)
          have g1_10 : w10.cell? ⟨Bg, 1, none⟩ = some (.slice go (doL k a b n l).length gc) := (by rw [b10.cell (by first | omega | (simp; done) | (simp; omega))]; go_cell)
          have gl_10 : Bg < w10.heap.size := (by have := b10.size; first | omega | (revert this; simp; done) | (revert this; simp; omega))
          clear a0_9 a1_9 al_9 o0_9 o1_9 o2_9 o3_9 ol_9 x0_9 x1_9 xl_9 g0_9 g1_9 gl_9
          have HS10 := hid (HS9.out.later d10)
          have HG10 := hid (HG9.out.later d10)
          have z910 := d10.size
          clear b10 d10
          go_wp2_with fail
          refine (markVal_any (doN k a b n) _ (doL k a b n l) 1 _ _ HG10.out (by omega) (by omega) zl2).mono ?_
          rintro e w11 ⟨rfl, og11, g11⟩
          have B11 := hid (Below.of_grown (B := w5.heap.size) g11 (by omega) (fun j hj => (HG10.out.block j hj).1))
          have hne11 : some Bg ≠ (Value.slice go (doL k a b n l).length gc).ownBlock := fun e => HNG.out e.symm
          have a0_11 := (B11.out.cell (p := ⟨w.heap.size, 0, none⟩) (by show w.heap.size < w5.heap.size; omega)).trans a0_10
          have a1_11 := (B11.out.cell (p := ⟨w.heap.size, 1, none⟩) (by show w.heap.size < w5.heap.size; omega)).trans a1_10
          have al_11 : w.heap.size < w11.heap.size := by have := g11.size; omega
          have o0_11 := (B11.out.cell (p := ⟨w.heap.size + 1, 0, none⟩) (by show w.heap.size + 1 < w5.heap.size; omega)).trans o0_10
          have o1_11 := (B11.out.cell (p := ⟨w.heap.size + 1, 1, none⟩) (by show w.heap.size + 1 < w5.heap.size; omega)).trans o1_10
          have o2_11 := (B11.out.cell (p := ⟨w.heap.size + 1, 2, none⟩) (by show w.heap.size + 1 < w5.heap.size; omega)).trans o2_10
          have o3_11 := (B11.out.cell (p := ⟨w.heap.size + 1, 3, none⟩) (by show w.heap.size + 1 < w5.heap.size; omega)).trans o3_10
          have ol_11 : w.heap.size + 1 < w11.heap.size := by have := g11.size; omega
          have x0_11 := (B11.out.cell (p := ⟨Bw, 0, none⟩) (by show Bw < w5.heap.size; omega)).trans x0_10
          have x1_11 := (B11.out.cell (p := ⟨Bw, 1, none⟩) (by show Bw < w5.heap.size; omega)).trans x1_10
          have xl_11 : Bw < w11.heap.size := by have := g11.size; omega
          have g0_11 := g11.cell g0_10 hne11
          have g1_11 := g11.cell g1_10 hne11
          have gl_11 : Bg < w11.heap.size := by have := g11.size; omega
          have c11 : Below w.heap.size w w11 := c10.trans (B11.out.mono (by omega))
          have HS11 := hid (HS10.out.below (fun j hj => Nat.lt_of_lt_of_le (HS3.out.block j hj).2 (Nat.le_trans z34 z45)) B11.out)
          have HG11 := hid og11
          have z1011 := g11.size
          clear g11 og11 hne11 a0_10 a1_10 al_10 o0_10 o1_10 o2_10 o3_10 ol_10 x0_10 x1_10 xl_10 g0_10 g1_10 gl_10
          go_wp2_with fail
          refine (heldVal_any (doN k a b n) _ (doL k a b n l).length 1 _ HG11.out.rd (by omega) (by omega) zl2).mono ?_
          rintro e w12 ⟨rfl, b12⟩
          have d12 : Below w11.heap.size w11 w12 := (Below.trans (by go_grown) (b12.mono (by first | omega | (simp; done) | (simp; omega))))
          have c12 : Below w.heap.size w w12 := c11.trans (d12.mono c11.size)
          have a0_12 : w12.cell? ⟨w.heap.size, 0, none⟩ = some (.int .i64 m) := (by rw [b12.cell (by first | omega | (simp; done) | (simp; omega))]; go_cell)
          have a1_12 : w12.cell? ⟨w.heap.size, 1, none⟩ = some (.slice ao l.length cap) := (by rw [b12.cell (by first | omega | (simp; done) | (simp; omega))]; go_cell)
          have al_12 : w.heap.size < w12.heap.size := (by have := b12.size; first | omega | (revert this; simp; done) | (revert this; simp; omega))
          have o0_12 : w12.cell? ⟨w.heap.size + 1, 0, none⟩ = some (.int .i64 k) := (by rw [b12.cell (by first | omega | (simp; done) | (simp; omega))]; go_cell)
          have o1_12 : w12.cell? ⟨w.heap.size + 1, 1, none⟩ = some (.int .i64 a) := (by rw [b12.cell (by first | omega | (simp; done) | (simp; omega))]; go_cell)
          have o2_12 : w12.cell? ⟨w.heap.size + 1, 2, none⟩ = some (.int .i64 b) := (by rw [b12.cell (by first | omega | (simp; done) | (simp; omega))]; go_cell)
          have o3_12 : w12.cell? ⟨w.heap.size + 1, 3, none⟩ = some (.int .i64 n) := (by rw [b12.cell (by first | omega | (simp; done) | (simp; omega))]; go_cell)
          have ol_12 : w.heap.size + 1 < w12.heap.size := (by have := b12.size; first | omega | (revert this; simp; done) | (revert this; simp; omega))
          have x0_12 : w12.cell? ⟨Bw, 0, none⟩ = some (.int .i64 (doN k a b n)) := (by rw [b12.cell (by first | omega | (simp; done) | (simp; omega))]; go_cell)
          have x1_12 : w12.cell? ⟨Bw, 1, none⟩ = some (.slice so (doL k a b n l).length sc) := (by rw [b12.cell (by first | omega | (simp; done) | (simp; omega))]; go_cell)
          have xl_12 : Bw < w12.heap.size := (by have := b12.size; first | omega | (revert this; simp; done) | (revert this; simp; omega))
          have g0_12 : w12.cell? ⟨Bg, 0, none⟩ = some (.int .i64 (doN k a b n)) := (by rw [b12.cell (by first | omega | (simp; done) | (simp; omega))]; go_cell)
          have g1_12 : w12.cell? ⟨Bg, 1, none⟩ = some (.slice go (doL k a b n l).length gc) := (by rw [b12.cell (by first | omega | (simp; done) | (simp; omega))]; go_cell)
          have gl_12 : Bg < w12.heap.size := (by have := b12.size; first | omega | (revert this; simp; done) | (revert this; simp; omega))
          clear a0_11 a1_11 al_11 o0_11 o1_11 o2_11 o3_11 ol_11 x0_11 x1_11 xl_11 g0_11 g1_11 gl_11
          have HS12 := hid (HS11.out.later d12)
          have HG12 := hid (HG11.out.later d12)
          have HR12 := hid (HR.out.later c12)
          clear b12 d12
          go_wp2_with fail
          go_upto_region 24 with fail
          go_cut [12] from 13 (fun s wx => VarV w12 w12.heap.size s (doN k a b n) (doL k a b n l) wx)
          case first =>
            go_region_with (first
              | (go_at_call 14; refine (toVal_any m (.slice ao l.length cap) l _ (HR12.out.later (by go_grown)) hbig).mono ?_; rintro e w13 ⟨va, rfl, oa, b13⟩; (first | with_reducible have V13 := VarZ.drawn b13 | skip); have d13 : Below w12.heap.size w12 w13 := (Below.trans (by go_grown) (b13.mono (by first | omega | (simp; done) | (simp; omega)))); have c13 : Below w.heap.size w w13 := c12.trans (d13.mono c12.size); have o0_13 : w13.cell? ⟨w.heap.size + 1, 0, none⟩ = some (.int .i64 k) := (by rw [b13.cell (by first | omega | (simp; done) | (simp; omega))]; go_cell); have o1_13 : w13.cell? ⟨w.heap.size + 1, 1, none⟩ = some (.int .i64 a) := (by rw [b13.cell (by first | omega | (simp; done) | (simp; omega))]; go_cell); have o2_13 : w13.cell? ⟨w.heap.size + 1, 2, none⟩ = some (.int .i64 b) := (by rw [b13.cell (by first | omega | (simp; done) | (simp; omega))]; go_cell); have o3_13 : w13.cell? ⟨w.heap.size + 1, 3, none⟩ = some (.int .i64 n) := (by rw [b13.cell (by first | omega | (simp; done) | (simp; omega))]; go_cell); have ol_13 : w.heap.size + 1 < w13.heap.size := (by have := b13.size; first | omega | (revert this; simp; done) | (revert this; simp; omega)); clear o0_12 o1_12 o2_12 o3_12 ol_12; have OA13 := hid oa; clear oa)
              | (go_at_call 10; refine (toOp_any k a b n _).mono ?_; rintro e w14 ⟨rfl, b14⟩; have d14 : Below w13.heap.size w13 w14 := (Below.trans (by go_grown) (b14.mono (by first | omega | (simp; done) | (simp; omega)))); have c14 : Below w.heap.size w w14 := c13.trans (d14.mono c13.size); (first | with_reducible have V14 := VarZ.later V13 d14 | with_reducible have V14 := VarZ.past b14 | skip); have OA14 := hid (OA13.out.later d14); clear OA13)
              | (go_at_call 15; refine (implDo_any k a b n m _ l _ (OA14.out.rd.later (by go_grown)) hll).mono ?_; rintro e w15 ⟨⟨vh, rfl, oh⟩, b15⟩; obtain ⟨ho, hc, hhv, _⟩ := oh.rd; subst hhv; have d15 : Below w14.heap.size w14 w15 := (Below.trans (by go_grown) (b15.mono (by first | omega | (simp; done) | (simp; omega)))); have c15 : Below w.heap.size w w15 := c14.trans (d15.mono c14.size); (first | (with_reducible have V15 := VarZ.later V14 d15; have z0 := V15.c0; have z1 := V15.c1; have z2 := V15.f0; have z3 := V15.f1; have z4 := V15.lt; have z5 := V14.lt) | (with_reducible have V15 := VarZ.past b15; have z0 := V15.c0; have z1 := V15.c1; have z2 := V15.f0; have z3 := V15.f1; have z4 := V15.lt) | skip); have OH15 := hid oh; clear oh))
            all_goals
              go_wp2_with fail
              go_meet
              have e15 := (d13.trans (d14.mono d13.size)).trans (d15.mono (Nat.le_trans d13.size d14.size))
              have s14 := Nat.le_trans d13.size d14.size
              have t13 := d13.size
              have t14 := d14.size
              first
                | (with_reducible refine VarV.of_new OH15.out ?_ e15.size e15; first | omega | (simp; omega))
                | (with_reducible refine VarV.of_set V15 OH15.out ?_ ?_ ?_ e15 <;> first | omega | (simp; done) | (simp; omega))
          case rest =>
            obtain ⟨Bh, vh, rfl, hH0, hH1, q0, q1, oh, hneh, b13⟩ := hcut
            obtain ⟨w13, hw13⟩ : ∃ x, x = wc := ⟨_, rfl⟩
            subst hw13
            have HH13 := hid oh
            obtain ⟨ho, hc, hhv, _⟩ := oh.rd
            subst hhv
            have d13 : Below w12.heap.size w12 w13 := (Below.trans (by go_grown) (b13.mono (by first | omega | (simp; done) | (simp; omega))))
            have c13 : Below w.heap.size w w13 := c12.trans (d13.mono c12.size)
            have x0_13 : w13.cell? ⟨Bw, 0, none⟩ = some (.int .i64 (doN k a b n)) := (by rw [b13.cell (by first | omega | (simp; done) | (simp; omega))]; go_cell)
            have x1_13 : w13.cell? ⟨Bw, 1, none⟩ = some (.slice so (doL k a b n l).length sc) := (by rw [b13.cell (by first | omega | (simp; done) | (simp; omega))]; go_cell)
            have xl_13 : Bw < w13.heap.size := (by have := b13.size; first | omega | (revert this; simp; done) | (revert this; simp; omega))
            have g0_13 : w13.cell? ⟨Bg, 0, none⟩ = some (.int .i64 (doN k a b n)) := (by rw [b13.cell (by first | omega | (simp; done) | (simp; omega))]; go_cell)
            have g1_13 : w13.cell? ⟨Bg, 1, none⟩ = some (.slice go (doL k a b n l).length gc) := (by rw [b13.cell (by first | omega | (simp; done) | (simp; omega))]; go_cell)
            have gl_13 : Bg < w13.heap.size := (by have := b13.size; first | omega | (revert this; simp; done) | (revert this; simp; omega))
            clear x0_12 x1_12 xl_12 g0_12 g1_12 gl_12
            have h0_13 := q0
            have h1_13 := q1
            have hl_13 := hH1
            have HS13 := hid (HS12.out.later d13)
            have HG13 := hid (HG12.out.later d13)
            clear b13 d13 q0 q1 hH1 oh hneh
            go_wp2_with fail
            refine (eqVal_self (doN k a b n) _ _ (doL k a b n l) _ HH13.out.rd HS13.out.rd).mono ?_
            rintro e w14 ⟨rfl, b14⟩
            have d14 : Below w13.heap.size w13 w14 := (Below.trans (by go_grown) (b14.mono (by first | omega | (simp; done) | (simp; omega))))
            have c14 : Below w.heap.size w w14 := c13.trans (d14.mono c13.size)
            have g0_14 : w14.cell? ⟨Bg, 0, none⟩ = some (.int .i64 (doN k a b n)) := (by rw [b14.cell (by first | omega | (simp; done) | (simp; omega))]; go_cell)
            have g1_14 : w14.cell? ⟨Bg, 1, none⟩ = some (.slice go (doL k a b n l).length gc) := (by rw [b14.cell (by first | omega | (simp; done) | (simp; omega))]; go_cell)
            have gl_14 : Bg < w14.heap.size := (by have := b14.size; first | omega | (revert this; simp; done) | (revert this; simp; omega))
            clear g0_13 g1_13 gl_13
            have HG14 := hid (HG13.out.later d14)
            clear b14 d14
            go_wp2_with fail
            refine (heldVal_any (doN k a b n) _ (doL k a b n l).length 1 _ HG14.out.rd (by omega) (by omega) zl2).mono ?_
            rintro e w15 ⟨rfl, b15⟩
            have d15 : Below w14.heap.size w14 w15 := (Below.trans (by go_grown) (b15.mono (by first | omega | (simp; done) | (simp; omega))))
            have c15 : Below w.heap.size w w15 := c14.trans (d15.mono c14.size)
            go_wp2
            go_ret
            exact ⟨by simp, c15⟩
  · go_enter Try.func4, Try.ntmps4
    go_wp2_with fail
    refine (szVal_over m ao l.length cap _ hml (by omega) (by omega) (by omega) _).mono ?_
    rintro e w1 ⟨rfl, b1⟩
    have c1 : Below w.heap.size w w1 := (Below.trans (by go_grown) (b1.mono (by first | omega | (simp; done) | (simp; omega))))
    go_wp2
    go_ret
    exact ⟨by simp, c1⟩
end Go.Proofs.Ytnpfkhbnfihbdab
