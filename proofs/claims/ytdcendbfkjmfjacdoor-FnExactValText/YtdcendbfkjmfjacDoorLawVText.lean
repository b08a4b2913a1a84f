/- The law FnExactValText: its walk. -/
import Derived.Test.YtdcendbfkjmfjacDoorVt
import Derived.Test.YtdcendbfkjmfjacDoorVa
import Derived.Deep.Cut
namespace Go.Proofs.YtdcendbfkjmfjacDoor
open Go.RowKit

set_option maxRecDepth 10000 in
set_option maxHeartbeats 2000000 in
theorem lawVText_any (k : Int) (n : Int) (v : Value) (l : List (Int × Int)) (w : World) (h : Rd w v l) (hb : -9223372036854775808 ≤ n ∧ n ≤ 9223372036854775807) (hw : WfL l) (ht : Tab w) :
    Calls Tryd.prog 3 #[.int .i64 k, .agg #[.int .i64 n, v]] w fun e w' => e = .returned (.bool true) ∧ Below w.heap.size w w' := by
  obtain ⟨ao, cap, hv, hml, hc⟩ := id h
  subst hv
  clear hc
  have HT := hid ht
  have HW := hid hw
  have HB := hid hb
  clear ht hw hb
  by_cases hbig : l.length ≤ 1048576
  · go_enter Tryd.func3, Tryd.ntmps3
    go_wp2_with fail
    refine (szVal_fits n ao l.length cap _ (by omega) (by omega) _).mono ?_
    rintro e w1 ⟨rfl, b1⟩
    have c1 : Below w.heap.size w w1 := (Below.trans (by go_grown) (b1.mono (by first | omega | (simp; done) | (simp; omega))))
    have a0_1 : w1.cell? ⟨w.heap.size, 0, none⟩ = some (.int .i64 n) := (by rw [b1.cell (by first | omega | (simp; done) | (simp; omega))]; go_cell)
    have a1_1 : w1.cell? ⟨w.heap.size, 1, none⟩ = some (.slice ao l.length cap) := (by rw [b1.cell (by first | omega | (simp; done) | (simp; omega))]; go_cell)
    have al_1 : w.heap.size < w1.heap.size := (by have := b1.size; first | omega | (revert this; simp; done) | (revert this; simp; omega))
    clear b1
    go_wp2_with fail
    refine (toVal_any n _ l _ (h.later c1) hbig).mono ?_
    rintro e w2 ⟨va, rfl, oa, b2⟩
    have d2 : Below w1.heap.size w1 w2 := (Below.trans (by go_grown) (b2.mono (by first | omega | (simp; done) | (simp; omega))))
    have c2 : Below w.heap.size w w2 := c1.trans (d2.mono c1.size)
    have a0_2 : w2.cell? ⟨w.heap.size, 0, none⟩ = some (.int .i64 n) := (by rw [b2.cell (by first | omega | (simp; done) | (simp; omega))]; go_cell)
    have a1_2 : w2.cell? ⟨w.heap.size, 1, none⟩ = some (.slice ao l.length cap) := (by rw [b2.cell (by first | omega | (simp; done) | (simp; omega))]; go_cell)
    have al_2 : w.heap.size < w2.heap.size := (by have := b2.size; first | omega | (revert this; simp; done) | (revert this; simp; omega))
    clear a0_1 a1_1 al_1
    clear b2 d2
    go_wp2_with fail
    refine (specVText_any k n _ l _ oa.rd hbig HW.out HB.out.1 HB.out.2).mono ?_
    rintro e w3 ⟨rfl, b3⟩
    have d3 : Below w2.heap.size w2 w3 := (Below.trans (by go_grown) (b3.mono (by first | omega | (simp; done) | (simp; omega))))
    have c3 : Below w.heap.size w w3 := c2.trans (d3.mono c2.size)
    have a0_3 : w3.cell? ⟨w.heap.size, 0, none⟩ = some (.int .i64 n) := (by rw [b3.cell (by first | omega | (simp; done) | (simp; omega))]; go_cell)
    have a1_3 : w3.cell? ⟨w.heap.size, 1, none⟩ = some (.slice ao l.length cap) := (by rw [b3.cell (by first | omega | (simp; done) | (simp; omega))]; go_cell)
    have al_3 : w.heap.size < w3.heap.size := (by have := b3.size; first | omega | (revert this; simp; done) | (revert this; simp; omega))
    clear a0_2 a1_2 al_2
    clear b3 d3 oa
    go_wp2_with fail
    refine (toVal_any n _ l _ (h.later c3) hbig).mono ?_
    rintro e w4 ⟨vc, rfl, oc, b4⟩
    have d4 : Below w3.heap.size w3 w4 := (Below.trans (by go_grown) (b4.mono (by first | omega | (simp; done) | (simp; omega))))
    have c4 : Below w.heap.size w w4 := c3.trans (d4.mono c3.size)
    have a0_4 : w4.cell? ⟨w.heap.size, 0, none⟩ = some (.int .i64 n) := (by rw [b4.cell (by first | omega | (simp; done) | (simp; omega))]; go_cell)
    have a1_4 : w4.cell? ⟨w.heap.size, 1, none⟩ = some (.slice ao l.length cap) := (by rw [b4.cell (by first | omega | (simp; done) | (simp; omega))]; go_cell)
    have al_4 : w.heap.size < w4.heap.size := (by have := b4.size; first | omega | (revert this; simp; done) | (revert this; simp; omega))
    clear a0_3 a1_3 al_3
    clear b4 d4
    obtain ⟨co, ccap, hvc, _⟩ := oc.rd
    subst hvc
    go_wp2_with fail
    refine (implVText_any k n _ l _ (oc.rd.later (by go_grown)) hbig HW.out HB.out.1 HB.out.2 (HT.out.below (by go_grown))).mono ?_
    rintro e w5 ⟨rfl, b5⟩
    have d5 : Below w4.heap.size w4 w5 := (Below.trans (by go_grown) (b5.mono (by first | omega | (simp; done) | (simp; omega))))
    have c5 : Below w.heap.size w w5 := c4.trans (d5.mono c4.size)
    have a0_5 : w5.cell? ⟨w.heap.size, 0, none⟩ = some (.int .i64 n) := (by rw [b5.cell (by first | omega | (simp; done) | (simp; omega))]; go_cell)
    have a1_5 : w5.cell? ⟨w.heap.size, 1, none⟩ = some (.slice ao l.length cap) := (by rw [b5.cell (by first | omega | (simp; done) | (simp; omega))]; go_cell)
    have al_5 : w.heap.size < w5.heap.size := (by have := b5.size; first | omega | (revert this; simp; done) | (revert this; simp; omega))
    have x0_5 : w5.cell? ⟨w4.heap.size, 0, none⟩ = some (.int .i64 n) := (by rw [b5.cell (by first | omega | (simp; done) | (simp; omega))]; go_cell)
    have x1_5 : w5.cell? ⟨w4.heap.size, 1, none⟩ = some (.slice co l.length ccap) := (by rw [b5.cell (by first | omega | (simp; done) | (simp; omega))]; go_cell)
    have xl_5 : w4.heap.size < w5.heap.size := (by have := b5.size; first | omega | (revert this; simp; done) | (revert this; simp; omega))
    clear a0_4 a1_4 al_4
    have oc5 := oc.later d5
    clear b5 d5 oc
    go_upto_region 10 with fail
    go_cut [30] from 9 (fun s wx => s = .bool false ∧ Below w5.heap.size w5 wx)
    case first =>
      go_region_with (first
        | (go_at_call 7; refine (toVal_any n (.slice ao l.length cap) l _ (h.later (c5.drew)) hbig).mono ?_; rintro e w9 ⟨ve, rfl, oe, b9⟩; have d9 : Below w5.heap.size w5 w9 := (Below.trans (by go_grown) (b9.mono (by first | omega | (simp; done) | (simp; omega)))); have c9 : Below w.heap.size w w9 := c5.trans (d9.mono c5.size); have a0_9 : w9.cell? ⟨w.heap.size, 0, none⟩ = some (.int .i64 n) := (by rw [b9.cell (by first | omega | (simp; done) | (simp; omega))]; go_cell); have a1_9 : w9.cell? ⟨w.heap.size, 1, none⟩ = some (.slice ao l.length cap) := (by rw [b9.cell (by first | omega | (simp; done) | (simp; omega))]; go_cell); have al_9 : w.heap.size < w9.heap.size := (by have := b9.size; first | omega | (revert this; simp; done) | (revert this; simp; omega)); have x0_9 : w9.cell? ⟨w4.heap.size, 0, none⟩ = some (.int .i64 n) := (by rw [b9.cell (by first | omega | (simp; done) | (simp; omega))]; go_cell); have x1_9 : w9.cell? ⟨w4.heap.size, 1, none⟩ = some (.slice co l.length ccap) := (by rw [b9.cell (by first | omega | (simp; done) | (simp; omega))]; go_cell); have xl_9 : w4.heap.size < w9.heap.size := (by have := b9.size; first | omega | (revert this; simp; done) | (revert this; simp; omega)); clear a0_5 a1_5 al_5 x0_5 x1_5 xl_5)
        | (go_at_call 9; refine (eqVal_self n _ _ l _ (oc5.rd.later d9) oe.rd).mono ?_; rintro e w10 ⟨rfl, b10⟩; have d10 : Below w9.heap.size w9 w10 := (Below.trans (by go_grown) (b10.mono (by first | omega | (simp; done) | (simp; omega)))); have c10 : Below w.heap.size w w10 := c9.trans (d10.mono c9.size)))
      all_goals
        go_wp2_with fail
        go_meet
        exact ⟨rfl, d9.trans (d10.mono d9.size)⟩
    case rest =>
      obtain ⟨rfl, b10⟩ := hcut
      have c10 := c5.trans (b10.mono c5.size)
      clear b10
      go_wp2
      go_ret
      exact ⟨by simp, c10⟩
  · go_enter Tryd.func3, Tryd.ntmps3
    go_wp2_with fail
    refine (szVal_over n ao l.length cap _ hml (by omega) (by omega) (by omega) _).mono ?_
    rintro e w1 ⟨rfl, b1⟩
    have c1 : Below w.heap.size w w1 := (Below.trans (by go_grown) (b1.mono (by first | omega | (simp; done) | (simp; omega))))
    go_wp2
    go_ret
    exact ⟨by simp, c1⟩
end Go.Proofs.YtdcendbfkjmfjacDoor
