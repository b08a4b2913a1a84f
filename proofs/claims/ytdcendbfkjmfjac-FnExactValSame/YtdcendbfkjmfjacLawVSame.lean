/- The law FnExactValSame: its walk. -/
import Derived.Test.YtdcendbfkjmfjacVs
import Derived.Test.YtdcendbfkjmfjacVa
import Derived.Deep.Cut
namespace Go.Proofs.Ytdcendbfkjmfjac
open Go.RowKit

set_option maxHeartbeats 2000000 in
theorem lawVSame_any (n : Int) (v : Value) (l : List (Int × Int)) (k : Int) (u : Value) (m : List (Int × Int)) (w : World) (h : Rd w v l) (hu : Rd w u m) :
    Calls Try.prog 6 #[.agg #[.int .i64 n, v], .agg #[.int .i64 k, u]] w fun e w' => e = .returned (.bool true) ∧ Below w.heap.size w w' := by
  obtain ⟨ao, cap, hv, hml, hc⟩ := id h
  subst hv
  clear hc
  obtain ⟨bo, cbp, hv, hmm, hc⟩ := id hu
  subst hv
  clear hc
  by_cases hbig : l.length ≤ 1048576
  · by_cases hbig2 : l.length + m.length ≤ 1048576
    · have hmb : m.length ≤ 1048576 := by omega
      go_enter Try.func6, Try.ntmps6
      go_wp2_with fail
      refine (szVal_fits n ao l.length cap _ (by omega) (by omega) _).mono ?_
      rintro e w1 ⟨rfl, b1⟩
      have c1 : Below w.heap.size w w1 := (Below.trans (by go_grown) (b1.mono (by first | omega | (simp; done) | (simp; omega))))
      have a0_1 : w1.cell? ⟨w.heap.size, 0, none⟩ = some (.int .i64 n) := (by rw [b1.cell (by first | omega | (simp; done) | (simp; omega))]; go_cell)
      have a1_1 : w1.cell? ⟨w.heap.size, 1, none⟩ = some (.slice ao l.length cap) := (by rw [b1.cell (by first | omega | (simp; done) | (simp; omega))]; go_cell)
      have al_1 : w.heap.size < w1.heap.size := (by have := b1.size; first | omega | (revert this; simp; done) | (revert this; simp; omega))
      have b0_1 : w1.cell? ⟨w.heap.size + 1, 0, none⟩ = some (.int .i64 k) := (by rw [b1.cell (by first | omega | (simp; done) | (simp; omega))]; go_cell)
      have b1_1 : w1.cell? ⟨w.heap.size + 1, 1, none⟩ = some (.slice bo m.length cbp) := (by rw [b1.cell (by first | omega | (simp; done) | (simp; omega))]; go_cell)
      have bl_1 : w.heap.size + 1 < w1.heap.size := (by have := b1.size; first | omega | (revert this; simp; done) | (revert this; simp; omega))
      clear b1
      go_wp2_with fail
      refine (szVal_fits k bo m.length cbp _ (by omega) (by omega) _).mono ?_
      rintro e w2 ⟨rfl, b2⟩
      have d2 : Below w1.heap.size w1 w2 := (Below.trans (by go_grown) (b2.mono (by first | omega | (simp; done) | (simp; omega))))
      have c2 : Below w.heap.size w w2 := c1.trans (d2.mono c1.size)
      have a0_2 : w2.cell? ⟨w.heap.size, 0, none⟩ = some (.int .i64 n) := (by rw [b2.cell (by first | omega | (simp; done) | (simp; omega))]; go_cell)
      have a1_2 : w2.cell? ⟨w.heap.size, 1, none⟩ = some (.slice ao l.length cap) := (by rw [b2.cell (by first | omega | (simp; done) | (simp; omega))]; go_cell)
      have al_2 : w.heap.size < w2.heap.size := (by have := b2.size; first | omega | (revert this; simp; done) | (revert this; simp; omega))
      have b0_2 : w2.cell? ⟨w.heap.size + 1, 0, none⟩ = some (.int .i64 k) := (by rw [b2.cell (by first | omega | (simp; done) | (simp; omega))]; go_cell)
      have b1_2 : w2.cell? ⟨w.heap.size + 1, 1, none⟩ = some (.slice bo m.length cbp) := (by rw [b2.cell (by first | omega | (simp; done) | (simp; omega))]; go_cell)
      have bl_2 : w.heap.size + 1 < w2.heap.size := (by have := b2.size; first | omega | (revert this; simp; done) | (revert this; simp; omega))
      clear a0_1 a1_1 al_1 b0_1 b1_1 bl_1
      clear b2 d2
      go_upto_region 8 with fail
      go_cut [6] from 10 (fun s wx => s = .bool (eqV n k l m) ∧ Below w2.heap.size w2 wx)
      case first =>
        go_region_with (first
          | (go_at_call 13; first
            | (have zz := a0_2; clear zz; refine (toVal_any n (.slice ao l.length cap) l _ (h.later (c2.drew)) hbig).mono ?_; rintro e w3 ⟨va, rfl, oa, b3⟩; have d3 : Below w2.heap.size w2 w3 := (Below.trans (by go_grown) (b3.mono (by first | omega | (simp; done) | (simp; omega)))); have c3 : Below w.heap.size w w3 := c2.trans (d3.mono c2.size); have a0_3 : w3.cell? ⟨w.heap.size, 0, none⟩ = some (.int .i64 n) := (by rw [b3.cell (by first | omega | (simp; done) | (simp; omega))]; go_cell); have a1_3 : w3.cell? ⟨w.heap.size, 1, none⟩ = some (.slice ao l.length cap) := (by rw [b3.cell (by first | omega | (simp; done) | (simp; omega))]; go_cell); have al_3 : w.heap.size < w3.heap.size := (by have := b3.size; first | omega | (revert this; simp; done) | (revert this; simp; omega)); have b0_3 : w3.cell? ⟨w.heap.size + 1, 0, none⟩ = some (.int .i64 k) := (by rw [b3.cell (by first | omega | (simp; done) | (simp; omega))]; go_cell); have b1_3 : w3.cell? ⟨w.heap.size + 1, 1, none⟩ = some (.slice bo m.length cbp) := (by rw [b3.cell (by first | omega | (simp; done) | (simp; omega))]; go_cell); have bl_3 : w.heap.size + 1 < w3.heap.size := (by have := b3.size; first | omega | (revert this; simp; done) | (revert this; simp; omega)); clear a0_2 a1_2 al_2 b0_2 b1_2 bl_2)
            | (refine (toVal_any k (.slice bo m.length cbp) m _ (hu.later c3) hmb).mono ?_; rintro e w4 ⟨vb, rfl, ob, b4⟩; have d4 : Below w3.heap.size w3 w4 := (Below.trans (by go_grown) (b4.mono (by first | omega | (simp; done) | (simp; omega)))); have c4 : Below w.heap.size w w4 := c3.trans (d4.mono c3.size); have a0_4 : w4.cell? ⟨w.heap.size, 0, none⟩ = some (.int .i64 n) := (by rw [b4.cell (by first | omega | (simp; done) | (simp; omega))]; go_cell); have a1_4 : w4.cell? ⟨w.heap.size, 1, none⟩ = some (.slice ao l.length cap) := (by rw [b4.cell (by first | omega | (simp; done) | (simp; omega))]; go_cell); have al_4 : w.heap.size < w4.heap.size := (by have := b4.size; first | omega | (revert this; simp; done) | (revert this; simp; omega)); have b0_4 : w4.cell? ⟨w.heap.size + 1, 0, none⟩ = some (.int .i64 k) := (by rw [b4.cell (by first | omega | (simp; done) | (simp; omega))]; go_cell); have b1_4 : w4.cell? ⟨w.heap.size + 1, 1, none⟩ = some (.slice bo m.length cbp) := (by rw [b4.cell (by first | omega | (simp; done) | (simp; omega))]; go_cell); have bl_4 : w.heap.size + 1 < w4.heap.size := (by have := b4.size; first | omega | (revert this; simp; done) | (revert this; simp; omega)); clear a0_3 a1_3 al_3 b0_3 b1_3 bl_3))
          | (go_at_call 16; refine (specVSame_any n k _ _ l m _ (oa.rd.later d4) ob.rd).mono ?_; rintro e w5 ⟨rfl, b5⟩; have d5 : Below w4.heap.size w4 w5 := (Below.trans (by go_grown) (b5.mono (by first | omega | (simp; done) | (simp; omega)))); have c5 : Below w.heap.size w w5 := c4.trans (d5.mono c4.size)))
        all_goals
          go_wp2_with fail
          go_meet
          exact ⟨rfl, (d3.trans (d4.mono d3.size)).trans (d5.mono (Nat.le_trans d3.size d4.size))⟩
      case rest =>
        obtain ⟨rfl, b5⟩ := hcut
        obtain ⟨w5, hw5⟩ : ∃ x, x = wc := ⟨_, rfl⟩
        subst hw5
        have d5 : Below w2.heap.size w2 w5 := (Below.trans (by go_grown) (b5.mono (by first | omega | (simp; done) | (simp; omega))))
        have c5 : Below w.heap.size w w5 := c2.trans (d5.mono c2.size)
        have a0_5 : w5.cell? ⟨w.heap.size, 0, none⟩ = some (.int .i64 n) := (by rw [b5.cell (by first | omega | (simp; done) | (simp; omega))]; go_cell)
        have a1_5 : w5.cell? ⟨w.heap.size, 1, none⟩ = some (.slice ao l.length cap) := (by rw [b5.cell (by first | omega | (simp; done) | (simp; omega))]; go_cell)
        have al_5 : w.heap.size < w5.heap.size := (by have := b5.size; first | omega | (revert this; simp; done) | (revert this; simp; omega))
        have b0_5 : w5.cell? ⟨w.heap.size + 1, 0, none⟩ = some (.int .i64 k) := (by rw [b5.cell (by first | omega | (simp; done) | (simp; omega))]; go_cell)
        have b1_5 : w5.cell? ⟨w.heap.size + 1, 1, none⟩ = some (.slice bo m.length cbp) := (by rw [b5.cell (by first | omega | (simp; done) | (simp; omega))]; go_cell)
        have bl_5 : w.heap.size + 1 < w5.heap.size := (by have := b5.size; first | omega | (revert this; simp; done) | (revert this; simp; omega))
        clear a0_2 a1_2 al_2 b0_2 b1_2 bl_2
        clear b5 d5
        go_wp2_with fail
        refine (toVal_any n _ l _ (h.later c5) hbig).mono ?_
        rintro e w6 ⟨vc, rfl, oc, b6⟩
        have d6 : Below w5.heap.size w5 w6 := (Below.trans (by go_grown) (b6.mono (by first | omega | (simp; done) | (simp; omega))))
        have c6 : Below w.heap.size w w6 := c5.trans (d6.mono c5.size)
        have a0_6 : w6.cell? ⟨w.heap.size, 0, none⟩ = some (.int .i64 n) := (by rw [b6.cell (by first | omega | (simp; done) | (simp; omega))]; go_cell)
        have a1_6 : w6.cell? ⟨w.heap.size, 1, none⟩ = some (.slice ao l.length cap) := (by rw [b6.cell (by first | omega | (simp; done) | (simp; omega))]; go_cell)
        have al_6 : w.heap.size < w6.heap.size := (by have := b6.size; first | omega | (revert this; simp; done) | (revert this; simp; omega))
        have b0_6 : w6.cell? ⟨w.heap.size + 1, 0, none⟩ = some (.int .i64 k) := (by rw [b6.cell (by first | omega | (simp; done) | (simp; omega))]; go_cell)
        have b1_6 : w6.cell? ⟨w.heap.size + 1, 1, none⟩ = some (.slice bo m.length cbp) := (by rw [b6.cell (by first | omega | (simp; done) | (simp; omega))]; go_cell)
        have bl_6 : w.heap.size + 1 < w6.heap.size := (by have := b6.size; first | omega | (revert this; simp; done) | (revert this; simp; omega))
        clear a0_5 a1_5 al_5 b0_5 b1_5 bl_5
        clear b6 d6
        obtain ⟨co, ccap, hvc, _⟩ := oc.rd
        subst hvc
        go_wp2_with fail
        refine (toVal_any k _ m _ (hu.later (by go_grown)) hmb).mono ?_
        rintro e w7 ⟨vd, rfl, od, b7⟩
        have d7 : Below w6.heap.size w6 w7 := (Below.trans (by go_grown) (b7.mono (by first | omega | (simp; done) | (simp; omega))))
        have c7 : Below w.heap.size w w7 := c6.trans (d7.mono c6.size)
        have a0_7 : w7.cell? ⟨w.heap.size, 0, none⟩ = some (.int .i64 n) := (by rw [b7.cell (by first | omega | (simp; done) | (simp; omega))]; go_cell)
        have a1_7 : w7.cell? ⟨w.heap.size, 1, none⟩ = some (.slice ao l.length cap) := (by rw [b7.cell (by first | omega | (simp; done) | (simp; omega))]; go_cell)
        have al_7 : w.heap.size < w7.heap.size := (by have := b7.size; first | omega | (revert this; simp; done) | (revert this; simp; omega))
        have b0_7 : w7.cell? ⟨w.heap.size + 1, 0, none⟩ = some (.int .i64 k) := (by rw [b7.cell (by first | omega | (simp; done) | (simp; omega))]; go_cell)
        have b1_7 : w7.cell? ⟨w.heap.size + 1, 1, none⟩ = some (.slice bo m.length cbp) := (by rw [b7.cell (by first | omega | (simp; done) | (simp; omega))]; go_cell)
        have bl_7 : w.heap.size + 1 < w7.heap.size := (by have := b7.size; first | omega | (revert this; simp; done) | (revert this; simp; omega))
        have x0_7 : w7.cell? ⟨w6.heap.size, 0, none⟩ = some (.int .i64 n) := (by rw [b7.cell (by first | omega | (simp; done) | (simp; omega))]; go_cell)
        have x1_7 : w7.cell? ⟨w6.heap.size, 1, none⟩ = some (.slice co l.length ccap) := (by rw [b7.cell (by first | omega | (simp; done) | (simp; omega))]; go_cell)
        have xl_7 : w6.heap.size < w7.heap.size := (by have := b7.size; first | omega | (revert this; simp; done) | (revert this; simp; omega))
        clear a0_6 a1_6 al_6 b0_6 b1_6 bl_6
        have oc7 := oc.later d7
        clear b7 d7 oc
        obtain ⟨eo, ecap, hvd, _⟩ := od.rd
        subst hvd
        go_wp2_with fail
        refine (implVSame_any n k _ _ l m _ (oc7.rd.later (by go_grown)) (od.rd.later (by go_grown))).mono ?_
        rintro e w8 ⟨rfl, b8⟩
        have d8 : Below w7.heap.size w7 w8 := (Below.trans (by go_grown) (b8.mono (by first | omega | (simp; done) | (simp; omega))))
        have c8 : Below w.heap.size w w8 := c7.trans (d8.mono c7.size)
        have a0_8 : w8.cell? ⟨w.heap.size, 0, none⟩ = some (.int .i64 n) := (by rw [b8.cell (by first | omega | (simp; done) | (simp; omega))]; go_cell)
        have a1_8 : w8.cell? ⟨w.heap.size, 1, none⟩ = some (.slice ao l.length cap) := (by rw [b8.cell (by first | omega | (simp; done) | (simp; omega))]; go_cell)
        have al_8 : w.heap.size < w8.heap.size := (by have := b8.size; first | omega | (revert this; simp; done) | (revert this; simp; omega))
        have b0_8 : w8.cell? ⟨w.heap.size + 1, 0, none⟩ = some (.int .i64 k) := (by rw [b8.cell (by first | omega | (simp; done) | (simp; omega))]; go_cell)
        have b1_8 : w8.cell? ⟨w.heap.size + 1, 1, none⟩ = some (.slice bo m.length cbp) := (by rw [b8.cell (by first | omega | (simp; done) | (simp; omega))]; go_cell)
        have bl_8 : w.heap.size + 1 < w8.heap.size := (by have := b8.size; first | omega | (revert this; simp; done) | (revert this; simp; omega))
        have x0_8 : w8.cell? ⟨w6.heap.size, 0, none⟩ = some (.int .i64 n) := (by rw [b8.cell (by first | omega | (simp; done) | (simp; omega))]; go_cell)
        have x1_8 : w8.cell? ⟨w6.heap.size, 1, none⟩ = some (.slice co l.length ccap) := (by rw [b8.cell (by first | omega | (simp; done) | (simp; omega))]; go_cell)
        have xl_8 : w6.heap.size < w8.heap.size := (by have := b8.size; first | omega | (revert this; simp; done) | (revert this; simp; omega))
        have y0_8 : w8.cell? ⟨w7.heap.size, 0, none⟩ = some (.int .i64 k) := (by rw [b8.cell (by first | omega | (simp; done) | (simp; omega))]; go_cell)
        have y1_8 : w8.cell? ⟨w7.heap.size, 1, none⟩ = some (.slice eo m.length ecap) := (by rw [b8.cell (by first | omega | (simp; done) | (simp; omega))]; go_cell)
        have yl_8 : w7.heap.size < w8.heap.size := (by have := b8.size; first | omega | (revert this; simp; done) | (revert this; simp; omega))
        clear a0_7 a1_7 al_7 b0_7 b1_7 bl_7 x0_7 x1_7 xl_7
        have oc8 := oc7.later d8
        have od8 := od.later d8
        clear b8 d8 oc7 od
        go_upto_region 14 with fail
        go_cut [39] from 10 (fun s wx => s = .bool false ∧ Below w8.heap.size w8 wx)
        case first =>
          go_region_with (first
            | (go_at_call 13; refine (toVal_any n (.slice ao l.length cap) l _ (h.later (c8.drew)) hbig).mono ?_; rintro e w9 ⟨ve, rfl, oe, b9⟩; have d9 : Below w8.heap.size w8 w9 := (Below.trans (by go_grown) (b9.mono (by first | omega | (simp; done) | (simp; omega)))); have c9 : Below w.heap.size w w9 := c8.trans (d9.mono c8.size); have a0_9 : w9.cell? ⟨w.heap.size, 0, none⟩ = some (.int .i64 n) := (by rw [b9.cell (by first | omega | (simp; done) | (simp; omega))]; go_cell); have a1_9 : w9.cell? ⟨w.heap.size, 1, none⟩ = some (.slice ao l.length cap) := (by rw [b9.cell (by first | omega | (simp; done) | (simp; omega))]; go_cell); have al_9 : w.heap.size < w9.heap.size := (by have := b9.size; first | omega | (revert this; simp; done) | (revert this; simp; omega)); have x0_9 : w9.cell? ⟨w6.heap.size, 0, none⟩ = some (.int .i64 n) := (by rw [b9.cell (by first | omega | (simp; done) | (simp; omega))]; go_cell); have x1_9 : w9.cell? ⟨w6.heap.size, 1, none⟩ = some (.slice co l.length ccap) := (by rw [b9.cell (by first | omega | (simp; done) | (simp; omega))]; go_cell); have xl_9 : w6.heap.size < w9.heap.size := (by have := b9.size; first | omega | (revert this; simp; done) | (revert this; simp; omega)); clear a0_8 a1_8 al_8 x0_8 x1_8 xl_8)
            | (go_at_call 15; refine (eqVal_self n _ _ l _ (oc8.rd.later d9) oe.rd).mono ?_; rintro e w10 ⟨rfl, b10⟩; have d10 : Below w9.heap.size w9 w10 := (Below.trans (by go_grown) (b10.mono (by first | omega | (simp; done) | (simp; omega)))); have c10 : Below w.heap.size w w10 := c9.trans (d10.mono c9.size)))
          all_goals
            go_wp2_with fail
            go_meet
            exact ⟨rfl, d9.trans (d10.mono d9.size)⟩
        case rest =>
          obtain ⟨rfl, b10⟩ := hcut
          obtain ⟨w10, hw10⟩ : ∃ x, x = wc := ⟨_, rfl⟩
          subst hw10
          have d10 : Below w8.heap.size w8 w10 := (Below.trans (by go_grown) (b10.mono (by first | omega | (simp; done) | (simp; omega))))
          have c10 : Below w.heap.size w w10 := c8.trans (d10.mono c8.size)
          have b0_10 : w10.cell? ⟨w.heap.size + 1, 0, none⟩ = some (.int .i64 k) := (by rw [b10.cell (by first | omega | (simp; done) | (simp; omega))]; go_cell)
          have b1_10 : w10.cell? ⟨w.heap.size + 1, 1, none⟩ = some (.slice bo m.length cbp) := (by rw [b10.cell (by first | omega | (simp; done) | (simp; omega))]; go_cell)
          have bl_10 : w.heap.size + 1 < w10.heap.size := (by have := b10.size; first | omega | (revert this; simp; done) | (revert this; simp; omega))
          have y0_10 : w10.cell? ⟨w7.heap.size, 0, none⟩ = some (.int .i64 k) := (by rw [b10.cell (by first | omega | (simp; done) | (simp; omega))]; go_cell)
          have y1_10 : w10.cell? ⟨w7.heap.size, 1, none⟩ = some (.slice eo m.length ecap) := (by rw [b10.cell (by first | omega | (simp; done) | (simp; omega))]; go_cell)
          have yl_10 : w7.heap.size < w10.heap.size := (by have := b10.size; first | omega | (revert this; simp; done) | (revert this; simp; omega))
          clear b0_8 b1_8 bl_8 y0_8 y1_8 yl_8
          have od10 := od8.later d10
          clear b10 d10 oc8 od8
          go_upto_region 16 with fail
          go_cut [44] from 10 (fun s wx => s = .bool false ∧ Below w10.heap.size w10 wx)
          case first =>
            go_region_with (first
              | (go_at_call 13; refine (toVal_any k (.slice bo m.length cbp) m _ (hu.later (c10.drew)) hmb).mono ?_; rintro e w11 ⟨ve, rfl, oe, b11⟩; have d11 : Below w10.heap.size w10 w11 := (Below.trans (by go_grown) (b11.mono (by first | omega | (simp; done) | (simp; omega)))); have c11 : Below w.heap.size w w11 := c10.trans (d11.mono c10.size); have b0_11 : w11.cell? ⟨w.heap.size + 1, 0, none⟩ = some (.int .i64 k) := (by rw [b11.cell (by first | omega | (simp; done) | (simp; omega))]; go_cell); have b1_11 : w11.cell? ⟨w.heap.size + 1, 1, none⟩ = some (.slice bo m.length cbp) := (by rw [b11.cell (by first | omega | (simp; done) | (simp; omega))]; go_cell); have bl_11 : w.heap.size + 1 < w11.heap.size := (by have := b11.size; first | omega | (revert this; simp; done) | (revert this; simp; omega)); have y0_11 : w11.cell? ⟨w7.heap.size, 0, none⟩ = some (.int .i64 k) := (by rw [b11.cell (by first | omega | (simp; done) | (simp; omega))]; go_cell); have y1_11 : w11.cell? ⟨w7.heap.size, 1, none⟩ = some (.slice eo m.length ecap) := (by rw [b11.cell (by first | omega | (simp; done) | (simp; omega))]; go_cell); have yl_11 : w7.heap.size < w11.heap.size := (by have := b11.size; first | omega | (revert this; simp; done) | (revert this; simp; omega)); clear b0_10 b1_10 bl_10 y0_10 y1_10 yl_10)
              | (go_at_call 15; refine (eqVal_self k _ _ m _ (od10.rd.later d11) oe.rd).mono ?_; rintro e w12 ⟨rfl, b12⟩; have d12 : Below w11.heap.size w11 w12 := (Below.trans (by go_grown) (b12.mono (by first | omega | (simp; done) | (simp; omega)))); have c12 : Below w.heap.size w w12 := c11.trans (d12.mono c11.size)))
            all_goals
              go_wp2_with fail
              go_meet
              exact ⟨rfl, d11.trans (d12.mono d11.size)⟩
          case rest =>
            obtain ⟨rfl, b12⟩ := hcut
            have c12 := c10.trans (b12.mono c10.size)
            clear b12
            go_wp2
            go_ret
            exact ⟨by simp, c12⟩
    · go_enter Try.func6, Try.ntmps6
      go_wp2_with fail
      refine (szVal_fits n ao l.length cap _ (by omega) (by omega) _).mono ?_
      rintro e w1 ⟨rfl, b1⟩
      have c1 : Below w.heap.size w w1 := (Below.trans (by go_grown) (b1.mono (by first | omega | (simp; done) | (simp; omega))))
      have b0_1 : w1.cell? ⟨w.heap.size + 1, 0, none⟩ = some (.int .i64 k) := (by rw [b1.cell (by first | omega | (simp; done) | (simp; omega))]; go_cell)
      have b1_1 : w1.cell? ⟨w.heap.size + 1, 1, none⟩ = some (.slice bo m.length cbp) := (by rw [b1.cell (by first | omega | (simp; done) | (simp; omega))]; go_cell)
      have bl_1 : w.heap.size + 1 < w1.heap.size := (by have := b1.size; first | omega | (revert this; simp; done) | (revert this; simp; omega))
      clear b1
      go_wp2_with fail
      refine (szVal_over k bo m.length cbp _ hmm (by omega) (by omega) (by omega) _).mono ?_
      rintro e w2 ⟨rfl, b2⟩
      have d2 : Below w1.heap.size w1 w2 := (Below.trans (by go_grown) (b2.mono (by first | omega | (simp; done) | (simp; omega))))
      have c2 : Below w.heap.size w w2 := c1.trans (d2.mono c1.size)
      go_wp2
      go_ret
      exact ⟨by simp, c2⟩
  · go_enter Try.func6, Try.ntmps6
    go_wp2_with fail
    refine (szVal_over n ao l.length cap _ hml (by omega) (by omega) (by omega) _).mono ?_
    rintro e w1 ⟨rfl, b1⟩
    have c1 : Below w.heap.size w w1 := (Below.trans (by go_grown) (b1.mono (by first | omega | (simp; done) | (simp; omega))))
    go_wp2
    go_ret
    exact ⟨by simp, c1⟩
end Go.Proofs.Ytdcendbfkjmfjac
