/- The law FnVal: its walk. -/
import Derived.Test.YtiplklcabcpccaaGreatDoorDv
import Derived.Test.YtiplklcabcpccaaGreatDoorVx
import Derived.Test.YtiplklcabcpccaaGreatDoorErP
import Derived.Test.YtiplklcabcpccaaGreatDoorVs
import Derived.Deep.Cut
namespace Go.Proofs.YtiplklcabcpccaaGreatDoor
open Go.RowKit
attribute [local go_sem ↓] Go.wp_at_zero Go.wp_at_succ

theorem valR_ok {k : Int} {s : List UInt8} {n : Int} {l : List (Int × Int)} (h : ValR k s n l true) : okV k n l = true ∧ vTextL k n l = s ∧ WfL l ∧ l.length ≤ 200 ∧ 0 ≤ n ∧ n ≤ 1000000 := by
  rcases h with ⟨hk, rfl, h⟩ | ⟨hk, rfl, h⟩ | ⟨_, _, _, h⟩
  · rcases h with ⟨_, h0, h1, h2⟩ | ⟨h, _⟩
    · exact ⟨by rw [okV_thing hk]; exact decide_eq_true ⟨h0, h1⟩, by rw [vText_num hk, h2], fun i hi => absurd hi (by simp), by simp, h0, h1⟩
    · cases h
  · have hn := readR_length h
    rcases h with ⟨_, h0, h1, h2⟩ | ⟨h, _⟩
    · exact ⟨by rw [okV_kin0 hk, h0], by rw [vText_kin (by omega), h1], wf_ok h0, hn, by omega, by omega⟩
    · cases h
  · cases h
theorem valR_of_ok {k : Int} {n : Int} {l : List (Int × Int)} (h : okV k n l = true) (hl : l.length ≤ 7) : ValR k (vTextL k n l) n l true := by
  have hin : 0 ≤ k ∧ k < 24 := by
    apply Classical.byContradiction
    intro h'
    rw [okV_out h'] at h
    cases h
  by_cases hk : k / 8 = 0
  · have hkd : kindOf k = 0 := by rw [kindOf_in hin.1 hin.2, hk]
    have hn : 0 ≤ n ∧ n ≤ 1000000 := by
      apply Classical.byContradiction
      intro h'
      rw [okV_numNo hin.1 hin.2 hk h'] at h
      cases h
    rw [okV_numD hin.1 hin.2 hk hn.1 hn.2] at h
    have ea : l = [] := List.eq_nil_of_length_eq_zero (by simpa using h)
    subst ea
    exact Or.inl ⟨hkd, rfl, Or.inl ⟨rfl, hn.1, hn.2, vText_num hkd⟩⟩
  · have hkd : 0 < kindOf k := by rw [kindOf_in hin.1 hin.2]; omega
    rw [okV_kin hin.1 hin.2 hk, Bool.and_eq_true] at h
    have en : n = 0 := by simpa using h.1
    subst en
    have hs := text_short h.2
    exact Or.inr (Or.inl ⟨hkd, rfl, Or.inl ⟨rfl, h.2, (vText_kin (by omega)).symm, by rw [vText_kin (by omega)]; omega⟩⟩)

set_option maxRecDepth 100000 in
set_option maxHeartbeats 400000 in
theorem drawValText_any (v : Value) (n : Nat) (w : World) (h : Bs w v n) :
    Calls Tryz.prog 4 #[v] w fun e w' => ∃ (k z : Int) (u : Value) (l : List (Int × Int)), e = .returned (.tuple #[.int .i64 k, .agg #[.int .i64 z, u]]) ∧ Own w' w.heap.size u l ∧ l.length ≤ 7 ∧ BdL l ∧ (-1 ≤ z ∧ z ≤ 1000001) ∧ Below w.heap.size w w' := by
  obtain ⟨ao, cap, hv, _⟩ := id h
  subst hv
  have H := hid h
  clear h
  go_enter Tryz.func4, Tryz.ntmps4
  go_wp2_with fail
  have r0_1 : (w.alloc (.cells #[.int .i64 0, .slice none 0 0] 25)).cell? ⟨w.heap.size, 0, none⟩ = some (.int .i64 0) := by go_cell
  have rf0_1 : (w.alloc (.cells #[.int .i64 0, .slice none 0 0] 25)).frozen? ⟨w.heap.size, 0, none⟩ = false := by (first | go_cell | (simp [World.frozen?, World.alloc]; done) | rfl)
  have r1_1 : (w.alloc (.cells #[.int .i64 0, .slice none 0 0] 25)).cell? ⟨w.heap.size, 1, none⟩ = some (.slice none 0 0) := by go_cell
  have rf1_1 : (w.alloc (.cells #[.int .i64 0, .slice none 0 0] 25)).frozen? ⟨w.heap.size, 1, none⟩ = false := by (first | go_cell | (simp [World.frozen?, World.alloc]; done) | rfl)
  have rl_1 : w.heap.size < (w.alloc (.cells #[.int .i64 0, .slice none 0 0] 25)).heap.size := by first | (simp; done) | (simp; omega)
  have c1 : Below w.heap.size w (w.alloc (.cells #[.int .i64 0, .slice none 0 0] 25)) := by go_grown
  have s1 : (w.alloc (.cells #[.int .i64 0, .slice none 0 0] 25)).heap.size = w.heap.size + 1 := by simp
  generalize (w.alloc (.cells #[.int .i64 0, .slice none 0 0] 25)) = w1 at r0_1 rf0_1 r1_1 rf1_1 rl_1 c1 s1 ⊢
  have qr0_1 := cell_regrown r0_1
  have qr1_1 := cell_regrown r1_1
  refine (drawValOk_any _ n _ (H.out.later c1)).mono ?_
  rintro e w2 ⟨k, z, u, l, rfl, ho, hl, hbd, hz, b2⟩
  obtain ⟨uo, uc, hu, _⟩ := ho.rd
  subst hu
  have HO := hid ho
  have HB := hid hbd
  clear ho hbd
  have d2 : Below w1.heap.size w1 w2 := (Below.trans (by go_grown) (b2.mono (by first | omega | (simp; done) | (simp; omega))))
  have c2 : Below w.heap.size w w2 := c1.trans (d2.mono c1.size)
  have r0_2 : w2.cell? ⟨w.heap.size, 0, none⟩ = some (.int .i64 0) := (by rw [b2.cell (by first | omega | (simp; done) | (simp; omega))]; go_cell)
  have rf0_2 : w2.frozen? ⟨w.heap.size, 0, none⟩ = false := (by rw [b2.frozen (by first | omega | (simp; done) | (simp; omega))]; (first | go_cell | (simp [World.frozen?, World.alloc]; done) | rfl))
  have r1_2 : w2.cell? ⟨w.heap.size, 1, none⟩ = some (.slice none 0 0) := (by rw [b2.cell (by first | omega | (simp; done) | (simp; omega))]; go_cell)
  have rf1_2 : w2.frozen? ⟨w.heap.size, 1, none⟩ = false := (by rw [b2.frozen (by first | omega | (simp; done) | (simp; omega))]; (first | go_cell | (simp [World.frozen?, World.alloc]; done) | rfl))
  have rl_2 : w.heap.size < w2.heap.size := (by have := b2.size; first | omega | (revert this; simp; done) | (revert this; simp; omega))
  clear r0_1 rf0_1 r1_1 rf1_1 rl_1
  clear b2 d2
  have e0 : ((w2.setCell ⟨w.heap.size, 0, none⟩ (.int .i64 z)).setCell ⟨w.heap.size, 1, none⟩ (.slice uo l.length uc)).cell? ⟨w.heap.size, 0, none⟩ = some (.int .i64 z) := by go_cell
  have e1 : ((w2.setCell ⟨w.heap.size, 0, none⟩ (.int .i64 z)).setCell ⟨w.heap.size, 1, none⟩ (.slice uo l.length uc)).cell? ⟨w.heap.size, 1, none⟩ = some (.slice uo l.length uc) := by go_cell
  have HF := hid (((HO.out.apartSet2 (p := ⟨w.heap.size, 0, none⟩) (by show w.heap.size < _; omega) (.int .i64 z)).apartSet2 (p := ⟨w.heap.size, 1, none⟩) (by show w.heap.size < _; omega) (.slice uo l.length uc)).mono (B' := w.heap.size) (by omega))
  have HL := hid ((c2.setCell (p := ⟨w.heap.size, 0, none⟩) (Nat.le_refl _) (.int .i64 z)).setCell (p := ⟨w.heap.size, 1, none⟩) (Nat.le_refl _) (.slice uo l.length uc))
  go_wp2
  refine bodyPost_ret (v := .tuple #[.int .i64 k, .agg #[.int .i64 z, .slice uo l.length uc]]) (by simp [results, Tryz.results4, go_sem, e0, e1]) rfl ⟨_, _, _, _, rfl, HF.out, hl, HB.out, hz, HL.out⟩

set_option maxRecDepth 100000 in
set_option maxHeartbeats 4000000 in
theorem lawFVal_any (v : Value) (n : Nat) (v1 : Value) (m : Nat) (w : World) (h : Bs w v n) (h1 : Bs w v1 m) (hL : Lib4 w) :
    Calls Tryz.prog 3 #[v, v1] w fun e w' => e = .returned (.bool true) ∧ Below w.heap.size w w' := by
  obtain ⟨ao, cap, hv, h0, _⟩ := id h
  subst hv
  obtain ⟨bo, cbp, hv, h2, _⟩ := id h1
  subst hv
  unfold maxLen at h0 h2
  have HL := hid hL
  clear hL
  by_cases hbig : 1048576 < n
  · go_enter Tryz.func3, Tryz.ntmps3
    go_wp2
    all_goals
      go_ret
      exact ⟨rfl, Below.refl _ _⟩
  · by_cases hbig2 : 1048576 < m
    · go_enter Tryz.func3, Tryz.ntmps3
      go_wp2
      go_ret
      exact ⟨rfl, Below.refl _ _⟩
    · go_enter Tryz.func3, Tryz.ntmps3
      go_wp2_with fail
      refine (drawValText_any _ n _ h).mono ?_
      rintro e w1 ⟨k, z, u, l, rfl, o1, hl, hbd, hz, c1⟩
      obtain ⟨uo, uc, hu, _⟩ := o1.rd
      subst hu
      have HO1 := hid o1
      have HBD := hid hbd
      clear o1 hbd
      go_wp2_with fail
      have a0_2 : (w1.alloc (.cells #[.int .i64 z, .slice uo l.length uc] 25)).cell? ⟨w1.heap.size, 0, none⟩ = some (.int .i64 z) := by go_cell
      have a1_2 : (w1.alloc (.cells #[.int .i64 z, .slice uo l.length uc] 25)).cell? ⟨w1.heap.size, 1, none⟩ = some (.slice uo l.length uc) := by go_cell
      have al_2 : w1.heap.size < (w1.alloc (.cells #[.int .i64 z, .slice uo l.length uc] 25)).heap.size := by simp
      have d2 : Below w1.heap.size w1 (w1.alloc (.cells #[.int .i64 z, .slice uo l.length uc] 25)) := by go_grown
      generalize (w1.alloc (.cells #[.int .i64 z, .slice uo l.length uc] 25)) = w2 at a0_2 a1_2 al_2 d2 ⊢
      have c2 : Below w.heap.size w w2 := c1.trans (d2.mono c1.size)
      have HO2 := hid (HO1.out.later d2)
      clear d2 HO1
      refine (implVText_any k z _ l _ HO2.out.rd (by omega) (bd_wf HBD.out) (by omega) (by omega) (HL.out.tab.below c2)).mono ?_
      rintro e w3 ⟨rfl, b3⟩
      have d3 : Below w2.heap.size w2 w3 := (Below.trans (by go_grown) (b3.mono (by first | omega | (simp; done) | (simp; omega))))
      have c3 : Below w.heap.size w w3 := c2.trans (d3.mono c2.size)
      have a0_3 : w3.cell? ⟨w1.heap.size, 0, none⟩ = some (.int .i64 z) := (by rw [b3.cell (by first | omega | (simp; done) | (simp; omega))]; go_cell)
      have a1_3 : w3.cell? ⟨w1.heap.size, 1, none⟩ = some (.slice uo l.length uc) := (by rw [b3.cell (by first | omega | (simp; done) | (simp; omega))]; go_cell)
      have al_3 : w1.heap.size < w3.heap.size := (by have := b3.size; first | omega | (revert this; simp; done) | (revert this; simp; omega))
      clear a0_2 a1_2 al_2
      have HO3 := hid (HO2.out.later d3)
      clear b3 d3 HO2
      obtain ⟨tx, htx⟩ : ∃ s : ByteArray, s = ⟨(vTextL k z l).toArray⟩ := ⟨_, rfl⟩
      have htl : tx.data.toList = vTextL k z l := by rw [htx]
      have hts : tx.size ≤ 1048576 := by
        have h1 : tx.size = (vTextL k z l).length := by rw [htx]; rfl
        have := vtext_len (k := k) HBD.out hz hl
        omega
      rw [← htx]
      have HTX := hid htx
      have HTL := hid htl
      clear htx htl
      go_wp2_with fail
      refine (implVRead_any k tx _ hts (HL.out.below c3)).mono ?_
      rintro e w4 ⟨⟨n', vg, l', b', rfl, og, hgR⟩, b4⟩
      have d4 : Below w3.heap.size w3 w4 := (Below.trans (by go_grown) (b4.mono (by first | omega | (simp; done) | (simp; omega))))
      have c4 : Below w.heap.size w w4 := c3.trans (d4.mono c3.size)
      have a0_4 : w4.cell? ⟨w1.heap.size, 0, none⟩ = some (.int .i64 z) := (by rw [b4.cell (by first | omega | (simp; done) | (simp; omega))]; go_cell)
      have a1_4 : w4.cell? ⟨w1.heap.size, 1, none⟩ = some (.slice uo l.length uc) := (by rw [b4.cell (by first | omega | (simp; done) | (simp; omega))]; go_cell)
      have al_4 : w1.heap.size < w4.heap.size := (by have := b4.size; first | omega | (revert this; simp; done) | (revert this; simp; omega))
      clear a0_3 a1_3 al_3
      have HO4 := hid (HO3.out.later d4)
      have HG4 := hid og
      have HGR := hid hgR
      obtain ⟨go, gc, hgv, _⟩ := og.rd
      subst hgv
      clear b4 d4 HO3 og hgR
      go_wp2_with fail
      have x0_5 : (w4.alloc (.cells #[.int .i64 n', .slice go l'.length gc] 25)).cell? ⟨w4.heap.size, 0, none⟩ = some (.int .i64 n') := by go_cell
      have x1_5 : (w4.alloc (.cells #[.int .i64 n', .slice go l'.length gc] 25)).cell? ⟨w4.heap.size, 1, none⟩ = some (.slice go l'.length gc) := by go_cell
      have xl_5 : w4.heap.size < (w4.alloc (.cells #[.int .i64 n', .slice go l'.length gc] 25)).heap.size := by simp
      have d5 : Below w4.heap.size w4 (w4.alloc (.cells #[.int .i64 n', .slice go l'.length gc] 25)) := by go_grown
      generalize (w4.alloc (.cells #[.int .i64 n', .slice go l'.length gc] 25)) = w5 at x0_5 x1_5 xl_5 d5 ⊢
      have c5 : Below w.heap.size w w5 := c4.trans (d5.mono c4.size)
      have a0_5 : w5.cell? ⟨w1.heap.size, 0, none⟩ = some (.int .i64 z) := (by rw [d5.cell (by first | omega | (simp; done) | (simp; omega))]; go_cell)
      have a1_5 : w5.cell? ⟨w1.heap.size, 1, none⟩ = some (.slice uo l.length uc) := (by rw [d5.cell (by first | omega | (simp; done) | (simp; omega))]; go_cell)
      have al_5 : w1.heap.size < w5.heap.size := (by have := d5.size; omega)
      clear a0_4 a1_4 al_4
      have HO5 := hid (HO4.out.later d5)
      have HG5 := hid (HG4.out.later d5)
      clear d5 HO4 HG4
      have hzb : -9223372036854775808 ≤ z ∧ z ≤ 9223372036854775807 := by omega
      have CT := fun (W : World) (h : Rd W (.slice uo l.length uc) l) => specVText_any k z _ l W h (by omega) (bd_wf HBD.out) hzb.1 hzb.2
      rw [← HTX.out] at CT
      have CA := fun (W : World) (h : Rd W (.slice uo l.length uc) l) => implOkV_any k z _ l W h
      have CS := fun (W : World) (h : Rd W (.slice uo l.length uc) l) => specOkV_any k z _ l W h
      have r0 := cell_regrown a0_5
      have r1 := cell_regrown a1_5
      have r2 := cell_regrown x0_5
      have r3 := cell_regrown x1_5
      cases hok : okV k z l
      case' true =>
        obtain ⟨e1, e2, e3⟩ := ValR.unique (HTL.out ▸ valR_of_ok hok hl) HGR.out
        subst e3
        subst e1
        subst e2
        have CV := fun (W : World) (h : Rd W (.slice go l.length gc) l) (h1 : Rd W (.slice uo l.length uc) l) => implVSame_any z z _ _ l l W h h1
        rw [eqV_refl] at CV
        rw [hok] at CA CS
        refine wp_region_quiet_below (by kernel_rfl) (by kernel_rfl) ?_
        repeat (first | go_big_quiet_skip | (go_big_quiet_want; go_big_quiet_op; first | go_big_quiet_on | go_big_quiet_call (first | (go_at_call 7; exact Calls.regrown_of (CT _ (HO5.out.rd.later (below_regrown _ _ _)))) | (go_at_call 8; exact Calls.regrown_of (CA _ (HO5.out.rd.later (below_regrown _ _ _)))) | (go_at_call 9; exact Calls.regrown_of (CS _ (HO5.out.rd.later (below_regrown _ _ _)))) | (go_at_call 10; exact Calls.regrown_of (CV _ (HG5.out.rd.later (below_regrown _ _ _)) (HO5.out.rd.later (below_regrown _ _ _)))))))
        refine wpQuiet_nil ?_
        rintro wq ⟨pq, hwq⟩
        have hq : Below w5.heap.size w5 wq := by rw [hwq]; exact below_regrown _ _ _
        clear hwq pq
      case' false =>
        rw [hok] at CA CS
        refine wp_region_quiet_below (by kernel_rfl) (by kernel_rfl) ?_
        repeat (first | go_big_quiet_skip | (go_big_quiet_want; go_big_quiet_op; first | go_big_quiet_on | go_big_quiet_call (first | (go_at_call 7; exact Calls.regrown_of (CT _ (HO5.out.rd.later (below_regrown _ _ _)))) | (go_at_call 8; exact Calls.regrown_of (CA _ (HO5.out.rd.later (below_regrown _ _ _)))) | (go_at_call 9; exact Calls.regrown_of (CS _ (HO5.out.rd.later (below_regrown _ _ _)))))))
        refine wpQuiet_nil ?_
        rintro wq ⟨pq, hwq⟩
        have hq : Below w5.heap.size w5 wq := by rw [hwq]; exact below_regrown _ _ _
        clear hwq pq
      all_goals
        clear r0 r1 r2 r3 CT CA CS
        have c9 := c5.trans (hq.mono c5.size)
        generalize wq = w9 at *
        clear hq HO5 HG5 a0_5 a1_5 al_5 x0_5 x1_5 xl_5
        go_wp2_with fail
        refine (drawValRead_any _ m _ (h1.later c9)).mono ?_
        rintro e w10 ⟨k2, ty, rfl, hty, b10⟩
        have c10 := c9.trans (b10.mono c9.size)
        go_wp2_with fail
        refine (implVRead_any k2 ty _ (by omega) (HL.out.below c10)).mono ?_
        rintro e w11 ⟨⟨n2, vy, ly, bb, rfl, oy, hR⟩, b11⟩
        have c11 := c10.trans (b11.mono c10.size)
        have HY11 := hid oy
        have HRY := hid hR
        obtain ⟨yo, yc, hyv, _⟩ := oy.rd
        subst hyv
        clear b10 b11 oy hR c9
        go_wp2_with fail
        have y0_12 : (w11.alloc (.cells #[.int .i64 n2, .slice yo ly.length yc] 25)).cell? ⟨w11.heap.size, 0, none⟩ = some (.int .i64 n2) := by go_cell
        have y1_12 : (w11.alloc (.cells #[.int .i64 n2, .slice yo ly.length yc] 25)).cell? ⟨w11.heap.size, 1, none⟩ = some (.slice yo ly.length yc) := by go_cell
        have yl_12 : w11.heap.size < (w11.alloc (.cells #[.int .i64 n2, .slice yo ly.length yc] 25)).heap.size := by simp
        have d12 : Below w11.heap.size w11 (w11.alloc (.cells #[.int .i64 n2, .slice yo ly.length yc] 25)) := by go_grown
        generalize (w11.alloc (.cells #[.int .i64 n2, .slice yo ly.length yc] 25)) = w12 at y0_12 y1_12 yl_12 d12 ⊢
        have c12 : Below w.heap.size w w12 := c11.trans (d12.mono c11.size)
        have HY12 := hid (HY11.out.later d12)
        clear d12 HY11
        refine (specVRead_any k2 ty _ (by omega)).mono ?_
        rintro e w13 ⟨⟨n3, vt, lt, bt, rfl, hvt, hR, _⟩, b13⟩
        obtain ⟨-, -, rfl⟩ := ValR.unique HRY.out hR
        obtain ⟨to', tc, hv, _⟩ := hvt
        subst hv
        have d13 : Below w12.heap.size w12 w13 := (Below.trans (by go_grown) (b13.mono (by first | omega | (simp; done) | (simp; omega))))
        have c13 : Below w.heap.size w w13 := c12.trans (d13.mono c12.size)
        have y0_13 : w13.cell? ⟨w11.heap.size, 0, none⟩ = some (.int .i64 n2) := (by rw [b13.cell (by first | omega | (simp; done) | (simp; omega))]; go_cell)
        have y1_13 : w13.cell? ⟨w11.heap.size, 1, none⟩ = some (.slice yo ly.length yc) := (by rw [b13.cell (by first | omega | (simp; done) | (simp; omega))]; go_cell)
        have yl_13 : w11.heap.size < w13.heap.size := (by have := b13.size; first | omega | (revert this; simp; done) | (revert this; simp; omega))
        clear y0_12 y1_12 yl_12
        have HY13 := hid (HY12.out.later d13)
        clear b13 d13 HY12 hR
        cases bb
        case false =>
          go_wp2
          go_ret
          exact ⟨by simp, c13.trans ((show Below w13.heap.size w13 _ from by go_grown).mono c13.size)⟩
        case true =>
          obtain ⟨hoy, hty2, hwy, hly, hn0, hn1⟩ := valR_ok HRY.out
          have hty3 : (⟨(vTextL k2 n2 ly).toArray⟩ : ByteArray) = ty := by rw [hty2]
          have HTY := hid hty3
          clear hty2 hty3
          go_wp2_with fail
          have t0_14 : (w13.alloc (.cells #[.int .i64 n3, .slice to' lt.length tc] 25)).cell? ⟨w13.heap.size, 0, none⟩ = some (.int .i64 n3) := by go_cell
          have t1_14 : (w13.alloc (.cells #[.int .i64 n3, .slice to' lt.length tc] 25)).cell? ⟨w13.heap.size, 1, none⟩ = some (.slice to' lt.length tc) := by go_cell
          have tl_14 : w13.heap.size < (w13.alloc (.cells #[.int .i64 n3, .slice to' lt.length tc] 25)).heap.size := by simp
          have d14 : Below w13.heap.size w13 (w13.alloc (.cells #[.int .i64 n3, .slice to' lt.length tc] 25)) := by go_grown
          generalize (w13.alloc (.cells #[.int .i64 n3, .slice to' lt.length tc] 25)) = w14 at t0_14 t1_14 tl_14 d14 ⊢
          have c14 : Below w.heap.size w w14 := c13.trans (d14.mono c13.size)
          have y0_14 : w14.cell? ⟨w11.heap.size, 0, none⟩ = some (.int .i64 n2) := (by rw [d14.cell (by first | omega | (simp; done) | (simp; omega))]; go_cell)
          have y1_14 : w14.cell? ⟨w11.heap.size, 1, none⟩ = some (.slice yo ly.length yc) := (by rw [d14.cell (by first | omega | (simp; done) | (simp; omega))]; go_cell)
          have yl_14 : w11.heap.size < w14.heap.size := (by have := d14.size; omega)
          clear y0_13 y1_13 yl_13
          have HY14 := hid (HY13.out.later d14)
          clear d14 HY13
          refine (implOkV_any k2 n2 _ ly _ HY14.out.rd).mono ?_
          rintro e w15 ⟨rfl, b15⟩
          rw [hoy]
          have d15 : Below w14.heap.size w14 w15 := (Below.trans (by go_grown) (b15.mono (by first | omega | (simp; done) | (simp; omega))))
          have c15 : Below w.heap.size w w15 := c14.trans (d15.mono c14.size)
          have y0_15 : w15.cell? ⟨w11.heap.size, 0, none⟩ = some (.int .i64 n2) := (by rw [b15.cell (by first | omega | (simp; done) | (simp; omega))]; go_cell)
          have y1_15 : w15.cell? ⟨w11.heap.size, 1, none⟩ = some (.slice yo ly.length yc) := (by rw [b15.cell (by first | omega | (simp; done) | (simp; omega))]; go_cell)
          have yl_15 : w11.heap.size < w15.heap.size := (by have := b15.size; first | omega | (revert this; simp; done) | (revert this; simp; omega))
          clear y0_14 y1_14 yl_14
          have HY15 := hid (HY14.out.later d15)
          clear b15 d15 HY14
          go_wp2_with fail
          refine (implVText_any k2 n2 _ ly _ HY15.out.rd (by omega) hwy (by omega) (by omega) (HL.out.tab.below c15)).mono ?_
          rintro e w16 ⟨rfl, b16⟩
          rw [HTY.out]
          have c16 := c15.trans (b16.mono c15.size)
          clear b16
          go_wp2
          go_ret
          exact ⟨by simp, c16⟩
end Go.Proofs.YtiplklcabcpccaaGreatDoor
