/- The law FnOp: its walk. -/
import Derived.Test.YthmbhcgecnkgeaaLq
import Derived.Test.YthmbhcgecnkgeaaOd
import Derived.Test.YthmbhcgecnkgeaaOe
import Derived.Test.YthmbhcgecnkgeaaOg
import Derived.Test.YthmbhcgecnkgeaaPa
import Derived.Test.YthmbhcgecnkgeaaPb
import Derived.Test.YthmbhcgecnkgeaaOz
import Derived.Test.YthmbhcgecnkgeaaVs
import Derived.Test.YthmbhcgecnkgeaaAdQ
import Derived.Deep.Cut
namespace Go.Proofs.Ythmbhcgecnkgeaa
open Go.RowKit
attribute [local go_sem ↓] Go.wp_at_zero Go.wp_at_succ

theorem okL_addL (l : List (Int × Int)) (who at' : Int) : okL (addL l who at') = true := by
  unfold addL
  split
  · next h =>
    rw [addB, Bool.and_eq_true] at h
    exact okL_add h.1 h.2
  · rfl
theorem okL_dropL (l : List (Int × Int)) (who : Int) : okL (dropL l who) = true := by
  unfold dropL
  split
  · next h => exact okL_filter _ l h
  · rfl
theorem okV_do {k a b n : Int} (l : List (Int × Int)) (h : opOk k a b n = true) : okV (opKey k a b n) (doN k a b n) (doL k a b n l) = true := by
  rcases op_ways k a b n with ⟨hs, -, e1, -⟩ | ⟨hs, -, e1, -⟩ | ⟨hs, -, e1, -⟩ | ⟨-, -, -, e, -⟩
  · have hd : doN k a b n = n ∧ doL k a b n l = [] := by
      rcases do_ways k a b n l with ⟨_, h1, h2, _⟩ | ⟨h0, _⟩ | ⟨h0, _⟩ | ⟨h0, _⟩
      · exact ⟨h1, h2⟩
      · have := hs.1; have := h0.1; omega
      · have := hs.1; have := h0.1; omega
      · exact absurd hs h0
    obtain ⟨_, ha, _, hn⟩ := hs
    rw [e1, hd.1, hd.2, okV_numD (by omega) (by omega) (by omega) hn.1 hn.2]
    rfl
  · have hd : doN k a b n = 0 ∧ doL k a b n l = addL l b n := by
      rcases do_ways k a b n l with ⟨h0, _⟩ | ⟨_, h1, h2, _⟩ | ⟨h0, _⟩ | ⟨_, h0, _⟩
      · have := hs.1; have := h0.1; omega
      · exact ⟨h1, h2⟩
      · have := hs.1; have := h0.1; omega
      · exact absurd hs h0
    obtain ⟨_, ha, _⟩ := hs
    rw [e1, hd.1, hd.2, okV_kin (by omega) (by omega) (by omega), okL_addL]
    rfl
  · have hd : doN k a b n = 0 ∧ doL k a b n l = dropL l b := by
      rcases do_ways k a b n l with ⟨h0, _⟩ | ⟨h0, _⟩ | ⟨_, h1, h2, _⟩ | ⟨_, _, h0, _⟩
      · have := hs.1; have := h0.1; omega
      · have := hs.1; have := h0.1; omega
      · exact ⟨h1, h2⟩
      · exact absurd hs h0
    obtain ⟨_, ha, _⟩ := hs
    rw [e1, hd.1, hd.2, okV_kin (by omega) (by omega) (by omega), okL_dropL]
    rfl
  · rw [e] at h; cases h
theorem okV_back {k a b n : Int} (l : List (Int × Int)) (h : opOk k a b n = true) (hk : k ≠ 1) : okV (opOther k a b n) 0 (backL k a b n l) = true := by
  rcases op_ways k a b n with ⟨hs, -, -, -⟩ | ⟨hs, -, -, e1⟩ | ⟨hs, -, -, e1⟩ | ⟨-, -, -, e, -⟩
  · exact absurd hs.1 hk
  · have hd : backL k a b n l = addL l a n := by
      rcases do_ways k a b n l with ⟨h0, _⟩ | ⟨_, _, _, h1⟩ | ⟨h0, _⟩ | ⟨_, h0, _⟩
      · have := hs.1; have := h0.1; omega
      · exact h1
      · have := hs.1; have := h0.1; omega
      · exact absurd hs h0
    obtain ⟨_, _, hb, _⟩ := hs
    rw [e1, hd, okV_kin (by omega) (by omega) (by omega), okL_addL]
    rfl
  · have hd : backL k a b n l = dropL l a := by
      rcases do_ways k a b n l with ⟨h0, _⟩ | ⟨h0, _⟩ | ⟨_, _, _, h1⟩ | ⟨_, _, h0, _⟩
      · have := hs.1; have := h0.1; omega
      · have := hs.1; have := h0.1; omega
      · exact h1
      · exact absurd hs h0
    obtain ⟨_, _, hb, _⟩ := hs
    rw [e1, hd, okV_kin (by omega) (by omega) (by omega), okL_dropL]
    rfl
  · rw [e] at h; cases h
theorem op_two (k a b n : Int) : (opOk k a b n = true ∧ 0 ≤ opKey k a b n ∧ (opOther k a b n == opKey k a b n) = false) ∨ (opOk k a b n = false ∧ opKey k a b n = -1 ∧ opOther k a b n = -1) := by
  rcases op_ways k a b n with ⟨hs, e0, e1, e2⟩ | ⟨hs, e0, e1, e2⟩ | ⟨hs, e0, e1, e2⟩ | ⟨-, -, -, e0, e1, e2⟩
  · exact Or.inl ⟨e0, by rw [e1]; exact hs.2.1.1, by rw [e1, e2, beq_eq_false_iff_ne]; have := hs.2.1.1; omega⟩
  · exact Or.inl ⟨e0, by rw [e1]; have := hs.2.1.1; omega, by rw [e1, e2, beq_eq_false_iff_ne]; have := hs.2.1.1; have := hs.2.2.1.2; omega⟩
  · exact Or.inl ⟨e0, by rw [e1]; have := hs.2.1.1; omega, by rw [e1, e2, beq_eq_false_iff_ne]; have := hs.2.1.1; have := hs.2.2.1.2; omega⟩
  · exact Or.inr ⟨e0, e1, e2⟩

set_option maxRecDepth 100000 in
set_option maxHeartbeats 8000000 in
theorem lawFOp_any (v : Value) (n : Nat) (w : World) (h : Bs w v n) :
    Calls Try.prog 3 #[v] w fun e w' => e = .returned (.bool true) ∧ Below w.heap.size w w' := by
  obtain ⟨ao, cap, hv, h0, _⟩ := id h
  subst hv
  unfold maxLen at h0
  by_cases hbig : 1048576 < n
  · go_enter Try.func3, Try.ntmps3
    go_wp2
    go_ret
    exact ⟨rfl, Below.refl _ _⟩
  · go_enter Try.func3, Try.ntmps3
    go_wp2_with fail
    refine (drawOpKey_any _ n _ h).mono ?_
    rintro e w1 ⟨k, a, c, x, rfl, _, c1⟩
    go_wp2_with fail
    have o0_2 : (w1.alloc (.cells #[.int .i64 k, .int .i64 a, .int .i64 c, .int .i64 x] 24)).cell? ⟨w1.heap.size, 0, none⟩ = some (.int .i64 k) := by go_cell
    have o1_2 : (w1.alloc (.cells #[.int .i64 k, .int .i64 a, .int .i64 c, .int .i64 x] 24)).cell? ⟨w1.heap.size, 1, none⟩ = some (.int .i64 a) := by go_cell
    have o2_2 : (w1.alloc (.cells #[.int .i64 k, .int .i64 a, .int .i64 c, .int .i64 x] 24)).cell? ⟨w1.heap.size, 2, none⟩ = some (.int .i64 c) := by go_cell
    have o3_2 : (w1.alloc (.cells #[.int .i64 k, .int .i64 a, .int .i64 c, .int .i64 x] 24)).cell? ⟨w1.heap.size, 3, none⟩ = some (.int .i64 x) := by go_cell
    have ol_2 : w1.heap.size < (w1.alloc (.cells #[.int .i64 k, .int .i64 a, .int .i64 c, .int .i64 x] 24)).heap.size := by simp
    have d2 : Below w1.heap.size w1 (w1.alloc (.cells #[.int .i64 k, .int .i64 a, .int .i64 c, .int .i64 x] 24)) := by go_grown
    generalize (w1.alloc (.cells #[.int .i64 k, .int .i64 a, .int .i64 c, .int .i64 x] 24)) = w2 at o0_2 o1_2 o2_2 o3_2 ol_2 d2 ⊢
    have c2 : Below w.heap.size w w2 := c1.trans (d2.mono c1.size)
    clear d2
    refine (implOpKey_any k a c x _).mono ?_
    rintro e w3 ⟨rfl, b3⟩
    have d3 : Below w2.heap.size w2 w3 := (Below.trans (by go_grown) (b3.mono (by first | omega | (simp; done) | (simp; omega))))
    have c3 : Below w.heap.size w w3 := c2.trans (d3.mono c2.size)
    have o0_3 : w3.cell? ⟨w1.heap.size, 0, none⟩ = some (.int .i64 k) := (by rw [b3.cell (by first | omega | (simp; done) | (simp; omega))]; go_cell)
    have o1_3 : w3.cell? ⟨w1.heap.size, 1, none⟩ = some (.int .i64 a) := (by rw [b3.cell (by first | omega | (simp; done) | (simp; omega))]; go_cell)
    have o2_3 : w3.cell? ⟨w1.heap.size, 2, none⟩ = some (.int .i64 c) := (by rw [b3.cell (by first | omega | (simp; done) | (simp; omega))]; go_cell)
    have o3_3 : w3.cell? ⟨w1.heap.size, 3, none⟩ = some (.int .i64 x) := (by rw [b3.cell (by first | omega | (simp; done) | (simp; omega))]; go_cell)
    have ol_3 : w1.heap.size < w3.heap.size := (by have := b3.size; first | omega | (revert this; simp; done) | (revert this; simp; omega))
    clear o0_2 o1_2 o2_2 o3_2 ol_2
    clear b3 d3
    go_wp2_with fail
    refine (implOther_any k a c x _).mono ?_
    rintro e w4 ⟨rfl, b4⟩
    have d4 : Below w3.heap.size w3 w4 := (Below.trans (by go_grown) (b4.mono (by first | omega | (simp; done) | (simp; omega))))
    have c4 : Below w.heap.size w w4 := c3.trans (d4.mono c3.size)
    have o0_4 : w4.cell? ⟨w1.heap.size, 0, none⟩ = some (.int .i64 k) := (by rw [b4.cell (by first | omega | (simp; done) | (simp; omega))]; go_cell)
    have o1_4 : w4.cell? ⟨w1.heap.size, 1, none⟩ = some (.int .i64 a) := (by rw [b4.cell (by first | omega | (simp; done) | (simp; omega))]; go_cell)
    have o2_4 : w4.cell? ⟨w1.heap.size, 2, none⟩ = some (.int .i64 c) := (by rw [b4.cell (by first | omega | (simp; done) | (simp; omega))]; go_cell)
    have o3_4 : w4.cell? ⟨w1.heap.size, 3, none⟩ = some (.int .i64 x) := (by rw [b4.cell (by first | omega | (simp; done) | (simp; omega))]; go_cell)
    have ol_4 : w1.heap.size < w4.heap.size := (by have := b4.size; first | omega | (revert this; simp; done) | (revert this; simp; omega))
    clear o0_3 o1_3 o2_3 o3_3 ol_3
    clear b4 d4
    have CK := fun W => specOpKey_any k a c x W
    have CN := fun W => specOther_any k a c x W
    have CO := fun W => implOpOk_any k a c x W
    have CP := fun W => specOpOk_any k a c x W
    have hw := op_two k a c x
    generalize opOk k a c x = O at *
    generalize opKey k a c x = K at *
    generalize opOther k a c x = N at *
    have r0 := cell_regrown o0_4
    have r1 := cell_regrown o1_4
    have r2 := cell_regrown o2_4
    have r3 := cell_regrown o3_4
    go_upto_region 6 with fail
    go_cut [53] from 12 (fun s wx => s = .bool false ∧ Below w4.heap.size w4 wx)
    case first =>
      rcases hw with ⟨rfl, hK, hN⟩ | ⟨rfl, rfl, rfl⟩
      case' inl =>
        refine wp_region_quiet_below (by kernel_rfl) (by kernel_rfl) ?_
        repeat (first | go_big_quiet_skip | (go_big_quiet_want; go_big_quiet_op; first | go_big_quiet_on | go_big_quiet_call (first | (go_at_call 8; exact Calls.regrown_of (CK _)) | (go_at_call 9; exact Calls.regrown_of (CN _)) | (go_at_call 10; exact Calls.regrown_of (CO _)) | (go_at_call 11; exact Calls.regrown_of (CP _)))))
        refine wpQuiet_nil ?_
        rintro wq ⟨pq, hwq⟩
        have hq : Below w4.heap.size w4 wq := by rw [hwq]; exact below_regrown _ _ _
        clear hwq pq
      case' inr =>
        refine wp_region_quiet_below (by kernel_rfl) (by kernel_rfl) ?_
        repeat (first | go_big_quiet_skip | (go_big_quiet_want; go_big_quiet_op; first | go_big_quiet_on | go_big_quiet_call (first | (go_at_call 8; exact Calls.regrown_of (CK _)) | (go_at_call 9; exact Calls.regrown_of (CN _)) | (go_at_call 10; exact Calls.regrown_of (CO _)) | (go_at_call 11; exact Calls.regrown_of (CP _)))))
        refine wpQuiet_nil ?_
        rintro wq ⟨pq, hwq⟩
        have hq : Below w4.heap.size w4 wq := by rw [hwq]; exact below_regrown _ _ _
        clear hwq pq
      all_goals
        go_wp2_with fail
        go_meet
        exact ⟨by simp [*], hq⟩
    case rest =>
      clear r0 r1 r2 r3 CK CN CO CP o0_4 o1_4 o2_4 o3_4 ol_4 hw
      obtain ⟨rfl, hb⟩ := hcut
      generalize wc = w5 at *
      have c5 := c4.trans (hb.mono c4.size)
      clear hb c4
      go_wp2_with fail
      refine (drawOpDo_any _ n _ (h.later c5)).mono ?_
      rintro e w6 ⟨z, u, l, ka, aa, ca, xa, rfl, ho, hl, _, hz, _, b6⟩
      have c6 := c5.trans (b6.mono c5.size)
      have HV6 := hid ho
      obtain ⟨uo, uc, hu, _⟩ := ho.rd
      subst hu
      have hl8 := doL_length ka aa ca xa l
      clear b6 ho c5
      go_wp2_with fail
      have v0_7 : (w6.alloc (.cells #[.int .i64 z, .slice uo l.length uc] 30)).cell? ⟨w6.heap.size, 0, none⟩ = some (.int .i64 z) := by go_cell
      have v1_7 : (w6.alloc (.cells #[.int .i64 z, .slice uo l.length uc] 30)).cell? ⟨w6.heap.size, 1, none⟩ = some (.slice uo l.length uc) := by go_cell
      have vl_7 : w6.heap.size < (w6.alloc (.cells #[.int .i64 z, .slice uo l.length uc] 30)).heap.size := by simp
      have d7 : Below w6.heap.size w6 (w6.alloc (.cells #[.int .i64 z, .slice uo l.length uc] 30)) := by go_grown
      have sz7 : (w6.alloc (.cells #[.int .i64 z, .slice uo l.length uc] 30)).heap.size = w6.heap.size + 1 := by simp
      generalize (w6.alloc (.cells #[.int .i64 z, .slice uo l.length uc] 30)) = w7 at v0_7 v1_7 vl_7 d7 sz7 ⊢
      have c7 : Below w.heap.size w w7 := c6.trans (d7.mono c6.size)
      have HV7 := hid (HV6.out.later d7)
      clear d7 HV6
      have p0_8 : (w7.alloc (.cells #[.int .i64 ka, .int .i64 aa, .int .i64 ca, .int .i64 xa] 24)).cell? ⟨w7.heap.size, 0, none⟩ = some (.int .i64 ka) := by go_cell
      have p1_8 : (w7.alloc (.cells #[.int .i64 ka, .int .i64 aa, .int .i64 ca, .int .i64 xa] 24)).cell? ⟨w7.heap.size, 1, none⟩ = some (.int .i64 aa) := by go_cell
      have p2_8 : (w7.alloc (.cells #[.int .i64 ka, .int .i64 aa, .int .i64 ca, .int .i64 xa] 24)).cell? ⟨w7.heap.size, 2, none⟩ = some (.int .i64 ca) := by go_cell
      have p3_8 : (w7.alloc (.cells #[.int .i64 ka, .int .i64 aa, .int .i64 ca, .int .i64 xa] 24)).cell? ⟨w7.heap.size, 3, none⟩ = some (.int .i64 xa) := by go_cell
      have pl_8 : w7.heap.size < (w7.alloc (.cells #[.int .i64 ka, .int .i64 aa, .int .i64 ca, .int .i64 xa] 24)).heap.size := by simp
      have d8 : Below w7.heap.size w7 (w7.alloc (.cells #[.int .i64 ka, .int .i64 aa, .int .i64 ca, .int .i64 xa] 24)) := by go_grown
      generalize (w7.alloc (.cells #[.int .i64 ka, .int .i64 aa, .int .i64 ca, .int .i64 xa] 24)) = w8 at p0_8 p1_8 p2_8 p3_8 pl_8 d8 ⊢
      have c8 : Below w.heap.size w w8 := c7.trans (d8.mono c7.size)
      have v0_8 : w8.cell? ⟨w6.heap.size, 0, none⟩ = some (.int .i64 z) := (by rw [d8.cell (by first | omega | (simp; done) | (simp; omega))]; go_cell)
      have v1_8 : w8.cell? ⟨w6.heap.size, 1, none⟩ = some (.slice uo l.length uc) := (by rw [d8.cell (by first | omega | (simp; done) | (simp; omega))]; go_cell)
      have vl_8 : w6.heap.size < w8.heap.size := (by have := d8.size; omega)
      clear v0_7 v1_7 vl_7
      have HV8 := hid (HV7.out.later d8)
      rw [sz7] at p0_8 p1_8 p2_8 p3_8 pl_8
      clear d8 HV7 sz7
      refine (implDo_any ka aa ca xa z _ l _ HV8.out.rd (by omega)).mono ?_
      rintro e w9 ⟨⟨vx, rfl, ox⟩, b9⟩
      obtain ⟨xo, xc, hxv, _⟩ := ox.rd
      subst hxv
      have d9 : Below w8.heap.size w8 w9 := (Below.trans (by go_grown) (b9.mono (by first | omega | (simp; done) | (simp; omega))))
      have c9 : Below w.heap.size w w9 := c8.trans (d9.mono c8.size)
      have v0_9 : w9.cell? ⟨w6.heap.size, 0, none⟩ = some (.int .i64 z) := (by rw [b9.cell (by first | omega | (simp; done) | (simp; omega))]; go_cell)
      have v1_9 : w9.cell? ⟨w6.heap.size, 1, none⟩ = some (.slice uo l.length uc) := (by rw [b9.cell (by first | omega | (simp; done) | (simp; omega))]; go_cell)
      have vl_9 : w6.heap.size < w9.heap.size := (by have := b9.size; first | omega | (revert this; simp; done) | (revert this; simp; omega))
      have p0_9 : w9.cell? ⟨w6.heap.size + 1, 0, none⟩ = some (.int .i64 ka) := (by rw [b9.cell (by first | omega | (simp; done) | (simp; omega))]; go_cell)
      have p1_9 : w9.cell? ⟨w6.heap.size + 1, 1, none⟩ = some (.int .i64 aa) := (by rw [b9.cell (by first | omega | (simp; done) | (simp; omega))]; go_cell)
      have p2_9 : w9.cell? ⟨w6.heap.size + 1, 2, none⟩ = some (.int .i64 ca) := (by rw [b9.cell (by first | omega | (simp; done) | (simp; omega))]; go_cell)
      have p3_9 : w9.cell? ⟨w6.heap.size + 1, 3, none⟩ = some (.int .i64 xa) := (by rw [b9.cell (by first | omega | (simp; done) | (simp; omega))]; go_cell)
      have pl_9 : w6.heap.size + 1 < w9.heap.size := (by have := b9.size; first | omega | (revert this; simp; done) | (revert this; simp; omega))
      clear v0_8 v1_8 vl_8 p0_8 p1_8 p2_8 p3_8 pl_8
      have HV9 := hid (HV8.out.later d9)
      have HX9 := hid ox
      clear b9 d9 ox HV8
      go_wp2_with fail
      have x0_10 : (w9.alloc (.cells #[.int .i64 (doN ka aa ca xa), .slice xo (doL ka aa ca xa l).length xc] 30)).cell? ⟨w9.heap.size, 0, none⟩ = some (.int .i64 (doN ka aa ca xa)) := by go_cell
      have x1_10 : (w9.alloc (.cells #[.int .i64 (doN ka aa ca xa), .slice xo (doL ka aa ca xa l).length xc] 30)).cell? ⟨w9.heap.size, 1, none⟩ = some (.slice xo (doL ka aa ca xa l).length xc) := by go_cell
      have xl_10 : w9.heap.size < (w9.alloc (.cells #[.int .i64 (doN ka aa ca xa), .slice xo (doL ka aa ca xa l).length xc] 30)).heap.size := by simp
      have d10 : Below w9.heap.size w9 (w9.alloc (.cells #[.int .i64 (doN ka aa ca xa), .slice xo (doL ka aa ca xa l).length xc] 30)) := by go_grown
      generalize (w9.alloc (.cells #[.int .i64 (doN ka aa ca xa), .slice xo (doL ka aa ca xa l).length xc] 30)) = w10 at x0_10 x1_10 xl_10 d10 ⊢
      have c10 : Below w.heap.size w w10 := c9.trans (d10.mono c9.size)
      have v0_10 : w10.cell? ⟨w6.heap.size, 0, none⟩ = some (.int .i64 z) := (by rw [d10.cell (by first | omega | (simp; done) | (simp; omega))]; go_cell)
      have v1_10 : w10.cell? ⟨w6.heap.size, 1, none⟩ = some (.slice uo l.length uc) := (by rw [d10.cell (by first | omega | (simp; done) | (simp; omega))]; go_cell)
      have vl_10 : w6.heap.size < w10.heap.size := (by have := d10.size; omega)
      have p0_10 : w10.cell? ⟨w6.heap.size + 1, 0, none⟩ = some (.int .i64 ka) := (by rw [d10.cell (by first | omega | (simp; done) | (simp; omega))]; go_cell)
      have p1_10 : w10.cell? ⟨w6.heap.size + 1, 1, none⟩ = some (.int .i64 aa) := (by rw [d10.cell (by first | omega | (simp; done) | (simp; omega))]; go_cell)
      have p2_10 : w10.cell? ⟨w6.heap.size + 1, 2, none⟩ = some (.int .i64 ca) := (by rw [d10.cell (by first | omega | (simp; done) | (simp; omega))]; go_cell)
      have p3_10 : w10.cell? ⟨w6.heap.size + 1, 3, none⟩ = some (.int .i64 xa) := (by rw [d10.cell (by first | omega | (simp; done) | (simp; omega))]; go_cell)
      have pl_10 : w6.heap.size + 1 < w10.heap.size := (by have := d10.size; omega)
      clear v0_9 v1_9 vl_9 p0_9 p1_9 p2_9 p3_9 pl_9
      have HV10 := hid (HV9.out.later d10)
      have HX10 := hid (HX9.out.later d10)
      clear d10 HV9 HX9
      refine (drawOpBack_any _ n _ (h.later c10)).mono ?_
      rintro e w11 ⟨z2, u2, l2, kb, ab, cb, xb, rfl, ho, hl2, _, hz2, _, b11⟩
      obtain ⟨uo2, uc2, hu, _⟩ := ho.rd
      subst hu
      have HU11 := hid ho
      have hl9 := backL_length kb ab cb xb l2
      have d11 : Below w10.heap.size w10 w11 := (Below.trans (by go_grown) (b11.mono (by first | omega | (simp; done) | (simp; omega))))
      have c11 : Below w.heap.size w w11 := c10.trans (d11.mono c10.size)
      have v0_11 : w11.cell? ⟨w6.heap.size, 0, none⟩ = some (.int .i64 z) := (by rw [b11.cell (by first | omega | (simp; done) | (simp; omega))]; go_cell)
      have v1_11 : w11.cell? ⟨w6.heap.size, 1, none⟩ = some (.slice uo l.length uc) := (by rw [b11.cell (by first | omega | (simp; done) | (simp; omega))]; go_cell)
      have vl_11 : w6.heap.size < w11.heap.size := (by have := b11.size; first | omega | (revert this; simp; done) | (revert this; simp; omega))
      have p0_11 : w11.cell? ⟨w6.heap.size + 1, 0, none⟩ = some (.int .i64 ka) := (by rw [b11.cell (by first | omega | (simp; done) | (simp; omega))]; go_cell)
      have p1_11 : w11.cell? ⟨w6.heap.size + 1, 1, none⟩ = some (.int .i64 aa) := (by rw [b11.cell (by first | omega | (simp; done) | (simp; omega))]; go_cell)
      have p2_11 : w11.cell? ⟨w6.heap.size + 1, 2, none⟩ = some (.int .i64 ca) := (by rw [b11.cell (by first | omega | (simp; done) | (simp; omega))]; go_cell)
      have p3_11 : w11.cell? ⟨w6.heap.size + 1, 3, none⟩ = some (.int .i64 xa) := (by rw [b11.cell (by first | omega | (simp; done) | (simp; omega))]; go_cell)
      have pl_11 : w6.heap.size + 1 < w11.heap.size := (by have := b11.size; first | omega | (revert this; simp; done) | (revert this; simp; omega))
      have x0_11 : w11.cell? ⟨w9.heap.size, 0, none⟩ = some (.int .i64 (doN ka aa ca xa)) := (by rw [b11.cell (by first | omega | (simp; done) | (simp; omega))]; go_cell)
      have x1_11 : w11.cell? ⟨w9.heap.size, 1, none⟩ = some (.slice xo (doL ka aa ca xa l).length xc) := (by rw [b11.cell (by first | omega | (simp; done) | (simp; omega))]; go_cell)
      have xl_11 : w9.heap.size < w11.heap.size := (by have := b11.size; first | omega | (revert this; simp; done) | (revert this; simp; omega))
      clear v0_10 v1_10 vl_10 p0_10 p1_10 p2_10 p3_10 pl_10 x0_10 x1_10 xl_10
      have HV11 := hid (HV10.out.later d11)
      have HX11 := hid (HX10.out.later d11)
      clear b11 d11 ho HV10 HX10
      go_wp2_with fail
      have u0_12 : (w11.alloc (.cells #[.int .i64 z2, .slice uo2 l2.length uc2] 30)).cell? ⟨w11.heap.size, 0, none⟩ = some (.int .i64 z2) := by go_cell
      have u1_12 : (w11.alloc (.cells #[.int .i64 z2, .slice uo2 l2.length uc2] 30)).cell? ⟨w11.heap.size, 1, none⟩ = some (.slice uo2 l2.length uc2) := by go_cell
      have ul_12 : w11.heap.size < (w11.alloc (.cells #[.int .i64 z2, .slice uo2 l2.length uc2] 30)).heap.size := by simp
      have d12 : Below w11.heap.size w11 (w11.alloc (.cells #[.int .i64 z2, .slice uo2 l2.length uc2] 30)) := by go_grown
      have sz12 : (w11.alloc (.cells #[.int .i64 z2, .slice uo2 l2.length uc2] 30)).heap.size = w11.heap.size + 1 := by simp
      generalize (w11.alloc (.cells #[.int .i64 z2, .slice uo2 l2.length uc2] 30)) = w12 at u0_12 u1_12 ul_12 d12 sz12 ⊢
      have c12 : Below w.heap.size w w12 := c11.trans (d12.mono c11.size)
      have v0_12 : w12.cell? ⟨w6.heap.size, 0, none⟩ = some (.int .i64 z) := (by rw [d12.cell (by first | omega | (simp; done) | (simp; omega))]; go_cell)
      have v1_12 : w12.cell? ⟨w6.heap.size, 1, none⟩ = some (.slice uo l.length uc) := (by rw [d12.cell (by first | omega | (simp; done) | (simp; omega))]; go_cell)
      have vl_12 : w6.heap.size < w12.heap.size := (by have := d12.size; omega)
      have p0_12 : w12.cell? ⟨w6.heap.size + 1, 0, none⟩ = some (.int .i64 ka) := (by rw [d12.cell (by first | omega | (simp; done) | (simp; omega))]; go_cell)
      have p1_12 : w12.cell? ⟨w6.heap.size + 1, 1, none⟩ = some (.int .i64 aa) := (by rw [d12.cell (by first | omega | (simp; done) | (simp; omega))]; go_cell)
      have p2_12 : w12.cell? ⟨w6.heap.size + 1, 2, none⟩ = some (.int .i64 ca) := (by rw [d12.cell (by first | omega | (simp; done) | (simp; omega))]; go_cell)
      have p3_12 : w12.cell? ⟨w6.heap.size + 1, 3, none⟩ = some (.int .i64 xa) := (by rw [d12.cell (by first | omega | (simp; done) | (simp; omega))]; go_cell)
      have pl_12 : w6.heap.size + 1 < w12.heap.size := (by have := d12.size; omega)
      have x0_12 : w12.cell? ⟨w9.heap.size, 0, none⟩ = some (.int .i64 (doN ka aa ca xa)) := (by rw [d12.cell (by first | omega | (simp; done) | (simp; omega))]; go_cell)
      have x1_12 : w12.cell? ⟨w9.heap.size, 1, none⟩ = some (.slice xo (doL ka aa ca xa l).length xc) := (by rw [d12.cell (by first | omega | (simp; done) | (simp; omega))]; go_cell)
      have xl_12 : w9.heap.size < w12.heap.size := (by have := d12.size; omega)
      clear v0_11 v1_11 vl_11 p0_11 p1_11 p2_11 p3_11 pl_11 x0_11 x1_11 xl_11
      have HV12 := hid (HV11.out.later d12)
      have HX12 := hid (HX11.out.later d12)
      have HU12 := hid (HU11.out.later d12)
      clear d12 HV11 HX11 HU11
      have q0_13 : (w12.alloc (.cells #[.int .i64 kb, .int .i64 ab, .int .i64 cb, .int .i64 xb] 24)).cell? ⟨w12.heap.size, 0, none⟩ = some (.int .i64 kb) := by go_cell
      have q1_13 : (w12.alloc (.cells #[.int .i64 kb, .int .i64 ab, .int .i64 cb, .int .i64 xb] 24)).cell? ⟨w12.heap.size, 1, none⟩ = some (.int .i64 ab) := by go_cell
      have q2_13 : (w12.alloc (.cells #[.int .i64 kb, .int .i64 ab, .int .i64 cb, .int .i64 xb] 24)).cell? ⟨w12.heap.size, 2, none⟩ = some (.int .i64 cb) := by go_cell
      have q3_13 : (w12.alloc (.cells #[.int .i64 kb, .int .i64 ab, .int .i64 cb, .int .i64 xb] 24)).cell? ⟨w12.heap.size, 3, none⟩ = some (.int .i64 xb) := by go_cell
      have ql_13 : w12.heap.size < (w12.alloc (.cells #[.int .i64 kb, .int .i64 ab, .int .i64 cb, .int .i64 xb] 24)).heap.size := by simp
      have d13 : Below w12.heap.size w12 (w12.alloc (.cells #[.int .i64 kb, .int .i64 ab, .int .i64 cb, .int .i64 xb] 24)) := by go_grown
      generalize (w12.alloc (.cells #[.int .i64 kb, .int .i64 ab, .int .i64 cb, .int .i64 xb] 24)) = w13 at q0_13 q1_13 q2_13 q3_13 ql_13 d13 ⊢
      have c13 : Below w.heap.size w w13 := c12.trans (d13.mono c12.size)
      have v0_13 : w13.cell? ⟨w6.heap.size, 0, none⟩ = some (.int .i64 z) := (by rw [d13.cell (by first | omega | (simp; done) | (simp; omega))]; go_cell)
      have v1_13 : w13.cell? ⟨w6.heap.size, 1, none⟩ = some (.slice uo l.length uc) := (by rw [d13.cell (by first | omega | (simp; done) | (simp; omega))]; go_cell)
      have vl_13 : w6.heap.size < w13.heap.size := (by have := d13.size; omega)
      have p0_13 : w13.cell? ⟨w6.heap.size + 1, 0, none⟩ = some (.int .i64 ka) := (by rw [d13.cell (by first | omega | (simp; done) | (simp; omega))]; go_cell)
      have p1_13 : w13.cell? ⟨w6.heap.size + 1, 1, none⟩ = some (.int .i64 aa) := (by rw [d13.cell (by first | omega | (simp; done) | (simp; omega))]; go_cell)
      have p2_13 : w13.cell? ⟨w6.heap.size + 1, 2, none⟩ = some (.int .i64 ca) := (by rw [d13.cell (by first | omega | (simp; done) | (simp; omega))]; go_cell)
      have p3_13 : w13.cell? ⟨w6.heap.size + 1, 3, none⟩ = some (.int .i64 xa) := (by rw [d13.cell (by first | omega | (simp; done) | (simp; omega))]; go_cell)
      have pl_13 : w6.heap.size + 1 < w13.heap.size := (by have := d13.size; omega)
      have x0_13 : w13.cell? ⟨w9.heap.size, 0, none⟩ = some (.int .i64 (doN ka aa ca xa)) := (by rw [d13.cell (by first | omega | (simp; done) | (simp; omega))]; go_cell)
      have x1_13 : w13.cell? ⟨w9.heap.size, 1, none⟩ = some (.slice xo (doL ka aa ca xa l).length xc) := (by rw [d13.cell (by first | omega | (simp; done) | (simp; omega))]; go_cell)
      have xl_13 : w9.heap.size < w13.heap.size := (by have := d13.size; omega)
      have u0_13 : w13.cell? ⟨w11.heap.size, 0, none⟩ = some (.int .i64 z2) := (by rw [d13.cell (by first | omega | (simp; done) | (simp; omega))]; go_cell)
      have u1_13 : w13.cell? ⟨w11.heap.size, 1, none⟩ = some (.slice uo2 l2.length uc2) := (by rw [d13.cell (by first | omega | (simp; done) | (simp; omega))]; go_cell)
      have ul_13 : w11.heap.size < w13.heap.size := (by have := d13.size; omega)
      clear v0_12 v1_12 vl_12 p0_12 p1_12 p2_12 p3_12 pl_12 x0_12 x1_12 xl_12 u0_12 u1_12 ul_12
      have HV13 := hid (HV12.out.later d13)
      have HX13 := hid (HX12.out.later d13)
      have HU13 := hid (HU12.out.later d13)
      rw [sz12] at q0_13 q1_13 q2_13 q3_13 ql_13
      clear d13 HV12 HX12 HU12 sz12
      refine (implBack_any kb ab cb xb z2 _ l2 _ HU13.out.rd (by omega)).mono ?_
      rintro e w14 ⟨⟨vy, rfl, oy⟩, b14⟩
      obtain ⟨yo, yc, hyv, _⟩ := oy.rd
      subst hyv
      have d14 : Below w13.heap.size w13 w14 := (Below.trans (by go_grown) (b14.mono (by first | omega | (simp; done) | (simp; omega))))
      have c14 : Below w.heap.size w w14 := c13.trans (d14.mono c13.size)
      have v0_14 : w14.cell? ⟨w6.heap.size, 0, none⟩ = some (.int .i64 z) := (by rw [b14.cell (by first | omega | (simp; done) | (simp; omega))]; go_cell)
      have v1_14 : w14.cell? ⟨w6.heap.size, 1, none⟩ = some (.slice uo l.length uc) := (by rw [b14.cell (by first | omega | (simp; done) | (simp; omega))]; go_cell)
      have vl_14 : w6.heap.size < w14.heap.size := (by have := b14.size; first | omega | (revert this; simp; done) | (revert this; simp; omega))
      have p0_14 : w14.cell? ⟨w6.heap.size + 1, 0, none⟩ = some (.int .i64 ka) := (by rw [b14.cell (by first | omega | (simp; done) | (simp; omega))]; go_cell)
      have p1_14 : w14.cell? ⟨w6.heap.size + 1, 1, none⟩ = some (.int .i64 aa) := (by rw [b14.cell (by first | omega | (simp; done) | (simp; omega))]; go_cell)
      have p2_14 : w14.cell? ⟨w6.heap.size + 1, 2, none⟩ = some (.int .i64 ca) := (by rw [b14.cell (by first | omega | (simp; done) | (simp; omega))]; go_cell)
      have p3_14 : w14.cell? ⟨w6.heap.size + 1, 3, none⟩ = some (.int .i64 xa) := (by rw [b14.cell (by first | omega | (simp; done) | (simp; omega))]; go_cell)
      have pl_14 : w6.heap.size + 1 < w14.heap.size := (by have := b14.size; first | omega | (revert this; simp; done) | (revert this; simp; omega))
      have x0_14 : w14.cell? ⟨w9.heap.size, 0, none⟩ = some (.int .i64 (doN ka aa ca xa)) := (by rw [b14.cell (by first | omega | (simp; done) | (simp; omega))]; go_cell)
      have x1_14 : w14.cell? ⟨w9.heap.size, 1, none⟩ = some (.slice xo (doL ka aa ca xa l).length xc) := (by rw [b14.cell (by first | omega | (simp; done) | (simp; omega))]; go_cell)
      have xl_14 : w9.heap.size < w14.heap.size := (by have := b14.size; first | omega | (revert this; simp; done) | (revert this; simp; omega))
      have u0_14 : w14.cell? ⟨w11.heap.size, 0, none⟩ = some (.int .i64 z2) := (by rw [b14.cell (by first | omega | (simp; done) | (simp; omega))]; go_cell)
      have u1_14 : w14.cell? ⟨w11.heap.size, 1, none⟩ = some (.slice uo2 l2.length uc2) := (by rw [b14.cell (by first | omega | (simp; done) | (simp; omega))]; go_cell)
      have ul_14 : w11.heap.size < w14.heap.size := (by have := b14.size; first | omega | (revert this; simp; done) | (revert this; simp; omega))
      have q0_14 : w14.cell? ⟨w11.heap.size + 1, 0, none⟩ = some (.int .i64 kb) := (by rw [b14.cell (by first | omega | (simp; done) | (simp; omega))]; go_cell)
      have q1_14 : w14.cell? ⟨w11.heap.size + 1, 1, none⟩ = some (.int .i64 ab) := (by rw [b14.cell (by first | omega | (simp; done) | (simp; omega))]; go_cell)
      have q2_14 : w14.cell? ⟨w11.heap.size + 1, 2, none⟩ = some (.int .i64 cb) := (by rw [b14.cell (by first | omega | (simp; done) | (simp; omega))]; go_cell)
      have q3_14 : w14.cell? ⟨w11.heap.size + 1, 3, none⟩ = some (.int .i64 xb) := (by rw [b14.cell (by first | omega | (simp; done) | (simp; omega))]; go_cell)
      have ql_14 : w11.heap.size + 1 < w14.heap.size := (by have := b14.size; first | omega | (revert this; simp; done) | (revert this; simp; omega))
      clear v0_13 v1_13 vl_13 p0_13 p1_13 p2_13 p3_13 pl_13 x0_13 x1_13 xl_13 u0_13 u1_13 ul_13 q0_13 q1_13 q2_13 q3_13 ql_13
      have HV14 := hid (HV13.out.later d14)
      have HX14 := hid (HX13.out.later d14)
      have HU14 := hid (HU13.out.later d14)
      have HY14 := hid oy
      clear b14 d14 oy HV13 HX13 HU13
      go_wp2_with fail
      have y0_15 : (w14.alloc (.cells #[.int .i64 0, .slice yo (backL kb ab cb xb l2).length yc] 30)).cell? ⟨w14.heap.size, 0, none⟩ = some (.int .i64 0) := by go_cell
      have y1_15 : (w14.alloc (.cells #[.int .i64 0, .slice yo (backL kb ab cb xb l2).length yc] 30)).cell? ⟨w14.heap.size, 1, none⟩ = some (.slice yo (backL kb ab cb xb l2).length yc) := by go_cell
      have yl_15 : w14.heap.size < (w14.alloc (.cells #[.int .i64 0, .slice yo (backL kb ab cb xb l2).length yc] 30)).heap.size := by simp
      have d15 : Below w14.heap.size w14 (w14.alloc (.cells #[.int .i64 0, .slice yo (backL kb ab cb xb l2).length yc] 30)) := by go_grown
      generalize (w14.alloc (.cells #[.int .i64 0, .slice yo (backL kb ab cb xb l2).length yc] 30)) = w15 at y0_15 y1_15 yl_15 d15 ⊢
      have c15 : Below w.heap.size w w15 := c14.trans (d15.mono c14.size)
      have v0_15 : w15.cell? ⟨w6.heap.size, 0, none⟩ = some (.int .i64 z) := (by rw [d15.cell (by first | omega | (simp; done) | (simp; omega))]; go_cell)
      have v1_15 : w15.cell? ⟨w6.heap.size, 1, none⟩ = some (.slice uo l.length uc) := (by rw [d15.cell (by first | omega | (simp; done) | (simp; omega))]; go_cell)
      have vl_15 : w6.heap.size < w15.heap.size := (by have := d15.size; omega)
      have p0_15 : w15.cell? ⟨w6.heap.size + 1, 0, none⟩ = some (.int .i64 ka) := (by rw [d15.cell (by first | omega | (simp; done) | (simp; omega))]; go_cell)
      have p1_15 : w15.cell? ⟨w6.heap.size + 1, 1, none⟩ = some (.int .i64 aa) := (by rw [d15.cell (by first | omega | (simp; done) | (simp; omega))]; go_cell)
      have p2_15 : w15.cell? ⟨w6.heap.size + 1, 2, none⟩ = some (.int .i64 ca) := (by rw [d15.cell (by first | omega | (simp; done) | (simp; omega))]; go_cell)
      have p3_15 : w15.cell? ⟨w6.heap.size + 1, 3, none⟩ = some (.int .i64 xa) := (by rw [d15.cell (by first | omega | (simp; done) | (simp; omega))]; go_cell)
      have pl_15 : w6.heap.size + 1 < w15.heap.size := (by have := d15.size; omega)
      have x0_15 : w15.cell? ⟨w9.heap.size, 0, none⟩ = some (.int .i64 (doN ka aa ca xa)) := (by rw [d15.cell (by first | omega | (simp; done) | (simp; omega))]; go_cell)
      have x1_15 : w15.cell? ⟨w9.heap.size, 1, none⟩ = some (.slice xo (doL ka aa ca xa l).length xc) := (by rw [d15.cell (by first | omega | (simp; done) | (simp; omega))]; go_cell)
      have xl_15 : w9.heap.size < w15.heap.size := (by have := d15.size; omega)
      have u0_15 : w15.cell? ⟨w11.heap.size, 0, none⟩ = some (.int .i64 z2) := (by rw [d15.cell (by first | omega | (simp; done) | (simp; omega))]; go_cell)
      have u1_15 : w15.cell? ⟨w11.heap.size, 1, none⟩ = some (.slice uo2 l2.length uc2) := (by rw [d15.cell (by first | omega | (simp; done) | (simp; omega))]; go_cell)
      have ul_15 : w11.heap.size < w15.heap.size := (by have := d15.size; omega)
      have q0_15 : w15.cell? ⟨w11.heap.size + 1, 0, none⟩ = some (.int .i64 kb) := (by rw [d15.cell (by first | omega | (simp; done) | (simp; omega))]; go_cell)
      have q1_15 : w15.cell? ⟨w11.heap.size + 1, 1, none⟩ = some (.int .i64 ab) := (by rw [d15.cell (by first | omega | (simp; done) | (simp; omega))]; go_cell)
      have q2_15 : w15.cell? ⟨w11.heap.size + 1, 2, none⟩ = some (.int .i64 cb) := (by rw [d15.cell (by first | omega | (simp; done) | (simp; omega))]; go_cell)
      have q3_15 : w15.cell? ⟨w11.heap.size + 1, 3, none⟩ = some (.int .i64 xb) := (by rw [d15.cell (by first | omega | (simp; done) | (simp; omega))]; go_cell)
      have ql_15 : w11.heap.size + 1 < w15.heap.size := (by have := d15.size; omega)
      clear v0_14 v1_14 vl_14 p0_14 p1_14 p2_14 p3_14 pl_14 x0_14 x1_14 xl_14 u0_14 u1_14 ul_14 q0_14 q1_14 q2_14 q3_14 ql_14
      have HV15 := hid (HV14.out.later d15)
      have HX15 := hid (HX14.out.later d15)
      have HU15 := hid (HU14.out.later d15)
      have HY15 := hid (HY14.out.later d15)
      clear d15 HV14 HX14 HU14 HY14
      go_upto_region 12 with fail
      have hlx : (doL ka aa ca xa l).length ≤ 8 := by omega
      have hly : (backL kb ab cb xb l2).length ≤ 8 := by omega
      go_cut [83] from 12 (fun s wx => s = .bool false ∧ Below w15.heap.size w15 wx)
      case first =>
        go_region_with (first
          | (go_at_call 17; refine (specDo_any ka aa ca xa z _ l _ (HV15.out.rd.later (by go_grown)) (by omega)).mono ?_; rintro e w16 ⟨⟨vs, rfl, os⟩, b16⟩; obtain ⟨so, sc, hsv, _⟩ := os.rd; subst hsv; have d16 : Below w15.heap.size w15 w16 := (Below.trans (by go_grown) (b16.mono (by first | omega | (simp; done) | (simp; omega)))); have c16 : Below w.heap.size w w16 := c15.trans (d16.mono c15.size); have x0_16 : w16.cell? ⟨w9.heap.size, 0, none⟩ = some (.int .i64 (doN ka aa ca xa)) := (by rw [b16.cell (by first | omega | (simp; done) | (simp; omega))]; go_cell); have x1_16 : w16.cell? ⟨w9.heap.size, 1, none⟩ = some (.slice xo (doL ka aa ca xa l).length xc) := (by rw [b16.cell (by first | omega | (simp; done) | (simp; omega))]; go_cell); have xl_16 : w9.heap.size < w16.heap.size := (by have := b16.size; first | omega | (revert this; simp; done) | (revert this; simp; omega)); have u0_16 : w16.cell? ⟨w11.heap.size, 0, none⟩ = some (.int .i64 z2) := (by rw [b16.cell (by first | omega | (simp; done) | (simp; omega))]; go_cell); have u1_16 : w16.cell? ⟨w11.heap.size, 1, none⟩ = some (.slice uo2 l2.length uc2) := (by rw [b16.cell (by first | omega | (simp; done) | (simp; omega))]; go_cell); have ul_16 : w11.heap.size < w16.heap.size := (by have := b16.size; first | omega | (revert this; simp; done) | (revert this; simp; omega)); have q0_16 : w16.cell? ⟨w11.heap.size + 1, 0, none⟩ = some (.int .i64 kb) := (by rw [b16.cell (by first | omega | (simp; done) | (simp; omega))]; go_cell); have q1_16 : w16.cell? ⟨w11.heap.size + 1, 1, none⟩ = some (.int .i64 ab) := (by rw [b16.cell (by first | omega | (simp; done) | (simp; omega))]; go_cell); have q2_16 : w16.cell? ⟨w11.heap.size + 1, 2, none⟩ = some (.int .i64 cb) := (by rw [b16.cell (by first | omega | (simp; done) | (simp; omega))]; go_cell); have q3_16 : w16.cell? ⟨w11.heap.size + 1, 3, none⟩ = some (.int .i64 xb) := (by rw [b16.cell (by first | omega | (simp; done) | (simp; omega))]; go_cell); have ql_16 : w11.heap.size + 1 < w16.heap.size := (by have := b16.size; first | omega | (revert this; simp; done) | (revert this; simp; omega)); have y0_16 : w16.cell? ⟨w14.heap.size, 0, none⟩ = some (.int .i64 0) := (by rw [b16.cell (by first | omega | (simp; done) | (simp; omega))]; go_cell); have y1_16 : w16.cell? ⟨w14.heap.size, 1, none⟩ = some (.slice yo (backL kb ab cb xb l2).length yc) := (by rw [b16.cell (by first | omega | (simp; done) | (simp; omega))]; go_cell); have yl_16 : w14.heap.size < w16.heap.size := (by have := b16.size; first | omega | (revert this; simp; done) | (revert this; simp; omega)); clear x0_15 x1_15 xl_15 u0_15 u1_15 ul_15 q0_15 q1_15 q2_15 q3_15 ql_15 y0_15 y1_15 yl_15; have HS16 := hid os; have HX16 := hid (HX15.out.later d16); have HU16 := hid (HU15.out.later d16); have HY16 := hid (HY15.out.later d16); clear os)
          | (go_at_call 18; refine (specBack_any kb ab cb xb z2 _ l2 _ (HU17.out.rd.later (by go_grown)) (by omega)).mono ?_; rintro e w18 ⟨⟨vs2, rfl, os2⟩, b18⟩; obtain ⟨so2, sc2, hsv2, _⟩ := os2.rd; subst hsv2; have d18 : Below w17.heap.size w17 w18 := (Below.trans (by go_grown) (b18.mono (by first | omega | (simp; done) | (simp; omega)))); have c18 : Below w.heap.size w w18 := c17.trans (d18.mono c17.size); have y0_18 : w18.cell? ⟨w14.heap.size, 0, none⟩ = some (.int .i64 0) := (by rw [b18.cell (by first | omega | (simp; done) | (simp; omega))]; go_cell); have y1_18 : w18.cell? ⟨w14.heap.size, 1, none⟩ = some (.slice yo (backL kb ab cb xb l2).length yc) := (by rw [b18.cell (by first | omega | (simp; done) | (simp; omega))]; go_cell); have yl_18 : w14.heap.size < w18.heap.size := (by have := b18.size; first | omega | (revert this; simp; done) | (revert this; simp; omega)); clear y0_17 y1_17 yl_17; have HS18 := hid os2; have HY18 := hid (HY17.out.later d18); clear os2)
          | (go_at_call 16; first
            | (refine (implVSame_any 0 0 _ _ (backL kb ab cb xb l2) (backL kb ab cb xb l2) _ HY18.out.rd HS18.out.rd).mono ?_; rintro e w19 ⟨rfl, b19⟩; rw [eqV_refl]; have d19 : Below w18.heap.size w18 w19 := (Below.trans (by go_grown) (b19.mono (by first | omega | (simp; done) | (simp; omega)))); have c19 : Below w.heap.size w w19 := c18.trans (d19.mono c18.size))
            | (refine (implVSame_any (doN ka aa ca xa) (doN ka aa ca xa) _ _ (doL ka aa ca xa l) (doL ka aa ca xa l) _ HX16.out.rd HS16.out.rd).mono ?_; rintro e w17 ⟨rfl, b17⟩; rw [eqV_refl]; have d17 : Below w16.heap.size w16 w17 := (Below.trans (by go_grown) (b17.mono (by first | omega | (simp; done) | (simp; omega)))); have c17 : Below w.heap.size w w17 := c16.trans (d17.mono c16.size); have u0_17 : w17.cell? ⟨w11.heap.size, 0, none⟩ = some (.int .i64 z2) := (by rw [b17.cell (by first | omega | (simp; done) | (simp; omega))]; go_cell); have u1_17 : w17.cell? ⟨w11.heap.size, 1, none⟩ = some (.slice uo2 l2.length uc2) := (by rw [b17.cell (by first | omega | (simp; done) | (simp; omega))]; go_cell); have ul_17 : w11.heap.size < w17.heap.size := (by have := b17.size; first | omega | (revert this; simp; done) | (revert this; simp; omega)); have q0_17 : w17.cell? ⟨w11.heap.size + 1, 0, none⟩ = some (.int .i64 kb) := (by rw [b17.cell (by first | omega | (simp; done) | (simp; omega))]; go_cell); have q1_17 : w17.cell? ⟨w11.heap.size + 1, 1, none⟩ = some (.int .i64 ab) := (by rw [b17.cell (by first | omega | (simp; done) | (simp; omega))]; go_cell); have q2_17 : w17.cell? ⟨w11.heap.size + 1, 2, none⟩ = some (.int .i64 cb) := (by rw [b17.cell (by first | omega | (simp; done) | (simp; omega))]; go_cell); have q3_17 : w17.cell? ⟨w11.heap.size + 1, 3, none⟩ = some (.int .i64 xb) := (by rw [b17.cell (by first | omega | (simp; done) | (simp; omega))]; go_cell); have ql_17 : w11.heap.size + 1 < w17.heap.size := (by have := b17.size; first | omega | (revert this; simp; done) | (revert this; simp; omega)); have y0_17 : w17.cell? ⟨w14.heap.size, 0, none⟩ = some (.int .i64 0) := (by rw [b17.cell (by first | omega | (simp; done) | (simp; omega))]; go_cell); have y1_17 : w17.cell? ⟨w14.heap.size, 1, none⟩ = some (.slice yo (backL kb ab cb xb l2).length yc) := (by rw [b17.cell (by first | omega | (simp; done) | (simp; omega))]; go_cell); have yl_17 : w14.heap.size < w17.heap.size := (by have := b17.size; first | omega | (revert this; simp; done) | (revert this; simp; omega)); clear u0_16 u1_16 ul_16 q0_16 q1_16 q2_16 q3_16 ql_16 y0_16 y1_16 yl_16; have HU17 := hid (HU16.out.later d17); have HY17 := hid (HY16.out.later d17))))
        all_goals
          go_wp2_with fail
          go_meet
          have t16 := d16.size
          have t17 := d17.size
          have t18 := d18.size
          exact ⟨by simp, ((d16.trans (d17.mono t16)).trans (d18.mono (by omega))).trans (d19.mono (by omega))⟩
      case rest =>
        obtain ⟨rfl, hb⟩ := hcut
        generalize hwc : wc = w16 at *
        clear hwc
        have b16 := hb
        have d16 : Below w15.heap.size w15 w16 := (Below.trans (by go_grown) (b16.mono (by first | omega | (simp; done) | (simp; omega))))
        have c16 : Below w.heap.size w w16 := c15.trans (d16.mono c15.size)
        have p0_16 : w16.cell? ⟨w6.heap.size + 1, 0, none⟩ = some (.int .i64 ka) := (by rw [b16.cell (by first | omega | (simp; done) | (simp; omega))]; go_cell)
        have p1_16 : w16.cell? ⟨w6.heap.size + 1, 1, none⟩ = some (.int .i64 aa) := (by rw [b16.cell (by first | omega | (simp; done) | (simp; omega))]; go_cell)
        have p2_16 : w16.cell? ⟨w6.heap.size + 1, 2, none⟩ = some (.int .i64 ca) := (by rw [b16.cell (by first | omega | (simp; done) | (simp; omega))]; go_cell)
        have p3_16 : w16.cell? ⟨w6.heap.size + 1, 3, none⟩ = some (.int .i64 xa) := (by rw [b16.cell (by first | omega | (simp; done) | (simp; omega))]; go_cell)
        have pl_16 : w6.heap.size + 1 < w16.heap.size := (by have := b16.size; first | omega | (revert this; simp; done) | (revert this; simp; omega))
        have x0_16 : w16.cell? ⟨w9.heap.size, 0, none⟩ = some (.int .i64 (doN ka aa ca xa)) := (by rw [b16.cell (by first | omega | (simp; done) | (simp; omega))]; go_cell)
        have x1_16 : w16.cell? ⟨w9.heap.size, 1, none⟩ = some (.slice xo (doL ka aa ca xa l).length xc) := (by rw [b16.cell (by first | omega | (simp; done) | (simp; omega))]; go_cell)
        have xl_16 : w9.heap.size < w16.heap.size := (by have := b16.size; first | omega | (revert this; simp; done) | (revert this; simp; omega))
        have q0_16 : w16.cell? ⟨w11.heap.size + 1, 0, none⟩ = some (.int .i64 kb) := (by rw [b16.cell (by first | omega | (simp; done) | (simp; omega))]; go_cell)
        have q1_16 : w16.cell? ⟨w11.heap.size + 1, 1, none⟩ = some (.int .i64 ab) := (by rw [b16.cell (by first | omega | (simp; done) | (simp; omega))]; go_cell)
        have q2_16 : w16.cell? ⟨w11.heap.size + 1, 2, none⟩ = some (.int .i64 cb) := (by rw [b16.cell (by first | omega | (simp; done) | (simp; omega))]; go_cell)
        have q3_16 : w16.cell? ⟨w11.heap.size + 1, 3, none⟩ = some (.int .i64 xb) := (by rw [b16.cell (by first | omega | (simp; done) | (simp; omega))]; go_cell)
        have ql_16 : w11.heap.size + 1 < w16.heap.size := (by have := b16.size; first | omega | (revert this; simp; done) | (revert this; simp; omega))
        have y0_16 : w16.cell? ⟨w14.heap.size, 0, none⟩ = some (.int .i64 0) := (by rw [b16.cell (by first | omega | (simp; done) | (simp; omega))]; go_cell)
        have y1_16 : w16.cell? ⟨w14.heap.size, 1, none⟩ = some (.slice yo (backL kb ab cb xb l2).length yc) := (by rw [b16.cell (by first | omega | (simp; done) | (simp; omega))]; go_cell)
        have yl_16 : w14.heap.size < w16.heap.size := (by have := b16.size; first | omega | (revert this; simp; done) | (revert this; simp; omega))
        clear p0_15 p1_15 p2_15 p3_15 pl_15 x0_15 x1_15 xl_15 q0_15 q1_15 q2_15 q3_15 ql_15 y0_15 y1_15 yl_15
        have HX16 := hid (HX15.out.later d16)
        have HY16 := hid (HY15.out.later d16)
        clear hb b16 d16 HX15 HY15 HV15 HU15
        have CK := fun W => implOpKey_any ka aa ca xa W
        have CN := fun W => implOther_any kb ab cb xb W
        have CP := fun W => specOpOk_any ka aa ca xa W
        have CQ := fun W => specOpOk_any kb ab cb xb W
        have CX := fun (W : World) (h : Rd W (.slice xo (doL ka aa ca xa l).length xc) (doL ka aa ca xa l)) => implOkV_any (opKey ka aa ca xa) (doN ka aa ca xa) _ _ W h
        have CY := fun (W : World) (h : Rd W (.slice yo (backL kb ab cb xb l2).length yc) (backL kb ab cb xb l2)) => implOkV_any (opOther kb ab cb xb) 0 _ _ W h
        have hx := okV_do (k := ka) (a := aa) (b := ca) (n := xa) l
        have hy := okV_back (k := kb) (a := ab) (b := cb) (n := xb) l2
        have r0 := cell_regrown p0_16
        have r1 := cell_regrown p1_16
        have r2 := cell_regrown p2_16
        have r3 := cell_regrown p3_16
        have r4 := cell_regrown x0_16
        have r5 := cell_regrown x1_16
        have r6 := cell_regrown q0_16
        have r7 := cell_regrown q1_16
        have r8 := cell_regrown q2_16
        have r9 := cell_regrown q3_16
        have ra := cell_regrown y0_16
        have rb := cell_regrown y1_16
        generalize opKey ka aa ca xa = K1 at *
        generalize opOther kb ab cb xb = N1 at *
        generalize doN ka aa ca xa = D1 at *
        generalize doL ka aa ca xa l = L1 at *
        generalize backL kb ab cb xb l2 = L2 at *
        go_upto_region 14 with fail
        cases hoa : opOk ka aa ca xa <;> cases hob : opOk kb ab cb xb <;> rw [hoa] at CP <;> rw [hob] at CQ
        all_goals
          first
            | (have hxx := hx hoa; rw [hxx] at CX)
            | skip
          by_cases hk1 : kb = 1
          case' pos => subst hk1
          case' neg =>
            have hk1' : (kb == 1) = false := by simpa using hk1
            first
              | (have hyy := hy hob hk1; rw [hyy] at CY)
              | skip
        all_goals
          refine wp_region_quiet_below (by kernel_rfl) (by kernel_rfl) ?_
          repeat (first | go_big_quiet_skip | (go_big_quiet_want; go_big_quiet_op; first | go_big_quiet_on | go_big_quiet_call (first | (go_at_call 11; with_reducible exact Calls.regrown_of (CP _)) | (go_at_call 11; with_reducible exact Calls.regrown_of (CQ _)) | (go_at_call 6; exact Calls.regrown_of (CK _)) | (go_at_call 7; exact Calls.regrown_of (CN _)) | (go_at_call 19; with_reducible exact Calls.regrown_of (CX _ (HX16.out.rd.later (below_regrown _ _ _)))) | (go_at_call 19; with_reducible exact Calls.regrown_of (CY _ (HY16.out.rd.later (below_regrown _ _ _)))))))
          refine wpQuiet_nil ?_
          rintro wq ⟨pq, hwq⟩
          have hq : Below w16.heap.size w16 wq := by rw [hwq]; exact below_regrown _ _ _
          clear hwq pq
          have cq := c16.trans (hq.mono c16.size)
          go_wp2
          go_ret
          exact ⟨by simp, cq⟩
end Go.Proofs.Ythmbhcgecnkgeaa
