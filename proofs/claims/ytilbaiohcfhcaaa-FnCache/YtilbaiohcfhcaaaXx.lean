/- A cache with an item put in, as the document has it: spec.l5Put: contract. Written by a program (gspq.py). -/
import Derived.Test.YtilbaiohcfhcaaaXw
import Derived.Deep.Cut
namespace Go.Proofs.Ytilbaiohcfhcaaa
open Go.RowKit
attribute [local go_sem ↓] Go.wp_at_zero Go.wp_at_succ

theorem RdK.forAppend {G : Nat → Prop} {w : World} {ao : Option Addr} {n cap : Nat} {L : List KD} (h : RdK G w (.slice ao n cap) L) : ∃ (us : Nat → Value) (cs : List Value),
    ((n = 0 ∧ cs = []) ∨ (∃ b off, ao = some ⟨b, off, none⟩ ∧ cs.length = n * 4 ∧ (∀ j y, cs[j]? = some y → w.cell? ⟨b, off + j, none⟩ = some y) ∧ (∀ y ∈ cs, y.oneCell' = true))) ∧
    (∀ i, i < L.length → (L.getD i kd0).1.length = 3) ∧ (∀ i, i < L.length → ∀ j, j < 3 → cs[i * 4 + j]? = some (.int .i64 ((L.getD i kd0).1.getD j 0))) ∧ (∀ i, i < L.length → cs[i * 4 + 3]? = some (us i)) ∧
    (∀ i, i < L.length → Rd w (us i) (L.getD i kd0).2 ∧ (0 < (L.getD i kd0).2.length → ∀ q, (us i).ownBlock = some q → ¬ G q)) := by
  obtain ⟨rfl, hc⟩ := h.cells
  rcases hc with rfl | ⟨b, off, us, cs, rfl, h1, h2, h3, h4, h5, h6, h7⟩
  · exact ⟨fun _ => .bool false, [], Or.inl ⟨rfl, rfl⟩, fun _ h => absurd h (Nat.not_lt_zero _), fun _ h => absurd h (Nat.not_lt_zero _), fun _ h => absurd h (Nat.not_lt_zero _), fun _ h => absurd h (Nat.not_lt_zero _)⟩
  · exact ⟨us, cs, Or.inr ⟨b, off, rfl, h1, h2, h3⟩, h4, h5, h6, h7⟩
theorem ownsRow_cap {w : World} {B n g c : Nat} {e : TypeId} {sz : Nat} {xs : List Value} (h : w.ownsRow B e sz (.slice (some ⟨g, 0, none⟩) n c) n xs) : n ≤ c := by
  rcases h.2 with ⟨hv, _⟩ | ⟨g', cap, cur, hv, _, _, hnc, _⟩
  · cases hv
  · injection hv with _ _ hc
    rw [hc]
    exact hnc
theorem only_new {w w5 w6 : World} {o : Obj} {g : Nat} (h5 : Only (fun b => b = g) w w5) (hgr : (w5.alloc o).grownBy w6 (some w5.heap.size)) : Only (fun b => b = g) w w6 := by
  refine h5.trans ⟨hgr.os, hgr.tape, hgr.output, Nat.le_trans (by simp) hgr.size, fun k hk _ => ?_⟩
  exact (hgr.block k (by simp; omega) (fun e => by injection e with e; omega)).trans (Below.heap_alloc _ _ _ hk)
/-- Behind the append: the copy's first cell is the new row, all else stands. -/
structure MidP (w : World) (A R B g c : Nat) (G : Nat → Prop) (L F' : List KD) (x : KD) (wx : World) : Prop where
  ex : ∃ g6 c6, wx.cell? ⟨A, 0, none⟩ = some (.slice (some ⟨g6, 0, none⟩) (L.length + 1) c6) ∧ L.length + 1 ≤ c6 ∧ RdK G wx (.slice (some ⟨g6, 0, none⟩) (L.length + 1) c6) (x :: L)
  a1 : wx.cell? ⟨A, 1, none⟩ = some (.slice (some ⟨g, 0, none⟩) 24 c)
  af : wx.frozen? ⟨A, 0, none⟩ = false
  r0 : wx.cell? ⟨R, 0, none⟩ = some (.slice none 0 0)
  r1 : wx.cell? ⟨R, 1, none⟩ = some (.slice none 0 0)
  rf0 : wx.frozen? ⟨R, 0, none⟩ = false
  rf1 : wx.frozen? ⟨R, 1, none⟩ = false
  row : wx.ownsRow B 3 1 (.slice (some ⟨g, 0, none⟩) 24 c) 24 (floC F')
  only : Only (fun b => b = g) w wx
theorem midP_set {w w6 : World} {A R B g c g6 c6 : Nat} {G : Nat → Prop} {L F' : List KD} {x : KD} (hA : w6.cell? ⟨A, 0, none⟩ ≠ none) (hf : w6.frozen? ⟨A, 0, none⟩ = false) (hc : L.length + 1 ≤ c6) (hG : G A) (hAR : A ≠ R) (hAg : g ≠ A) (hAw : w.heap.size ≤ A)
    (hK : RdK G w6 (.slice (some ⟨g6, 0, none⟩) (L.length + 1) c6) (x :: L)) (a1 : w6.cell? ⟨A, 1, none⟩ = some (.slice (some ⟨g, 0, none⟩) 24 c)) (r0 : w6.cell? ⟨R, 0, none⟩ = some (.slice none 0 0)) (r1 : w6.cell? ⟨R, 1, none⟩ = some (.slice none 0 0))
    (rf0 : w6.frozen? ⟨R, 0, none⟩ = false) (rf1 : w6.frozen? ⟨R, 1, none⟩ = false) (hrow : w6.ownsRow B 3 1 (.slice (some ⟨g, 0, none⟩) 24 c) 24 (floC F')) (ho : Only (fun b => b = g) w w6) :
    MidP w A R B g c G L F' x (w6.setCell ⟨A, 0, none⟩ (.slice (some ⟨g6, 0, none⟩) (L.length + 1) c6)) := by
  obtain ⟨z, hz⟩ := Option.ne_none_iff_exists'.1 hA
  have e0 : (w6.setCell ⟨A, 0, none⟩ (.slice (some ⟨g6, 0, none⟩) (L.length + 1) c6)).cell? ⟨A, 0, none⟩ = some (.slice (some ⟨g6, 0, none⟩) (L.length + 1) c6) := by go_cell
  have hR : ∀ i, (w6.setCell ⟨A, 0, none⟩ (.slice (some ⟨g6, 0, none⟩) (L.length + 1) c6)).cell? ⟨R, i, none⟩ = w6.cell? ⟨R, i, none⟩ := fun i => World.cell?_of_block (a := ⟨R, i, none⟩) (Below.heap_setCell _ _ _ _ (fun e => hAR e.symm))
  refine ⟨⟨g6, c6, e0, hc, hK.only (Only.set (F := G) _ (p := ⟨A, 0, none⟩) hG _)⟩, ?_, by simpa using hf, by rw [hR]; exact r0, by rw [hR]; exact r1, by simpa using rf0, by simpa using rf1, row_agree hrow (fun q hq => by cases hq; exact Below.heap_setCell _ _ _ _ hAg), ?_⟩
  · rw [World.cell?_setCell_other _ _ _ _ (by intro q; injection q with _ q; omega)]
    exact a1
  · exact ⟨ho.os, ho.tape, ho.output, by have := ho.size; simp; exact this, fun q hq hne => (Below.heap_setCell _ _ _ _ (by show q ≠ A; omega)).trans (ho.block q hq hne)⟩
/-- What the new row reads as. -/
theorem put_rdK {G : Nat → Prop} {w4 w5 w6 : World} {o : Obj} {L : List KD} {cs : List Value} {us : Nat → Value} {k p n : Int} {l : List (Int × Int)} {x v6 : Value} (hd : w4.heap.size ≤ w5.heap.size) (hG : ∀ q, w4.heap.size ≤ q → ¬ G q)
    (ho : w6.ownsRow w5.heap.size 31 4 v6 (1 + L.length) ([.int .i64 k, .int .i64 p, .int .i64 n, x] ++ cs)) (hx : Own w5 w4.heap.size x l) (hgr : (w5.alloc o).grownBy w6 (some w5.heap.size))
    (hl : ∀ i, i < L.length → (L.getD i kd0).1.length = 3) (hn : ∀ i, i < L.length → ∀ j, j < 3 → cs[i * 4 + j]? = some (.int .i64 ((L.getD i kd0).1.getD j 0))) (hk : ∀ i, i < L.length → cs[i * 4 + 3]? = some (us i))
    (hr : ∀ i, i < L.length → Rd (w5.alloc o) (us i) (L.getD i kd0).2 ∧ (0 < (L.getD i kd0).2.length → ∀ q, (us i).ownBlock = some q → ¬ (G q ∨ q = w5.heap.size))) : RdK G w6 v6 (([k, p, n], l) :: L) := by
  have hR := rowA_cons (l := l) ho hl hn hk
  have hO : Only (fun q => q = w5.heap.size) (w5.alloc o) w6 := Only.of_grown hgr (fun q hq => by injection hq with hq; exact hq.symm)
  refine hR.rdK (fun q hq => hG q (by have := (hR.row.lt q hq).1; omega)) (fun i hi => ?_)
  cases i with
  | zero =>
    have hb := hx.block
    refine ⟨Rd.only (Own.rd (row_later hx (show Below w5.heap.size w5 (w5.alloc o) from (Below.refl _ w5).alloc (Nat.le_refl _) _))) hO (fun _ q hq e => by have := (hb q hq).2; omega), fun _ q hq => ⟨hG q (hb q hq).1, fun e => by have := (hR.row.lt q e).1; have := (hb q hq).2; omega⟩⟩
  | succ i =>
    rw [List.getD_cons_succ]
    have hi' : i < L.length := by simpa using hi
    exact ⟨(hr i hi').1.only hO (fun h0 q hq e => (hr i hi').2 h0 q hq (Or.inr e)), fun h0 q hq => ⟨fun hg => (hr i hi').2 h0 q hq (Or.inl hg), fun e => by
      have h1 := (hR.row.lt q e).1
      have h2 := (hr i hi').1.own_lt h0 q hq
      have h3 := (hr i hi').2 h0 q hq
      have h4 : ¬ q = w5.heap.size := fun e => h3 (Or.inr e)
      simp at h2
      omega⟩⟩
set_option maxRecDepth 100000 in
set_option maxHeartbeats 8000000 in
theorem l5Put_any (N g c B : Nat) (v0 : Value) (I F : List KD) (k v n : Int) (u : Value) (l : List (Int × Int)) (w : World) (hK : RdK (fun q => q < N) w v0 I) (hN : N ≤ w.heap.size) (hg : g < N) (hrow : w.ownsRow B 3 1 (.slice (some ⟨g, 0, none⟩) 24 c) 24 (floC F)) (hf : FloF F) (h4 : I.length ≤ 4)
    (hu : Rd w u l) (hub : 0 < l.length → ∀ b, u.ownBlock = some b → ¬ b = g) {D : (List KD × List KD) × Bool} (hD : (if putB F k v n l then ((putI k v n l I, putF F k v), true) else ((I, F), false)) = D) :
    Calls Try.prog 22 #[.agg #[v0, .slice (some ⟨g, 0, none⟩) 24 c], .agg #[.int .i64 k, .int .i64 v, .int .i64 n, u]] w fun e w' => (∃ x, e = .returned (.tuple #[.agg #[x, .slice (some ⟨g, 0, none⟩) 24 c], .bool D.2]) ∧ RdK (fun q => q < N) w' x D.1.1 ∧ w'.ownsRow B 3 1 (.slice (some ⟨g, 0, none⟩) 24 c) 24 (floC D.1.2)) ∧ Only (fun b => b = g) w w' := by
  have HK := hid hK
  have HROW := hid hrow
  have HFL := hid hf
  have HU := hid hu
  have HUB := hid hub
  obtain ⟨vo, vc, rfl, _⟩ := hK
  obtain ⟨uo, uc, rfl, _⟩ := hu
  clear hrow hf hub
  have hco := fun (W : World) (hr : Rd W (.slice uo l.length uc) l) => specItem_any k v n _ l W hr rfl
  cases hit : itR k v n l with
  | false =>
    rw [hit] at hco
    have hp : putB F k v n l = false := by simp [putB, hit]
    rw [hp] at hD
    simp only [Bool.false_eq_true, if_false] at hD
    subst hD
    clear hit hp
    go_enter Try.func22, Try.ntmps22
    go_wp2_with fail
    generalize hW1 : (((w.alloc (.cells #[.slice vo I.length vc, .slice (some ⟨g, 0, none⟩) 24 c] 26)).alloc (.cells #[.int .i64 k, .int .i64 v, .int .i64 n, .slice uo l.length uc] 31)).alloc (.cells #[.slice none 0 0, .slice none 0 0] 26)) = w1
    have a0_1 : w1.cell? ⟨w.heap.size, 0, none⟩ = some (.slice vo I.length vc) := by subst hW1; go_cell
    have a1_1 : w1.cell? ⟨w.heap.size, 1, none⟩ = some (.slice (some ⟨g, 0, none⟩) 24 c) := by subst hW1; go_cell
    have al_1 : w.heap.size < w1.heap.size := by subst hW1; first | (simp; done) | (simp; omega)
    have b0_1 : w1.cell? ⟨w.heap.size + 1, 0, none⟩ = some (.int .i64 k) := by subst hW1; go_cell
    have b1_1 : w1.cell? ⟨w.heap.size + 1, 1, none⟩ = some (.int .i64 v) := by subst hW1; go_cell
    have b2_1 : w1.cell? ⟨w.heap.size + 1, 2, none⟩ = some (.int .i64 n) := by subst hW1; go_cell
    have b3_1 : w1.cell? ⟨w.heap.size + 1, 3, none⟩ = some (.slice uo l.length uc) := by subst hW1; go_cell
    have bl_1 : w.heap.size + 1 < w1.heap.size := by subst hW1; first | (simp; done) | (simp; omega)
    have r0_1 : w1.cell? ⟨w.heap.size + 1 + 1, 0, none⟩ = some (.slice none 0 0) := by subst hW1; go_cell
    have rf0_1 : w1.frozen? ⟨w.heap.size + 1 + 1, 0, none⟩ = false := by subst hW1; (first | go_cell | (simp [World.frozen?, World.alloc]; done) | rfl)
    have r1_1 : w1.cell? ⟨w.heap.size + 1 + 1, 1, none⟩ = some (.slice none 0 0) := by subst hW1; go_cell
    have rf1_1 : w1.frozen? ⟨w.heap.size + 1 + 1, 1, none⟩ = false := by subst hW1; (first | go_cell | (simp [World.frozen?, World.alloc]; done) | rfl)
    have rl_1 : w.heap.size + 1 + 1 < w1.heap.size := by subst hW1; first | (simp; done) | (simp; omega)
    have c1 : Below w.heap.size w w1 := by subst hW1; go_grown
    have s1 : w1.heap.size = w.heap.size + 3 := by subst hW1; simp
    clear hW1
    have qa0_1 := cell_regrown a0_1
    have qa1_1 := cell_regrown a1_1
    have qb0_1 := cell_regrown b0_1
    have qb1_1 := cell_regrown b1_1
    have qb2_1 := cell_regrown b2_1
    have qb3_1 := cell_regrown b3_1
    have qr0_1 := cell_regrown r0_1
    have qr1_1 := cell_regrown r1_1
    clear qr0_1 qr1_1
    have S1 := hid s1
    clear s1
    have HU1 := hid (HU.out.later c1)
    refine wp_region_quiet_below (by kernel_rfl) (by kernel_rfl) ?_
    repeat (first | go_big_quiet_skip | (go_big_quiet_want; go_big_quiet_op; first | go_big_quiet_on | go_big_quiet_call (first | (go_at_call 27; exact Calls.regrown_of (hco _ (HU1.out.later (below_regrown _ _ _)))))))
    refine wpQuiet_nil ?_
    rintro wq ⟨pq, hwq⟩
    have hq : Below w1.heap.size w1 wq := by rw [hwq]; exact below_regrown _ _ _
    clear hwq pq
    have C2 := hid (c1.trans (hq.mono c1.size))
    have r0_2 := (hq.cell (p := ⟨w.heap.size + 1 + 1, 0, none⟩) rl_1).trans r0_1
    have r1_2 := (hq.cell (p := ⟨w.heap.size + 1 + 1, 1, none⟩) rl_1).trans r1_1
    have rf0_2 := (hq.frozen (p := ⟨w.heap.size + 1 + 1, 0, none⟩) rl_1).trans rf0_1
    have rf1_2 := (hq.frozen (p := ⟨w.heap.size + 1 + 1, 1, none⟩) rl_1).trans rf1_1
    have a0_2 := (hq.cell (p := ⟨w.heap.size, 0, none⟩) al_1).trans a0_1
    have a1_2 := (hq.cell (p := ⟨w.heap.size, 1, none⟩) al_1).trans a1_1
    clear hq hco r0_1 r1_1 rf0_1 rf1_1 a0_1 a1_1
    go_wp2_with fail
    have KB := (C2.out.setCell (p := ⟨w.heap.size + 1 + 1, 0, none⟩) (by show w.heap.size ≤ w.heap.size + 1 + 1; omega) (.slice vo I.length vc)).setCell (p := ⟨w.heap.size + 1 + 1, 1, none⟩) (by show w.heap.size ≤ w.heap.size + 1 + 1; omega) (.slice (some ⟨g, 0, none⟩) 24 c)
    have e0 : ((wq.setCell ⟨w.heap.size + 1 + 1, 0, none⟩ (.slice vo I.length vc)).setCell ⟨w.heap.size + 1 + 1, 1, none⟩ (.slice (some ⟨g, 0, none⟩) 24 c)).cell? ⟨w.heap.size + 1 + 1, 0, none⟩ = some (.slice vo I.length vc) := by go_cell
    have e1 : ((wq.setCell ⟨w.heap.size + 1 + 1, 0, none⟩ (.slice vo I.length vc)).setCell ⟨w.heap.size + 1 + 1, 1, none⟩ (.slice (some ⟨g, 0, none⟩) 24 c)).cell? ⟨w.heap.size + 1 + 1, 1, none⟩ = some (.slice (some ⟨g, 0, none⟩) 24 c) := by go_cell
    exact bodyPost_ret (v := .tuple #[.agg #[.slice vo I.length vc, .slice (some ⟨g, 0, none⟩) 24 c], .bool false]) (by simp [results, Try.results22, go_sem, e0, e1]) rfl ⟨⟨_, rfl, HK.out.later KB, row_later HROW.out KB⟩, Only.later KB⟩
  | true =>
    rw [hit] at hco
    have hk := itR_key hit
    obtain ⟨kk, rfl⟩ := Int.eq_ofNat_of_zero_le hk.1
    have hkk : kk < 24 := by omega
    have HL8 : Hid (l.length ≤ 8) := hid (by unfold itR at hit; rw [Bool.and_eq_true] at hit; exact okV_le hit.2)
    have HFL1 := hid (show kk < F.length from by rw [HFL.out.1]; exact hkk)
    cases hpb : putB F (kk : Int) v n l with
    | false =>
      rw [hpb] at hD
      simp only [Bool.false_eq_true, if_false] at hD
      subst hD
      have hlt : decide (v < flr F kk) = true := by
        simp [putB, hit] at hpb
        simpa using hpb
      clear hk hit hpb
      go_enter Try.func22, Try.ntmps22
      go_wp2_with fail
      generalize hW1 : (((w.alloc (.cells #[.slice vo I.length vc, .slice (some ⟨g, 0, none⟩) 24 c] 26)).alloc (.cells #[.int .i64 (kk : Int), .int .i64 v, .int .i64 n, .slice uo l.length uc] 31)).alloc (.cells #[.slice none 0 0, .slice none 0 0] 26)) = w1
      have a0_1 : w1.cell? ⟨w.heap.size, 0, none⟩ = some (.slice vo I.length vc) := by subst hW1; go_cell
      have a1_1 : w1.cell? ⟨w.heap.size, 1, none⟩ = some (.slice (some ⟨g, 0, none⟩) 24 c) := by subst hW1; go_cell
      have al_1 : w.heap.size < w1.heap.size := by subst hW1; first | (simp; done) | (simp; omega)
      have b0_1 : w1.cell? ⟨w.heap.size + 1, 0, none⟩ = some (.int .i64 (kk : Int)) := by subst hW1; go_cell
      have b1_1 : w1.cell? ⟨w.heap.size + 1, 1, none⟩ = some (.int .i64 v) := by subst hW1; go_cell
      have b2_1 : w1.cell? ⟨w.heap.size + 1, 2, none⟩ = some (.int .i64 n) := by subst hW1; go_cell
      have b3_1 : w1.cell? ⟨w.heap.size + 1, 3, none⟩ = some (.slice uo l.length uc) := by subst hW1; go_cell
      have bl_1 : w.heap.size + 1 < w1.heap.size := by subst hW1; first | (simp; done) | (simp; omega)
      have r0_1 : w1.cell? ⟨w.heap.size + 1 + 1, 0, none⟩ = some (.slice none 0 0) := by subst hW1; go_cell
      have rf0_1 : w1.frozen? ⟨w.heap.size + 1 + 1, 0, none⟩ = false := by subst hW1; (first | go_cell | (simp [World.frozen?, World.alloc]; done) | rfl)
      have r1_1 : w1.cell? ⟨w.heap.size + 1 + 1, 1, none⟩ = some (.slice none 0 0) := by subst hW1; go_cell
      have rf1_1 : w1.frozen? ⟨w.heap.size + 1 + 1, 1, none⟩ = false := by subst hW1; (first | go_cell | (simp [World.frozen?, World.alloc]; done) | rfl)
      have rl_1 : w.heap.size + 1 + 1 < w1.heap.size := by subst hW1; first | (simp; done) | (simp; omega)
      have c1 : Below w.heap.size w w1 := by subst hW1; go_grown
      have s1 : w1.heap.size = w.heap.size + 3 := by subst hW1; simp
      clear hW1
      have qa0_1 := cell_regrown a0_1
      have qa1_1 := cell_regrown a1_1
      have qb0_1 := cell_regrown b0_1
      have qb1_1 := cell_regrown b1_1
      have qb2_1 := cell_regrown b2_1
      have qb3_1 := cell_regrown b3_1
      have qr0_1 := cell_regrown r0_1
      have qr1_1 := cell_regrown r1_1
      clear qr0_1 qr1_1
      have S1 := hid s1
      clear s1
      have HU1 := hid (HU.out.later c1)
      have HROW1 := hid (row_later HROW.out c1)
      have f1 : w1.cell? ⟨g, kk, none⟩ = some (.int .i64 (flr F kk)) := by rw [World.ownsRow.cellAt HROW1.out kk (by omega), floC_get HFL1.out]
      have qf1 := cell_regrown f1
      refine wp_region_quiet_below (by kernel_rfl) (by kernel_rfl) ?_
      repeat (first | go_big_quiet_skip | (go_big_quiet_want; go_big_quiet_op; first | go_big_quiet_on | go_big_quiet_call (first | (go_at_call 27; exact Calls.regrown_of (hco _ (HU1.out.later (below_regrown _ _ _)))))))
      refine wpQuiet_nil ?_
      rintro wq ⟨pq, hwq⟩
      have hq : Below w1.heap.size w1 wq := by rw [hwq]; exact below_regrown _ _ _
      clear hwq pq
      have C2 := hid (c1.trans (hq.mono c1.size))
      have r0_2 := (hq.cell (p := ⟨w.heap.size + 1 + 1, 0, none⟩) rl_1).trans r0_1
      have r1_2 := (hq.cell (p := ⟨w.heap.size + 1 + 1, 1, none⟩) rl_1).trans r1_1
      have rf0_2 := (hq.frozen (p := ⟨w.heap.size + 1 + 1, 0, none⟩) rl_1).trans rf0_1
      have rf1_2 := (hq.frozen (p := ⟨w.heap.size + 1 + 1, 1, none⟩) rl_1).trans rf1_1
      have a0_2 := (hq.cell (p := ⟨w.heap.size, 0, none⟩) al_1).trans a0_1
      have a1_2 := (hq.cell (p := ⟨w.heap.size, 1, none⟩) al_1).trans a1_1
      clear hq hco r0_1 r1_1 rf0_1 rf1_1 a0_1 a1_1
      go_wp2_with fail
      have KB := (C2.out.setCell (p := ⟨w.heap.size + 1 + 1, 0, none⟩) (by show w.heap.size ≤ w.heap.size + 1 + 1; omega) (.slice vo I.length vc)).setCell (p := ⟨w.heap.size + 1 + 1, 1, none⟩) (by show w.heap.size ≤ w.heap.size + 1 + 1; omega) (.slice (some ⟨g, 0, none⟩) 24 c)
      have e0 : ((wq.setCell ⟨w.heap.size + 1 + 1, 0, none⟩ (.slice vo I.length vc)).setCell ⟨w.heap.size + 1 + 1, 1, none⟩ (.slice (some ⟨g, 0, none⟩) 24 c)).cell? ⟨w.heap.size + 1 + 1, 0, none⟩ = some (.slice vo I.length vc) := by go_cell
      have e1 : ((wq.setCell ⟨w.heap.size + 1 + 1, 0, none⟩ (.slice vo I.length vc)).setCell ⟨w.heap.size + 1 + 1, 1, none⟩ (.slice (some ⟨g, 0, none⟩) 24 c)).cell? ⟨w.heap.size + 1 + 1, 1, none⟩ = some (.slice (some ⟨g, 0, none⟩) 24 c) := by go_cell
      exact bodyPost_ret (v := .tuple #[.agg #[.slice vo I.length vc, .slice (some ⟨g, 0, none⟩) 24 c], .bool false]) (by simp [results, Try.results22, go_sem, e0, e1]) rfl ⟨⟨_, rfl, HK.out.later KB, row_later HROW.out KB⟩, Only.later KB⟩
    | true =>
      rw [hpb] at hD
      simp only [if_true] at hD
      subst hD
      have hlt : decide (v < flr F kk) = false := by
        simp [putB, hit] at hpb
        simp
        omega
      clear hk hit hpb
      go_enter Try.func22, Try.ntmps22
      go_wp2_with fail
      generalize hW1 : (((w.alloc (.cells #[.slice vo I.length vc, .slice (some ⟨g, 0, none⟩) 24 c] 26)).alloc (.cells #[.int .i64 (kk : Int), .int .i64 v, .int .i64 n, .slice uo l.length uc] 31)).alloc (.cells #[.slice none 0 0, .slice none 0 0] 26)) = w1
      have a0_1 : w1.cell? ⟨w.heap.size, 0, none⟩ = some (.slice vo I.length vc) := by subst hW1; go_cell
      have af0_1 : w1.frozen? ⟨w.heap.size, 0, none⟩ = false := by subst hW1; (first | go_cell | (simp [World.frozen?, World.alloc]; done) | rfl)
      have a1_1 : w1.cell? ⟨w.heap.size, 1, none⟩ = some (.slice (some ⟨g, 0, none⟩) 24 c) := by subst hW1; go_cell
      have af1_1 : w1.frozen? ⟨w.heap.size, 1, none⟩ = false := by subst hW1; (first | go_cell | (simp [World.frozen?, World.alloc]; done) | rfl)
      have al_1 : w.heap.size < w1.heap.size := by subst hW1; first | (simp; done) | (simp; omega)
      have b0_1 : w1.cell? ⟨w.heap.size + 1, 0, none⟩ = some (.int .i64 (kk : Int)) := by subst hW1; go_cell
      have b1_1 : w1.cell? ⟨w.heap.size + 1, 1, none⟩ = some (.int .i64 v) := by subst hW1; go_cell
      have b2_1 : w1.cell? ⟨w.heap.size + 1, 2, none⟩ = some (.int .i64 n) := by subst hW1; go_cell
      have b3_1 : w1.cell? ⟨w.heap.size + 1, 3, none⟩ = some (.slice uo l.length uc) := by subst hW1; go_cell
      have bl_1 : w.heap.size + 1 < w1.heap.size := by subst hW1; first | (simp; done) | (simp; omega)
      have r0_1 : w1.cell? ⟨w.heap.size + 1 + 1, 0, none⟩ = some (.slice none 0 0) := by subst hW1; go_cell
      have rf0_1 : w1.frozen? ⟨w.heap.size + 1 + 1, 0, none⟩ = false := by subst hW1; (first | go_cell | (simp [World.frozen?, World.alloc]; done) | rfl)
      have r1_1 : w1.cell? ⟨w.heap.size + 1 + 1, 1, none⟩ = some (.slice none 0 0) := by subst hW1; go_cell
      have rf1_1 : w1.frozen? ⟨w.heap.size + 1 + 1, 1, none⟩ = false := by subst hW1; (first | go_cell | (simp [World.frozen?, World.alloc]; done) | rfl)
      have rl_1 : w.heap.size + 1 + 1 < w1.heap.size := by subst hW1; first | (simp; done) | (simp; omega)
      have c1 : Below w.heap.size w w1 := by subst hW1; go_grown
      have s1 : w1.heap.size = w.heap.size + 3 := by subst hW1; simp
      clear hW1
      have qa0_1 := cell_regrown a0_1
      have qa1_1 := cell_regrown a1_1
      have qb0_1 := cell_regrown b0_1
      have qb1_1 := cell_regrown b1_1
      have qb2_1 := cell_regrown b2_1
      have qb3_1 := cell_regrown b3_1
      have qr0_1 := cell_regrown r0_1
      have qr1_1 := cell_regrown r1_1
      clear qr0_1 qr1_1
      have S1 := hid s1
      clear s1
      have HU1 := hid (HU.out.later c1)
      have HZ1 : Hid (w1.heap.size = w.heap.size + 3) := hid (by have := S1.out; omega)
      have HROW1 := hid (row_later HROW.out c1)
      have f1 : w1.cell? ⟨g, kk, none⟩ = some (.int .i64 (flr F kk)) := by rw [World.ownsRow.cellAt HROW1.out kk (by omega), floC_get HFL1.out]
      have qf1 := cell_regrown f1
      have K1 := hid ((HK.out.weaken (G' := (fun q => q < N ∨ (w.heap.size ≤ q ∧ q < w1.heap.size))) (fun q hq hG => hG.elim id (fun h => by omega))).later c1)
      have hw01 := c1.size
      refine wp_region_quiet_below (by kernel_rfl) (by kernel_rfl) ?_
      repeat (first | go_big_quiet_skip | (go_big_quiet_want; go_big_quiet_op; first | go_big_quiet_on | go_big_quiet_call (first | (go_at_call 27; exact Calls.regrown_of (hco _ (HU1.out.later (below_regrown _ _ _)))))))
      refine wpQuiet_nil ?_
      rintro wq ⟨pq, hwq⟩
      have hq : Below w1.heap.size w1 wq := by rw [hwq]; exact below_regrown _ _ _
      clear hwq pq
      have b2 := hq
      have C1 := hid c1
      have a0_2 := (b2.cell (p := ⟨w.heap.size, 0, none⟩) al_1).trans a0_1
      have af0_2 := (b2.frozen (p := ⟨w.heap.size, 0, none⟩) al_1).trans af0_1
      have a1_2 := (b2.cell (p := ⟨w.heap.size, 1, none⟩) al_1).trans a1_1
      have af1_2 := (b2.frozen (p := ⟨w.heap.size, 1, none⟩) al_1).trans af1_1
      have b0_2 := (b2.cell (p := ⟨w.heap.size + 1, 0, none⟩) bl_1).trans b0_1
      have b1_2 := (b2.cell (p := ⟨w.heap.size + 1, 1, none⟩) bl_1).trans b1_1
      have b2_2 := (b2.cell (p := ⟨w.heap.size + 1, 2, none⟩) bl_1).trans b2_1
      have b3_2 := (b2.cell (p := ⟨w.heap.size + 1, 3, none⟩) bl_1).trans b3_1
      have r0_2 := (b2.cell (p := ⟨w.heap.size + 1 + 1, 0, none⟩) rl_1).trans r0_1
      have rf0_2 := (b2.frozen (p := ⟨w.heap.size + 1 + 1, 0, none⟩) rl_1).trans rf0_1
      have r1_2 := (b2.cell (p := ⟨w.heap.size + 1 + 1, 1, none⟩) rl_1).trans r1_1
      have rf1_2 := (b2.frozen (p := ⟨w.heap.size + 1 + 1, 1, none⟩) rl_1).trans rf1_1
      have al_2 := Nat.lt_of_lt_of_le al_1 b2.size
      have bl_2 := Nat.lt_of_lt_of_le bl_1 b2.size
      have rl_2 := Nat.lt_of_lt_of_le rl_1 b2.size
      have HROW2 := hid (row_later HROW1.out b2)
      have K2 := hid (K1.out.later b2)
      have HU2 := hid (HU1.out.later b2)
      have C2 := hid (c1.trans (b2.mono c1.size))
      have hz2 := b2.size
      clear a0_1 a1_1 b0_1 b1_1 b2_1 b3_1 r0_1 r1_1 af0_1 af1_1 rf0_1 rf1_1 qa0_1 qa1_1 qb0_1 qb1_1 qb2_1 qb3_1 f1 qf1 hq b2 hco HROW1 K1 HU1
      go_wp2_with fail
      refine (l5Drop_any (fun q => q < N ∨ (w.heap.size ≤ q ∧ q < w1.heap.size)) _ (some ⟨g, 0, none⟩) 24 c I (kk : Int) _ K2.out (fun q hq hG => hG.elim (fun h => by omega) (fun h => by omega)) (by omega)).mono ?_
      rintro e w3 ⟨⟨x, rfl, hx⟩, b3⟩
      have HX := hid hx
      obtain ⟨xo, xc, rfl, _⟩ := hx
      have a0_3 := (b3.cell (p := ⟨w.heap.size, 0, none⟩) al_2).trans a0_2
      have af0_3 := (b3.frozen (p := ⟨w.heap.size, 0, none⟩) al_2).trans af0_2
      have a1_3 := (b3.cell (p := ⟨w.heap.size, 1, none⟩) al_2).trans a1_2
      have af1_3 := (b3.frozen (p := ⟨w.heap.size, 1, none⟩) al_2).trans af1_2
      have b0_3 := (b3.cell (p := ⟨w.heap.size + 1, 0, none⟩) bl_2).trans b0_2
      have b1_3 := (b3.cell (p := ⟨w.heap.size + 1, 1, none⟩) bl_2).trans b1_2
      have b2_3 := (b3.cell (p := ⟨w.heap.size + 1, 2, none⟩) bl_2).trans b2_2
      have b3_3 := (b3.cell (p := ⟨w.heap.size + 1, 3, none⟩) bl_2).trans b3_2
      have r0_3 := (b3.cell (p := ⟨w.heap.size + 1 + 1, 0, none⟩) rl_2).trans r0_2
      have rf0_3 := (b3.frozen (p := ⟨w.heap.size + 1 + 1, 0, none⟩) rl_2).trans rf0_2
      have r1_3 := (b3.cell (p := ⟨w.heap.size + 1 + 1, 1, none⟩) rl_2).trans r1_2
      have rf1_3 := (b3.frozen (p := ⟨w.heap.size + 1 + 1, 1, none⟩) rl_2).trans rf1_2
      have al_3 := Nat.lt_of_lt_of_le al_2 b3.size
      have bl_3 := Nat.lt_of_lt_of_le bl_2 b3.size
      have rl_3 := Nat.lt_of_lt_of_le rl_2 b3.size
      have HROW3 := hid (row_later HROW2.out b3)
      have HU3 := hid (HU2.out.later b3)
      have C3 := hid (C2.out.trans (b3.mono C2.out.size))
      have hz3 := b3.size
      have hgl : g < w3.heap.size := (HROW3.out.lt g rfl).2
      have qf := HROW3.out.frozenAt kk
      obtain ⟨z, hz⟩ := row_cell HROW3.out kk (by omega)
      have hgw : g < w.heap.size := by omega
      clear a0_2 a1_2 b0_2 b1_2 b2_2 b3_2 r0_2 r1_2 af0_2 af1_2 rf0_2 rf1_2 b3 HROW2 K2 HU2
      go_upto_region 5 with fail
      have q0 : ∀ (i : Nat) (W : World) (y : Value), Only (fun q => q < N ∨ (w.heap.size ≤ q ∧ q < w1.heap.size)) W (W.setCell ⟨w.heap.size, i, none⟩ y) := fun i W y => Only.set (F := (fun q => q < N ∨ (w.heap.size ≤ q ∧ q < w1.heap.size))) W (p := ⟨w.heap.size, i, none⟩) (Or.inr ⟨Nat.le_refl _, by show w.heap.size < _; have := HZ1.out; omega⟩) y
      have q2 : ∀ (W : World) (y : Value), Only (fun q => q < N ∨ (w.heap.size ≤ q ∧ q < w1.heap.size)) W (W.setCell ⟨g, kk, none⟩ y) := fun W y => Only.set (F := (fun q => q < N ∨ (w.heap.size ≤ q ∧ q < w1.heap.size))) W (p := ⟨g, kk, none⟩) (Or.inl hg) y
      have HX4 := hid (HX.out.only (((q0 0 w3 (.slice xo (dropI (kk : Int) I).length xc)).trans (q0 1 _ (.slice (some ⟨g, 0, none⟩) 24 c))).trans (q2 _ (.int .i64 v))))
      have F4 := row_put1 (row_agree (row_agree HROW3.out (w' := w3.setCell ⟨w.heap.size, 0, none⟩ (.slice xo (dropI (kk : Int) I).length xc)) (fun q hq => by cases hq; exact Below.heap_setCell _ _ _ _ (by show g ≠ w.heap.size; omega))) (w' := ((w3.setCell ⟨w.heap.size, 0, none⟩ (.slice xo (dropI (kk : Int) I).length xc)).setCell ⟨w.heap.size, 1, none⟩ (.slice (some ⟨g, 0, none⟩) 24 c))) (fun q hq => by cases hq; exact Below.heap_setCell _ _ _ _ (by show g ≠ w.heap.size; omega))) kk (.int .i64 v)
      rw [floC_set] at F4
      have HF4 := hid F4
      have HO4 : Hid (Only (fun b => b = g) w (((w3.setCell ⟨w.heap.size, 0, none⟩ (.slice xo (dropI (kk : Int) I).length xc)).setCell ⟨w.heap.size, 1, none⟩ (.slice (some ⟨g, 0, none⟩) 24 c)).setCell ⟨g, kk, none⟩ (.int .i64 v))) := hid (by
        refine ⟨C3.out.os, C3.out.tape, C3.out.output, by have := C3.out.size; simp; exact this, fun q hq hne => ?_⟩
        exact (Below.heap_setCell _ _ _ _ (by show q ≠ g; exact hne)).trans ((Below.heap_setCell _ _ _ _ (by show q ≠ w.heap.size; omega)).trans ((Below.heap_setCell _ _ _ _ (by show q ≠ w.heap.size; omega)).trans (C3.out.block q hq))))
      have HU4 : Hid (Rd (((w3.setCell ⟨w.heap.size, 0, none⟩ (.slice xo (dropI (kk : Int) I).length xc)).setCell ⟨w.heap.size, 1, none⟩ (.slice (some ⟨g, 0, none⟩) 24 c)).setCell ⟨g, kk, none⟩ (.int .i64 v)) (.slice uo l.length uc) l) := hid (HU.out.only HO4.out HUB.out)
      have zz := HZ1.out
      have a0_4 : (((w3.setCell ⟨w.heap.size, 0, none⟩ (.slice xo (dropI (kk : Int) I).length xc)).setCell ⟨w.heap.size, 1, none⟩ (.slice (some ⟨g, 0, none⟩) 24 c)).setCell ⟨g, kk, none⟩ (.int .i64 v)).cell? ⟨w.heap.size, 0, none⟩ = some (.slice xo (dropI (kk : Int) I).length xc) := by go_cell
      have a1_4 : (((w3.setCell ⟨w.heap.size, 0, none⟩ (.slice xo (dropI (kk : Int) I).length xc)).setCell ⟨w.heap.size, 1, none⟩ (.slice (some ⟨g, 0, none⟩) 24 c)).setCell ⟨g, kk, none⟩ (.int .i64 v)).cell? ⟨w.heap.size, 1, none⟩ = some (.slice (some ⟨g, 0, none⟩) 24 c) := by go_cell
      have b0_4 : (((w3.setCell ⟨w.heap.size, 0, none⟩ (.slice xo (dropI (kk : Int) I).length xc)).setCell ⟨w.heap.size, 1, none⟩ (.slice (some ⟨g, 0, none⟩) 24 c)).setCell ⟨g, kk, none⟩ (.int .i64 v)).cell? ⟨w.heap.size + 1, 0, none⟩ = some (.int .i64 (kk : Int)) := by go_cell
      have b1_4 : (((w3.setCell ⟨w.heap.size, 0, none⟩ (.slice xo (dropI (kk : Int) I).length xc)).setCell ⟨w.heap.size, 1, none⟩ (.slice (some ⟨g, 0, none⟩) 24 c)).setCell ⟨g, kk, none⟩ (.int .i64 v)).cell? ⟨w.heap.size + 1, 1, none⟩ = some (.int .i64 v) := by go_cell
      have b2_4 : (((w3.setCell ⟨w.heap.size, 0, none⟩ (.slice xo (dropI (kk : Int) I).length xc)).setCell ⟨w.heap.size, 1, none⟩ (.slice (some ⟨g, 0, none⟩) 24 c)).setCell ⟨g, kk, none⟩ (.int .i64 v)).cell? ⟨w.heap.size + 1, 2, none⟩ = some (.int .i64 n) := by go_cell
      have b3_4 : (((w3.setCell ⟨w.heap.size, 0, none⟩ (.slice xo (dropI (kk : Int) I).length xc)).setCell ⟨w.heap.size, 1, none⟩ (.slice (some ⟨g, 0, none⟩) 24 c)).setCell ⟨g, kk, none⟩ (.int .i64 v)).cell? ⟨w.heap.size + 1, 3, none⟩ = some (.slice uo l.length uc) := by go_cell
      have r0_4 : (((w3.setCell ⟨w.heap.size, 0, none⟩ (.slice xo (dropI (kk : Int) I).length xc)).setCell ⟨w.heap.size, 1, none⟩ (.slice (some ⟨g, 0, none⟩) 24 c)).setCell ⟨g, kk, none⟩ (.int .i64 v)).cell? ⟨w.heap.size + 1 + 1, 0, none⟩ = some (.slice none 0 0) := by go_cell
      have r1_4 : (((w3.setCell ⟨w.heap.size, 0, none⟩ (.slice xo (dropI (kk : Int) I).length xc)).setCell ⟨w.heap.size, 1, none⟩ (.slice (some ⟨g, 0, none⟩) 24 c)).setCell ⟨g, kk, none⟩ (.int .i64 v)).cell? ⟨w.heap.size + 1 + 1, 1, none⟩ = some (.slice none 0 0) := by go_cell
      have rf0_4 : (((w3.setCell ⟨w.heap.size, 0, none⟩ (.slice xo (dropI (kk : Int) I).length xc)).setCell ⟨w.heap.size, 1, none⟩ (.slice (some ⟨g, 0, none⟩) 24 c)).setCell ⟨g, kk, none⟩ (.int .i64 v)).frozen? ⟨w.heap.size + 1 + 1, 0, none⟩ = false := by simpa using rf0_3
      have rf1_4 : (((w3.setCell ⟨w.heap.size, 0, none⟩ (.slice xo (dropI (kk : Int) I).length xc)).setCell ⟨w.heap.size, 1, none⟩ (.slice (some ⟨g, 0, none⟩) 24 c)).setCell ⟨g, kk, none⟩ (.int .i64 v)).frozen? ⟨w.heap.size + 1 + 1, 1, none⟩ = false := by simpa using rf1_3
      have af0_4 : (((w3.setCell ⟨w.heap.size, 0, none⟩ (.slice xo (dropI (kk : Int) I).length xc)).setCell ⟨w.heap.size, 1, none⟩ (.slice (some ⟨g, 0, none⟩) 24 c)).setCell ⟨g, kk, none⟩ (.int .i64 v)).frozen? ⟨w.heap.size, 0, none⟩ = false := by simpa using af0_3
      have z4 : (((w3.setCell ⟨w.heap.size, 0, none⟩ (.slice xo (dropI (kk : Int) I).length xc)).setCell ⟨w.heap.size, 1, none⟩ (.slice (some ⟨g, 0, none⟩) 24 c)).setCell ⟨g, kk, none⟩ (.int .i64 v)).heap.size = w3.heap.size := by simp
      clear a0_3 a1_3 b0_3 b1_3 b2_3 b3_3 r0_3 r1_3 af0_3 af1_3 rf0_3 rf1_3 F4 zz qf hz
      obtain ⟨w4, hw4⟩ : ∃ y, y = (((w3.setCell ⟨w.heap.size, 0, none⟩ (.slice xo (dropI (kk : Int) I).length xc)).setCell ⟨w.heap.size, 1, none⟩ (.slice (some ⟨g, 0, none⟩) 24 c)).setCell ⟨g, kk, none⟩ (.int .i64 v)) := ⟨_, rfl⟩
      rw [← hw4] at HX4 HF4 HO4 HU4 a0_4 a1_4 b0_4 b1_4 b2_4 b3_4 r0_4 r1_4 rf0_4 rf1_4 af0_4 z4 ⊢
      clear hw4 q0 q2
      have hz4 : w.heap.size + 3 ≤ w4.heap.size := by have := HZ1.out; omega
      have hmk : l.length ≤ 1099511627776 := by have := HL8.out; omega
      have hDL : (dropI (kk : Int) I).length ≤ 4 := by have := List.length_filter_le (fun x => !isKey (kk : Int) x) I; unfold dropI; omega
      have hk1 : 1 + (dropI (kk : Int) I).length ≤ maxLen := by unfold maxLen; omega
      have hk2 : (1 + (dropI (kk : Int) I).length) * 48 ≤ 140737488355328 := by omega
      have hGn : ∀ q, w4.heap.size ≤ q → ¬ (q < N ∨ (w.heap.size ≤ q ∧ q < w1.heap.size)) := fun q hq hG => hG.elim (fun h => by omega) (fun h => by have := HZ1.out; omega)
      have HGN := hid hGn
      clear hGn
      clear al_3 bl_3 rl_3 z4 hgl hz2 hz3 hw01 hlt
      go_cut [38] from 32 (fun s wx => Hid (MidP w w.heap.size (w.heap.size + 1 + 1) B g c (fun q => q < N ∨ (w.heap.size ≤ q ∧ q < w1.heap.size)) (dropI (kk : Int) I) (putF F (kk : Int) v) ([(kk : Int), v, n], l) wx))
      case first =>
        go_region_law (first
          | (refine step_callK rfl 43 _ _ rfl _ (by simp [Act.eval]) Try.call43 _ (l5Copy_any (kk : Int) v n _ l _ (HU4.out.later (by go_grown)) hmk) ?_; rintro e w5 ⟨⟨uo', uc', rfl, ho⟩, b5⟩; refine ⟨_, rfl, ?_⟩; have d5 : Below w4.heap.size w4 w5 := (Below.refl _ w4).drew.trans b5; have hz5 := d5.size; have HO5 := hid (Own.mono ho (B' := w4.heap.size) (Nat.le_refl _)); have a0_5 := (d5.cell (p := ⟨w.heap.size, 0, none⟩) (by show w.heap.size < w4.heap.size; omega)).trans a0_4; have a1_5 := (d5.cell (p := ⟨w.heap.size, 1, none⟩) (by show w.heap.size < w4.heap.size; omega)).trans a1_4; have r0_5 := (d5.cell (p := ⟨w.heap.size + 1 + 1, 0, none⟩) (by show w.heap.size + 1 + 1 < w4.heap.size; omega)).trans r0_4; have r1_5 := (d5.cell (p := ⟨w.heap.size + 1 + 1, 1, none⟩) (by show w.heap.size + 1 + 1 < w4.heap.size; omega)).trans r1_4; have rf0_5 := (d5.frozen (p := ⟨w.heap.size + 1 + 1, 0, none⟩) (by show w.heap.size + 1 + 1 < w4.heap.size; omega)).trans rf0_4; have rf1_5 := (d5.frozen (p := ⟨w.heap.size + 1 + 1, 1, none⟩) (by show w.heap.size + 1 + 1 < w4.heap.size; omega)).trans rf1_4; have af0_5 := (d5.frozen (p := ⟨w.heap.size, 0, none⟩) (by show w.heap.size < w4.heap.size; omega)).trans af0_4; have HF5 := hid (row_later HF4.out d5); have O5 := hid (HO4.out.trans (Only.later d5)); have HX5 := hid (HX4.out.later d5); have L6 : Below w5.heap.size w5 (w5.alloc (.cells #[.int .i64 (kk : Int), .int .i64 v, .int .i64 n, .slice uo' l.length uc'] 31)) := (by go_grown); have a0_6 := (L6.cell (p := ⟨w.heap.size, 0, none⟩) (by show w.heap.size < w5.heap.size; omega)).trans a0_5; have a1_6 := (L6.cell (p := ⟨w.heap.size, 1, none⟩) (by show w.heap.size < w5.heap.size; omega)).trans a1_5; have r0_6 := (L6.cell (p := ⟨w.heap.size + 1 + 1, 0, none⟩) (by show w.heap.size + 1 + 1 < w5.heap.size; omega)).trans r0_5; have r1_6 := (L6.cell (p := ⟨w.heap.size + 1 + 1, 1, none⟩) (by show w.heap.size + 1 + 1 < w5.heap.size; omega)).trans r1_5; have rf0_6 := (L6.frozen (p := ⟨w.heap.size + 1 + 1, 0, none⟩) (by show w.heap.size + 1 + 1 < w5.heap.size; omega)).trans rf0_5; have rf1_6 := (L6.frozen (p := ⟨w.heap.size + 1 + 1, 1, none⟩) (by show w.heap.size + 1 + 1 < w5.heap.size; omega)).trans rf1_5; have af0_6 := (L6.frozen (p := ⟨w.heap.size, 0, none⟩) (by show w.heap.size < w5.heap.size; omega)).trans af0_5; have HX6 := hid ((HX5.out.weaken (G' := fun q => (q < N ∨ (w.heap.size ≤ q ∧ q < w1.heap.size)) ∨ q = w5.heap.size) (fun q hq h => h.elim id (fun e => by omega))).later L6); have HLIT := hid (World.ownsRow_lit (base := w5.heap.size) (e := 31) (size := 4) w5 #[.int .i64 (kk : Int), .int .i64 v, .int .i64 n, .slice uo' l.length uc'] 1 (Nat.le_refl _) (by decide) rfl); have HF6 := hid (row_later HF5.out L6); have hz6 := L6.size; clear ho b5 d5)
          | (obtain ⟨us, cs, hcs, hl3, hnm, hkn, hrr⟩ := HX6.out.forAppend; refine step_append_rd rfl _ _ rfl w5.heap.size (.slice (some ⟨w5.heap.size, 0, none⟩) 1 1) 1 [.int .i64 (kk : Int), .int .i64 v, .int .i64 n, .slice uo' l.length uc'] (by simp [Act.eval]) HLIT.out xo (dropI (kk : Int) I).length xc cs (by simp [Act.eval]) hcs hk1 hk2 hz6 ?_; intro v6 w6 hown6 hgr6; have HP6 := hid (put_rdK (l := l) hz5 HGN.out hown6 HO5.out hgr6 hl3 hnm hkn hrr); have hown6' := hown6; rw [Nat.add_comm] at hown6'; obtain ⟨g6, c6, hv6⟩ := ownsRow_succ hown6'; subst hv6; have HC6 : Hid ((dropI (kk : Int) I).length + 1 ≤ c6) := hid (ownsRow_cap hown6'); have a0_7 := (World.cell?_of_block (a := ⟨w.heap.size, 0, none⟩) (hgr6.block (w.heap.size) (by have := L6.size; omega) (fun e => absurd (Option.some.inj e : _ = w5.heap.size) (by omega)))).trans a0_6; have a1_7 := (World.cell?_of_block (a := ⟨w.heap.size, 1, none⟩) (hgr6.block (w.heap.size) (by have := L6.size; omega) (fun e => absurd (Option.some.inj e : _ = w5.heap.size) (by omega)))).trans a1_6; have r0_7 := (World.cell?_of_block (a := ⟨w.heap.size + 1 + 1, 0, none⟩) (hgr6.block (w.heap.size + 1 + 1) (by have := L6.size; omega) (fun e => absurd (Option.some.inj e : _ = w5.heap.size) (by omega)))).trans r0_6; have r1_7 := (World.cell?_of_block (a := ⟨w.heap.size + 1 + 1, 1, none⟩) (hgr6.block (w.heap.size + 1 + 1) (by have := L6.size; omega) (fun e => absurd (Option.some.inj e : _ = w5.heap.size) (by omega)))).trans r1_6; have rf0_7 := (World.frozen?_of_block (a := ⟨w.heap.size + 1 + 1, 0, none⟩) (hgr6.block (w.heap.size + 1 + 1) (by have := L6.size; omega) (fun e => absurd (Option.some.inj e : _ = w5.heap.size) (by omega)))).trans rf0_6; have rf1_7 := (World.frozen?_of_block (a := ⟨w.heap.size + 1 + 1, 1, none⟩) (hgr6.block (w.heap.size + 1 + 1) (by have := L6.size; omega) (fun e => absurd (Option.some.inj e : _ = w5.heap.size) (by omega)))).trans rf1_6; have af0_7 := (World.frozen?_of_block (a := ⟨w.heap.size, 0, none⟩) (hgr6.block (w.heap.size) (by have := L6.size; omega) (fun e => absurd (Option.some.inj e : _ = w5.heap.size) (by omega)))).trans af0_6; have HF7 := hid (row_agree HF6.out (w' := w6) (fun q hq => by cases hq; exact hgr6.block g (by have := L6.size; omega) (fun e => absurd (Option.some.inj e : _ = w5.heap.size) (by omega)))); have O7 := hid (only_new O5.out hgr6); have hz7 := hgr6.size; clear hown6 hown6' hgr6 hcs hl3 hnm hkn hrr L6))
        all_goals
          go_wp2_with fail
          go_meet
          exact hid (midP_set (by rw [a0_7]; simp) af0_7 HC6.out (Or.inr ⟨Nat.le_refl _, by have := HZ1.out; omega⟩) (by omega) (by omega) (Nat.le_refl _) HP6.out a1_7 r0_7 r1_7 rf0_7 rf1_7 HF7.out O7.out)
      case rest =>
        obtain ⟨⟨g6, c6, e0, hc6, hk6⟩, a1_6, af_6, r0_6, r1_6, rf0_6, rf1_6, hrow6, ho6⟩ := hcut.out
        obtain ⟨w6, hw6⟩ : ∃ y, y = wc := ⟨_, rfl⟩
        subst hw6
        have HROW6 := hid hrow6
        have HO6 := hid ho6
        have HK6 := hid hk6
        clear hcut hrow6 ho6 hk6 a0_4 a1_4 b0_4 b1_4 b2_4 b3_4 r0_4 r1_4 rf0_4 rf1_4 af0_4 hk1 hk2
        obtain ⟨m, hm⟩ : ∃ m, (dropI (kk : Int) I).length + 1 = m := ⟨_, rfl⟩
        have HM := hid hm
        have hm5 : m ≤ 5 := by omega
        rw [hm] at e0 hc6 HK6
        clear hm
        have q3 : ∀ (i : Nat) (W : World) (y : Value), Only (fun q => q < N ∨ (w.heap.size ≤ q ∧ q < w1.heap.size)) W (W.setCell ⟨w.heap.size + 1 + 1, i, none⟩ y) := fun i W y => Only.set (F := (fun q => q < N ∨ (w.heap.size ≤ q ∧ q < w1.heap.size))) W (p := ⟨w.heap.size + 1 + 1, i, none⟩) (Or.inr ⟨by show w.heap.size ≤ w.heap.size + 1 + 1; omega, by show w.heap.size + 1 + 1 < _; have := HZ1.out; omega⟩) y
        have q0 : ∀ (W : World) (y : Value), Only (fun q => q < N ∨ (w.heap.size ≤ q ∧ q < w1.heap.size)) W (W.setCell ⟨w.heap.size, 0, none⟩ y) := fun W y => Only.set (F := (fun q => q < N ∨ (w.heap.size ≤ q ∧ q < w1.heap.size))) W (p := ⟨w.heap.size, 0, none⟩) (Or.inr ⟨Nat.le_refl _, by show w.heap.size < _; have := HZ1.out; omega⟩) y
        have Q3 := hid q3
        have Q0 := hid q0
        clear q3 q0
        by_cases hgt : m ≤ 4
        · have hgi : ¬ ((m : Int) > 4) := by omega
          have HP : Hid (putI (kk : Int) v n l I = ([(kk : Int), v, n], l) :: dropI (kk : Int) I) := hid (by rw [putI, List.take_of_length_le]; rw [List.length_cons, HM.out]; exact hgt)
          go_wp2_with fail
          have k0 : ((w6.setCell ⟨w.heap.size + 1 + 1, 0, none⟩ (.slice (some ⟨g6, 0, none⟩) m c6)).setCell ⟨w.heap.size + 1 + 1, 1, none⟩ (.slice (some ⟨g, 0, none⟩) 24 c)).cell? ⟨w.heap.size + 1 + 1, 0, none⟩ = some (.slice (some ⟨g6, 0, none⟩) m c6) := by go_cell
          have k1 : ((w6.setCell ⟨w.heap.size + 1 + 1, 0, none⟩ (.slice (some ⟨g6, 0, none⟩) m c6)).setCell ⟨w.heap.size + 1 + 1, 1, none⟩ (.slice (some ⟨g, 0, none⟩) 24 c)).cell? ⟨w.heap.size + 1 + 1, 1, none⟩ = some (.slice (some ⟨g, 0, none⟩) 24 c) := by go_cell
          have R9 := (HK6.out.only ((Q3.out 0 w6 (.slice (some ⟨g6, 0, none⟩) m c6)).trans (Q3.out 1 _ (.slice (some ⟨g, 0, none⟩) 24 c)))).weaken (G' := fun q => q < N) (fun q _ h => Or.inl h)
          rw [← HP.out] at R9
          have F9 := row_agree HROW6.out (w' := (w6.setCell ⟨w.heap.size + 1 + 1, 0, none⟩ (.slice (some ⟨g6, 0, none⟩) m c6)).setCell ⟨w.heap.size + 1 + 1, 1, none⟩ (.slice (some ⟨g, 0, none⟩) 24 c)) (fun q hq => by cases hq; exact (Below.heap_setCell _ _ _ _ (by show g ≠ w.heap.size + 1 + 1; omega)).trans (Below.heap_setCell _ _ _ _ (by show g ≠ w.heap.size + 1 + 1; omega)))
          have O9 : Only (fun b => b = g) w ((w6.setCell ⟨w.heap.size + 1 + 1, 0, none⟩ (.slice (some ⟨g6, 0, none⟩) m c6)).setCell ⟨w.heap.size + 1 + 1, 1, none⟩ (.slice (some ⟨g, 0, none⟩) 24 c)) :=
            ⟨HO6.out.os, HO6.out.tape, HO6.out.output, by have := HO6.out.size; simp; exact this, fun q hq hne => (Below.heap_setCell _ _ _ _ (by show q ≠ w.heap.size + 1 + 1; omega)).trans ((Below.heap_setCell _ _ _ _ (by show q ≠ w.heap.size + 1 + 1; omega)).trans (HO6.out.block q hq hne))⟩
          exact bodyPost_ret (v := .tuple #[.agg #[(.slice (some ⟨g6, 0, none⟩) m c6), (.slice (some ⟨g, 0, none⟩) 24 c)], .bool true]) (by simp [results, Try.results22, go_sem, k0, k1]) rfl ⟨⟨_, rfl, R9, F9⟩, O9⟩
        · have hgi : (m : Int) > 4 := by omega
          have hc4 : 4 ≤ c6 := by omega
          have hm4 : m = 5 := by omega
          have HP : Hid (putI (kk : Int) v n l I = (([(kk : Int), v, n], l) :: dropI (kk : Int) I).take 4) := hid rfl
          have HK4 := hid (HK6.out.take (m := 4) (by rw [List.length_cons, HM.out]; omega))
          clear HK6
          go_wp2_with fail
          have k0 : (((w6.setCell ⟨w.heap.size, 0, none⟩ (.slice (some ⟨g6, 0, none⟩) 4 c6)).setCell ⟨w.heap.size + 1 + 1, 0, none⟩ (.slice (some ⟨g6, 0, none⟩) 4 c6)).setCell ⟨w.heap.size + 1 + 1, 1, none⟩ (.slice (some ⟨g, 0, none⟩) 24 c)).cell? ⟨w.heap.size + 1 + 1, 0, none⟩ = some (.slice (some ⟨g6, 0, none⟩) 4 c6) := by go_cell
          have k1 : (((w6.setCell ⟨w.heap.size, 0, none⟩ (.slice (some ⟨g6, 0, none⟩) 4 c6)).setCell ⟨w.heap.size + 1 + 1, 0, none⟩ (.slice (some ⟨g6, 0, none⟩) 4 c6)).setCell ⟨w.heap.size + 1 + 1, 1, none⟩ (.slice (some ⟨g, 0, none⟩) 24 c)).cell? ⟨w.heap.size + 1 + 1, 1, none⟩ = some (.slice (some ⟨g, 0, none⟩) 24 c) := by go_cell
          have R9 := (HK4.out.only (((Q0.out w6 (.slice (some ⟨g6, 0, none⟩) 4 c6)).trans (Q3.out 0 _ (.slice (some ⟨g6, 0, none⟩) 4 c6))).trans (Q3.out 1 _ (.slice (some ⟨g, 0, none⟩) 24 c)))).weaken (G' := fun q => q < N) (fun q _ h => Or.inl h)
          rw [← HP.out] at R9
          have F9 := row_agree HROW6.out (w' := ((w6.setCell ⟨w.heap.size, 0, none⟩ (.slice (some ⟨g6, 0, none⟩) 4 c6)).setCell ⟨w.heap.size + 1 + 1, 0, none⟩ (.slice (some ⟨g6, 0, none⟩) 4 c6)).setCell ⟨w.heap.size + 1 + 1, 1, none⟩ (.slice (some ⟨g, 0, none⟩) 24 c)) (fun q hq => by cases hq; exact (Below.heap_setCell _ _ _ _ (by show g ≠ w.heap.size + 1 + 1; omega)).trans ((Below.heap_setCell _ _ _ _ (by show g ≠ w.heap.size + 1 + 1; omega)).trans (Below.heap_setCell _ _ _ _ (by show g ≠ w.heap.size; omega))))
          have O9 : Only (fun b => b = g) w (((w6.setCell ⟨w.heap.size, 0, none⟩ (.slice (some ⟨g6, 0, none⟩) 4 c6)).setCell ⟨w.heap.size + 1 + 1, 0, none⟩ (.slice (some ⟨g6, 0, none⟩) 4 c6)).setCell ⟨w.heap.size + 1 + 1, 1, none⟩ (.slice (some ⟨g, 0, none⟩) 24 c)) :=
            ⟨HO6.out.os, HO6.out.tape, HO6.out.output, by have := HO6.out.size; simp; exact this, fun q hq hne => (Below.heap_setCell _ _ _ _ (by show q ≠ w.heap.size + 1 + 1; omega)).trans ((Below.heap_setCell _ _ _ _ (by show q ≠ w.heap.size + 1 + 1; omega)).trans ((Below.heap_setCell _ _ _ _ (by show q ≠ w.heap.size; omega)).trans (HO6.out.block q hq hne)))⟩
          exact bodyPost_ret (v := .tuple #[.agg #[(.slice (some ⟨g6, 0, none⟩) 4 c6), (.slice (some ⟨g, 0, none⟩) 24 c)], .bool true]) (by simp [results, Try.results22, go_sem, k0, k1]) rfl ⟨⟨_, rfl, R9, F9⟩, O9⟩
end Go.Proofs.Ytilbaiohcfhcaaa
