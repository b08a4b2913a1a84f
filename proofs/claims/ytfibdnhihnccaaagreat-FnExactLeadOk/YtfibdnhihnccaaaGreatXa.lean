/- What an item and the floors are asked (the program's side): contracts of verRight, itemRight, floorsRight. -/
import Derived.Test.YtfibdnhihnccaaaGreatCc
import Derived.Deep.RegionHeld3
import Derived.BigQuiet
namespace Go.Proofs.YtfibdnhihnccaaaGreat
open Go.RowKit
attribute [local go_sem ↓] Go.wp_at_zero Go.wp_at_succ

theorem verRight_any (a : Int) (w : World) : Calls Tryz.prog 121 #[.int .i64 a] w fun e w' => e = .returned (.bool (verR a)) ∧ w' = w := by
  go_enter Tryz.func121, Tryz.ntmps121
  go_wp2
  all_goals
    go_ret
    exact ⟨by first | (simp_all [verR]; done) | (simp_all [verR]; omega), rfl⟩
set_option maxHeartbeats 1000000 in
theorem itemRight_any (p0 p1 p2 : Int) (v : Value) (l : List (Int × Int)) (w : World) (h : Rd w v l) :
    Calls Tryz.prog 124 #[.agg #[.int .i64 p0, .int .i64 p1, .int .i64 p2, v]] w fun e w' => e = .returned (.bool (itR p0 p1 p2 l)) ∧ Below w.heap.size w w' := by
  have HR := hid h
  obtain ⟨ao, ac, hv, _⟩ := h
  subst hv
  go_enter Tryz.func124, Tryz.ntmps124
  go_wp2_with fail
  generalize hW1 : (w.alloc (.cells #[.int .i64 p0, .int .i64 p1, .int .i64 p2, .slice ao l.length ac] 68)) = w1
  have a0_1 : w1.cell? ⟨w.heap.size, 0, none⟩ = some (.int .i64 p0) := by subst hW1; go_cell
  have a1_1 : w1.cell? ⟨w.heap.size, 1, none⟩ = some (.int .i64 p1) := by subst hW1; go_cell
  have a2_1 : w1.cell? ⟨w.heap.size, 2, none⟩ = some (.int .i64 p2) := by subst hW1; go_cell
  have a3_1 : w1.cell? ⟨w.heap.size, 3, none⟩ = some (.slice ao l.length ac) := by subst hW1; go_cell
  have al_1 : w.heap.size < w1.heap.size := by subst hW1; first | (simp; done) | (simp; omega)
  have c1 : Below w.heap.size w w1 := by subst hW1; go_grown
  have s1 : w1.heap.size = w.heap.size + 1 := by subst hW1; simp
  clear hW1
  have qa0_1 := cell_regrown a0_1
  have qa1_1 := cell_regrown a1_1
  have qa2_1 := cell_regrown a2_1
  have qa3_1 := cell_regrown a3_1
  refine (verRight_any p1 _).mono ?_
  rintro e w2 ⟨rfl, rfl⟩
  cases hv : verR p1 with
  | false =>
    go_wp2_with fail
    go_ret
    exact ⟨by simp [itR, hv], c1⟩
  | true =>
    go_wp2_with fail
    refine (implOkV_any p0 p2 _ l _ (HR.out.later c1)).mono ?_
    rintro e w3 ⟨rfl, b3⟩
    have c3 := c1.trans (b3.mono c1.size)
    go_wp2_with fail
    go_ret
    exact ⟨by simp [itR, hv], c3⟩
theorem wrong_any (a : Int) (w : World) : Calls Tryz.prog 120 #[.int .i64 a] w fun e w' => e = .returned (.bool (!verR a)) ∧ w' = w := by
  go_enter Tryz.func120, Tryz.ntmps120
  go_wp2_with fail
  refine (verRight_any a _).mono ?_
  rintro e w2 ⟨rfl, rfl⟩
  go_wp2_with fail
  go_ret
  exact ⟨by simp, rfl⟩
/-- Where the first floor stands that is wrong. -/
def FirstBad (L : List KD) (e : Ending) : Prop := (FlrTo L L.length ∧ e = .returned (.int .i64 (-1))) ∨ (¬ FlrTo L L.length ∧ ∃ n : Nat, e = .returned (.int .i64 n))
theorem FlrTo.more {L : List KD} {k : Nat} (h : FlrTo L k) (hv : verR (flr L k) = true) : FlrTo L (k + 1) := by
  intro j hj
  by_cases e : j = k
  · rw [e]; exact hv
  · exact h j (by omega)
set_option maxRecDepth 100000 in
set_option maxHeartbeats 2000000 in
theorem indexBad_any (v : Value) (L : List KD) (w : World) (h : RdM 1 1 false w v L) :
    Calls Tryz.prog 136 #[v, .func (.func 120) #[] #[]] w fun e w' => FirstBad L e ∧ Below w.heap.size w w' := by
  obtain ⟨ao, cap, rfl, hl, hc⟩ := h
  unfold maxLen at hl
  go_enter Tryz.func136, Tryz.ntmps136
  go_wp2
  go_loopw [8] (fun i wr => ∃ k : Nat, k ≤ L.length ∧ i = .int .i64 k ∧ Hid (FlrTo L k) ∧ Below w.heap.size w wr) (fun i _ => L.length - (intOf i).toNat)
  case atStart => exact ⟨0, Nat.zero_le _, rfl, hid (fun j hj => absurd hj (Nat.not_lt_zero j)), Below.refl _ _⟩
  case round =>
    obtain ⟨k, hk, rfl, hpre, hbel⟩ := hrel
    by_cases hlt : k < L.length
    · obtain ⟨b, o, rfl, hb, hcc⟩ := hc (by omega)
      obtain ⟨p0, hx, c0⟩ := atK_1n ((hcc k hlt).later hb hbel)
      rw [Nat.mul_one] at c0
      have HF : Hid (flr L k = p0) := hid (by rw [flr, hx]; rfl)
      have hsz := hbel.size
      clear hcc hc hx
      go_wp2_with fail
      refine (wrong_any p0 _).mono ?_
      rintro e w2 ⟨rfl, rfl⟩
      cases hv : verR p0 with
      | true =>
        have hN := hid (hpre.out.more (by rw [HF.out]; exact hv))
        go_wp2_with fail
        go_roundw
        case rel => exact ⟨k + 1, by omega, by go_num, hN, hbel⟩
        case measure => simp [intOf]; omega
      | false =>
        have hN : Hid (¬ FlrTo L L.length) := hid (fun h => by
          have := h k hlt
          rw [HF.out, hv] at this
          cases this)
        go_wp2_with fail
        go_ret
        exact ⟨Or.inr ⟨hN.out, k, by simp⟩, hbel⟩
    · have hall : FlrTo L L.length := by
        have hk' : k = L.length := by omega
        rw [← hk']
        exact hpre.out
      have HA := hid hall
      clear hall
      go_wp2
      go_ret
      exact ⟨Or.inl ⟨HA.out, by simp⟩, hbel⟩
set_option maxHeartbeats 1000000 in
theorem containsBad_any (v : Value) (L : List KD) (w : World) (h : RdM 1 1 false w v L) :
    Calls Tryz.prog 122 #[v, .func (.func 120) #[] #[]] w fun e w' => (∃ b : Bool, e = .returned (.bool b) ∧ Hid (b = false ↔ FlrTo L L.length)) ∧ Below w.heap.size w w' := by
  have HR := hid h
  obtain ⟨ao, cap, rfl, _⟩ := h
  go_enter Tryz.func122, Tryz.ntmps122
  go_wp2_with fail
  refine (indexBad_any _ L _ HR.out).mono ?_
  rintro e w2 ⟨hF, b2⟩
  rcases hF with ⟨hf, rfl⟩ | ⟨hf, n, rfl⟩
  · have HF := hid hf
    clear hf
    go_wp2_with fail
    go_ret
    exact ⟨⟨false, by simp, hid (by simp [HF.out])⟩, b2⟩
  · have HF := hid hf
    clear hf
    have hn : decide ((n : Int) ≥ 0) = true := by simp
    go_wp2_with fail
    go_ret
    exact ⟨⟨true, by simp, hid (by simp [HF.out])⟩, b2⟩
set_option maxHeartbeats 1000000 in
theorem floorsRight_any (v : Value) (L : List KD) (w : World) (h : RdM 1 1 false w v L) :
    Calls Tryz.prog 99 #[v] w fun e w' => e = .returned (.bool (vsR L)) ∧ Below w.heap.size w w' := by
  have HR := hid h
  obtain ⟨ao, cap, rfl, _⟩ := h
  have hmf : ∀ (fn : Fn) (first cap : Array Value) (w : World), (Instr.makeFunc fn first cap).run Tryz.prog w = .ok (.func fn first cap) w := fun _ _ _ _ => rfl
  by_cases h24 : L.length = 24
  · have H24 := hid h24
    have hne : ((L.length : Int) == 24) = true := by simp [h24]
    clear h24
    go_enter Tryz.func99, Tryz.ntmps99
    go_wp2_with fail
    refine (containsBad_any _ L _ (HR.out.later (by go_grown))).mono ?_
    rintro e w2 ⟨⟨b, rfl, hb⟩, b2⟩
    have bb : Below w.heap.size w w2 := (Below.trans (by go_grown) (b2.mono (by first | omega | (simp; done) | (simp; omega))))
    have hv : vsR L = !b := by
      have h1 := H24.out
      have h2 := hb.out
      rw [h1] at h2
      cases b with
      | false => exact decide_eq_true ⟨h1, h2.1 rfl⟩
      | true => exact decide_eq_false (fun h => by have := h2.2 h.2; cases this)
    have HV := hid hv
    clear hb hv
    go_wp2_with fail
    go_ret
    exact ⟨by simp [HV.out], bb⟩
  · have hno : vsR L = false := decide_eq_false (fun h => h24 h.1)
    have hne : ((L.length : Int) == 24) = false := by simp; omega
    go_enter Tryz.func99, Tryz.ntmps99
    go_wp2
    go_ret
    exact ⟨by simp [hno], by go_grown⟩
end Go.Proofs.YtfibdnhihnccaaaGreat
