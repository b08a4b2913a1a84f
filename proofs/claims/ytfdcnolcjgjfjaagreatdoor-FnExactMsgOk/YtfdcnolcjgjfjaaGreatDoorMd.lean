/- What is none panics: what a call that may panic ends in; contracts of impl.need and of what else a message is asked with, both sides. -/
import Derived.Test.YtfdcnolcjgjfjaaGreatDoorMb
import Derived.Test.YtfdcnolcjgjfjaaGreatDoorKw
import Derived.Defers
import Derived.Recover
import Derived.Deep.RegionHeld3
import Derived.BigQuiet
namespace Go.Proofs.YtfdcnolcjgjfjaaGreatDoor
open Go.RowKit
attribute [local go_sem ↓] Go.wp_at_zero Go.wp_at_succ

/-- The variable holds an error. -/
def ErrM (w : World) : Prop := (∃ tp p, w.cell? ⟨1, 0, none⟩ = some (.iface tp p)) ∧ 1 < w.heap.size
theorem ErrM.later {w w' : World} (h : ErrM w) (hb : Below w.heap.size w w') : ErrM w' := by
  obtain ⟨⟨tp, p, hc⟩, hl⟩ := h
  exact ⟨⟨tp, p, (hb.cell (p := ⟨1, 0, none⟩) hl).trans hc⟩, Nat.lt_of_lt_of_le hl hb.size⟩
/-- A call that panics with an error, if something is not so. -/
def Asked (b : Bool) (e : Ending) : Prop := (b = true ∧ e = .returned (.tuple #[])) ∨ (b = false ∧ ∃ t v, e = .panicked [{ v := .iface t v, recovered := false }])
theorem need_yes (w : World) : Calls Tryz.prog 65 #[.bool true] w fun e w' => e = .returned (.tuple #[]) ∧ w' = w := by
  go_enter Tryz.func65, Tryz.ntmps65
  go_wp2
  exact ⟨rfl, .tuple #[], by simp [results, Tryz.results65, go_sem], rfl, rfl⟩
theorem need_no (w : World) (h : ErrM w) : Calls Tryz.prog 65 #[.bool false] w fun e w' => (∃ t v, e = .panicked [{ v := .iface t v, recovered := false }]) ∧ w' = w := by
  obtain ⟨⟨tp, p, hv⟩, _⟩ := h
  go_enter Tryz.func65, Tryz.ntmps65
  go_wp2
  exact ⟨rfl, ⟨_, _, rfl⟩, rfl⟩

theorem specShard_b (k : Int) (w : World) : Calls Tryz.prog 76 #[.int .i64 k] w fun e w' => e = .returned (.int .i64 (partOf k)) ∧ Below w.heap.size w w' := (specShard_any k w).mono fun e w' ⟨he, hw⟩ => ⟨he, by rw [hw]; exact Below.refl _ _⟩

def reqR (a b c : Int) : Bool := decide (0 ≤ a ∧ a < 2 ∧ 0 ≤ b ∧ 0 ≤ c)
theorem reqRight_any (a b c : Int) (w : World) : Calls Tryz.prog 70 #[.agg #[.int .i64 a, .int .i64 b, .int .i64 c]] w fun e w' => e = .returned (.bool (reqR a b c)) ∧ Below w.heap.size w w' := by
  go_enter Tryz.func70, Tryz.ntmps70
  go_wp2
  all_goals
    go_ret
    exact ⟨by first | (simp_all [reqR]; done) | (simp_all [reqR]; omega), by go_grown⟩
def parR (a : Int) : Bool := decide (0 ≤ a ∧ a < 2)
theorem mPartRight_any (a : Int) (w : World) : Calls Tryz.prog 71 #[.int .i64 a] w fun e w' => e = .returned (.bool (parR a)) ∧ Below w.heap.size w w' := by
  go_enter Tryz.func71, Tryz.ntmps71
  go_wp2
  all_goals
    go_ret
    exact ⟨by first | (simp_all [parR]; done) | (simp_all [parR]; omega), by go_grown⟩
theorem verRight_any (a : Int) (w : World) : Calls Tryz.prog 122 #[.int .i64 a] w fun e w' => e = .returned (.bool (verR a)) ∧ w' = w := by
  go_enter Tryz.func122, Tryz.ntmps122
  go_wp2
  all_goals
    go_ret
    exact ⟨by first | (simp_all [verR]; done) | (simp_all [verR]; omega), rfl⟩
set_option maxHeartbeats 1000000 in
theorem itemRight_any (p0 p1 p2 : Int) (v : Value) (l : List (Int × Int)) (w : World) (h : Rd w v l) :
    Calls Tryz.prog 100 #[.agg #[.int .i64 p0, .int .i64 p1, .int .i64 p2, v]] w fun e w' => e = .returned (.bool (itR p0 p1 p2 l)) ∧ Below w.heap.size w w' := by
  have HR := hid h
  obtain ⟨ao, ac, hv, _⟩ := h
  subst hv
  go_enter Tryz.func100, Tryz.ntmps100
  go_wp2_with fail
  have a0_1 : (w.alloc (.cells #[.int .i64 p0, .int .i64 p1, .int .i64 p2, .slice ao l.length ac] 29)).cell? ⟨w.heap.size, 0, none⟩ = some (.int .i64 p0) := by go_cell
  have a1_1 : (w.alloc (.cells #[.int .i64 p0, .int .i64 p1, .int .i64 p2, .slice ao l.length ac] 29)).cell? ⟨w.heap.size, 1, none⟩ = some (.int .i64 p1) := by go_cell
  have a2_1 : (w.alloc (.cells #[.int .i64 p0, .int .i64 p1, .int .i64 p2, .slice ao l.length ac] 29)).cell? ⟨w.heap.size, 2, none⟩ = some (.int .i64 p2) := by go_cell
  have a3_1 : (w.alloc (.cells #[.int .i64 p0, .int .i64 p1, .int .i64 p2, .slice ao l.length ac] 29)).cell? ⟨w.heap.size, 3, none⟩ = some (.slice ao l.length ac) := by go_cell
  have al_1 : w.heap.size < (w.alloc (.cells #[.int .i64 p0, .int .i64 p1, .int .i64 p2, .slice ao l.length ac] 29)).heap.size := by first | (simp; done) | (simp; omega)
  have c1 : Below w.heap.size w (w.alloc (.cells #[.int .i64 p0, .int .i64 p1, .int .i64 p2, .slice ao l.length ac] 29)) := by go_grown
  have s1 : (w.alloc (.cells #[.int .i64 p0, .int .i64 p1, .int .i64 p2, .slice ao l.length ac] 29)).heap.size = w.heap.size + 1 := by simp
  generalize (w.alloc (.cells #[.int .i64 p0, .int .i64 p1, .int .i64 p2, .slice ao l.length ac] 29)) = w1 at a0_1 a1_1 a2_1 a3_1 al_1 c1 s1 ⊢
  have qa0_1 := cell_regrown a0_1
  have qa1_1 := cell_regrown a1_1
  have qa2_1 := cell_regrown a2_1
  have qa3_1 := cell_regrown a3_1
  refine (verRight_any p1 _).mono ?_
  rintro e w2 ⟨rfl, rfl⟩
  cases hv : verR p1 with
  | false =>
    go_wp2_with fail
    go_ret
    exact ⟨by simp [itR, hv], c1⟩
  | true =>
    go_wp2_with fail
    refine (implOkV_any p0 p2 _ l _ (HR.out.later c1)).mono ?_
    rintro e w3 ⟨rfl, b3⟩
    have c3 := c1.trans (b3.mono c1.size)
    go_wp2_with fail
    go_ret
    exact ⟨by simp [itR, hv], c3⟩
theorem wrong_any (a : Int) (w : World) : Calls Tryz.prog 126 #[.int .i64 a] w fun e w' => e = .returned (.bool (!verR a)) ∧ w' = w := by
  go_enter Tryz.func126, Tryz.ntmps126
  go_wp2_with fail
  refine (verRight_any a _).mono ?_
  rintro e w2 ⟨rfl, rfl⟩
  go_wp2_with fail
  go_ret
  exact ⟨by simp, rfl⟩
/-- Where the first floor stands that is wrong. -/
def FirstBad (L : List KD) (e : Ending) : Prop := (FlrTo L L.length ∧ e = .returned (.int .i64 (-1))) ∨ (¬ FlrTo L L.length ∧ ∃ n : Nat, e = .returned (.int .i64 n))
theorem FlrTo.more {L : List KD} {k : Nat} (h : FlrTo L k) (hv : verR (flr L k) = true) : FlrTo L (k + 1) := by
  intro j hj
  by_cases e : j = k
  · rw [e]; exact hv
  · exact h j (by omega)
set_option maxRecDepth 100000 in
set_option maxHeartbeats 2000000 in
theorem indexBad_any (v : Value) (L : List KD) (w : World) (h : RdM 1 1 false w v L) :
    Calls Tryz.prog 144 #[v, .func (.func 126) #[] #[]] w fun e w' => FirstBad L e ∧ Below w.heap.size w w' := by
  obtain ⟨ao, cap, rfl, hl, hc⟩ := h
  unfold maxLen at hl
  go_enter Tryz.func144, Tryz.ntmps144
  go_wp2
  go_loopw [8] (fun i wr => ∃ k : Nat, k ≤ L.length ∧ i = .int .i64 k ∧ Hid (FlrTo L k) ∧ Below w.heap.size w wr) (fun i _ => L.length - (intOf i).toNat)
  case atStart => exact ⟨0, Nat.zero_le _, rfl, hid (fun j hj => absurd hj (Nat.not_lt_zero j)), Below.refl _ _⟩
  case round =>
    obtain ⟨k, hk, rfl, hpre, hbel⟩ := hrel
    by_cases hlt : k < L.length
    · obtain ⟨b, o, rfl, hb, hcc⟩ := hc (by omega)
      obtain ⟨p0, hx, c0⟩ := atK_1n ((hcc k hlt).later hb hbel)
      rw [Nat.mul_one] at c0
      have HF : Hid (flr L k = p0) := hid (by rw [flr, hx]; rfl)
      have hsz := hbel.size
      clear hcc hc hx
      go_wp2_with fail
      refine (wrong_any p0 _).mono ?_
      rintro e w2 ⟨rfl, rfl⟩
      cases hv : verR p0 with
      | true =>
        have hN := hid (hpre.out.more (by rw [HF.out]; exact hv))
        go_wp2_with fail
        go_roundw
        case rel => exact ⟨k + 1, by omega, by go_num, hN, hbel⟩
        case measure => simp [intOf]; omega
      | false =>
        have hN : Hid (¬ FlrTo L L.length) := hid (fun h => by
          have := h k hlt
          rw [HF.out, hv] at this
          cases this)
        go_wp2_with fail
        go_ret
        exact ⟨Or.inr ⟨hN.out, k, by simp⟩, hbel⟩
    · have hall : FlrTo L L.length := by
        have hk' : k = L.length := by omega
        rw [← hk']
        exact hpre.out
      have HA := hid hall
      clear hall
      go_wp2
      go_ret
      exact ⟨Or.inl ⟨HA.out, by simp⟩, hbel⟩
set_option maxRecDepth 100000 in
set_option maxHeartbeats 2000000 in
theorem l6Vers_any (v : Value) (L : List KD) (w : World) (h : RdM 1 1 false w v L) :
    Calls Tryz.prog 82 #[v, .int .i64 24] w fun e w' => e = .returned (.bool (vsR L)) ∧ Below w.heap.size w w' := by
  obtain ⟨ao, cap, rfl, hl, hc⟩ := h
  unfold maxLen at hl
  by_cases h24 : L.length = 24
  · have H24 := hid h24
    have hne : ((L.length : Int) != 24) = false := by simp [h24]
    clear h24
    go_enter Tryz.func82, Tryz.ntmps82
    go_wp2
    go_loopw [5] (fun i wr => ∃ k : Nat, k ≤ 24 ∧ i = .int .i64 k ∧ Hid (FlrTo L k) ∧ Below w.heap.size w wr) (fun i _ => 24 - (intOf i).toNat)
    case atStart => exact ⟨0, Nat.zero_le _, rfl, hid (fun j hj => absurd hj (Nat.not_lt_zero j)), Below.refl _ _⟩
    case round =>
      obtain ⟨k, hk, rfl, hpre, hbel⟩ := hrel
      by_cases hlt : k < 24
      · have hkl : k < L.length := by have := H24.out; omega
        have hki : (k : Int) < 24 := by omega
        obtain ⟨b, o, rfl, hb, hcc⟩ := hc (by omega)
        obtain ⟨p0, hx, c0⟩ := atK_1n ((hcc k hkl).later hb hbel)
        rw [Nat.mul_one] at c0
        have hf : flr L k = p0 := by rw [flr, hx]; rfl
        have HF := hid hf
        have hsz := hbel.size
        clear hcc hc hx hf
        have r0 := cell_regrown c0
        by_cases h0 : 0 ≤ p0
        · by_cases h1 : p0 ≤ 60
          · have hN := hid (hpre.out.more (by rw [HF.out]; exact verR_iff.2 ⟨h0, h1⟩))
            have g0 : decide (p0 < 0) = false := by simp; omega
            have g1 : decide (p0 > 60) = false := by simp; omega
            go_wp2_with fail
            go_roundw
            case rel => exact ⟨k + 1, by omega, by go_num, hN, hbel⟩
            case measure => simp [intOf]; omega
          · have hno : vsR L = false := decide_eq_false (fun h => by
              have := h.2 k hlt
              rw [HF.out, verR_iff] at this
              omega)
            have g0 : decide (p0 < 0) = false := by simp; omega
            have g1 : decide (p0 > 60) = true := by simp; omega
            go_wp2_with fail
            go_ret
            exact ⟨by simp, hbel⟩
        · have hno : vsR L = false := decide_eq_false (fun h => by
            have := h.2 k hlt
            rw [HF.out, verR_iff] at this
            omega)
          have g0 : decide (p0 < 0) = true := by simp; omega
          go_wp2_with fail
          go_ret
          exact ⟨by simp, hbel⟩
      · have hall : vsR L = true := by
          have := H24.out
          have hk' : k = 24 := by omega
          subst hk'
          exact decide_eq_true ⟨this, hpre.out⟩
        have hki : ¬ (k : Int) < 24 := by omega
        go_wp2
        go_ret
        exact ⟨by simp, hbel⟩
  · have hno : vsR L = false := decide_eq_false (fun h => h24 h.1)
    have hne : ((L.length : Int) != 24) = true := by simp; omega
    go_enter Tryz.func82, Tryz.ntmps82
    go_wp2
    go_ret
    exact ⟨by simp [hno], Below.refl _ _⟩
def zO (a b c d : Int) : Bool := decide (a = 0 ∧ b = 0 ∧ c = 0 ∧ d = 0)
theorem l6None_any (a b c d : Int) (w : World) : Calls Tryz.prog 77 #[.agg #[.int .i64 a, .int .i64 b, .int .i64 c, .int .i64 d]] w fun e w' => e = .returned (.bool (zO a b c d)) ∧ Below w.heap.size w w' := by
  go_enter Tryz.func77, Tryz.ntmps77
  go_wp2
  all_goals
    go_ret
    exact ⟨by first | (simp_all [zO]; done) | (simp_all [zO]; omega), by go_grown⟩
def zI (k v n : Int) (l : List (Int × Int)) : Bool := decide (k = 0 ∧ v = 0 ∧ n = 0 ∧ l = [])
theorem l6Blank_any (k v n : Int) (u : Value) (l : List (Int × Int)) (w : World) (h : Rd w u l) : Calls Tryz.prog 81 #[.agg #[.int .i64 k, .int .i64 v, .int .i64 n, u]] w fun e w' => e = .returned (.bool (zI k v n l)) ∧ Below w.heap.size w w' := by
  obtain ⟨ao, ac, hv, _⟩ := h
  subst hv
  by_cases hl : l = []
  · subst hl
    go_enter Tryz.func81, Tryz.ntmps81
    go_wp2
    all_goals
      go_ret
      exact ⟨by first | (simp_all [zI]; done) | (simp_all [zI]; omega), by go_grown⟩
  · have hno : zI k v n l = false := decide_eq_false (fun h => hl h.2.2.2)
    have hne : ((l.length : Int) == 0) = false := by simpa using hl
    rw [hno]
    clear hno hl
    go_enter Tryz.func81, Tryz.ntmps81
    go_wp2
    all_goals
      go_ret
      exact ⟨by simp, by go_grown⟩
/-- A message that has a key of its part alone. -/
def zK (p k v n : Int) (l : List (Int × Int)) : Bool := decide (partOf k = p ∧ v = 0 ∧ n = 0 ∧ l = [])
set_option maxHeartbeats 1000000 in
theorem l6Key_any (i0 i1 i2 i3 i4 i5 i6 i7 i8 i9 i10 i11 i12 : Int) (va0 va1 : Value) (L0 : List (Int × Int)) (L1 : List KD) (w : World) (ha : RSMsg w va0 va1 L0 L1) :
    Calls Tryz.prog 78 #[.agg #[.int .i64 i0, .int .i64 i1, .int .i64 i2, .int .i64 i3, .int .i64 i4, .int .i64 i5, .int .i64 i6, .int .i64 i7, .int .i64 i8, .int .i64 i9, .int .i64 i10, .int .i64 i11, va0, va1, .int .i64 i12]] w fun e w' => e = .returned (.bool (zK i2 i9 i10 i11 L0)) ∧ Below w.heap.size w w' := by
  obtain ⟨ao0, ao1, ac0, ac1, rfl, rfl⟩ := ha.open
  clear ha
  have hv : zK i2 i9 i10 i11 L0 = decide (partOf i9 = i2 ∧ i10 = 0 ∧ i11 = 0 ∧ L0 = []) := rfl
  by_cases hp : partOf i9 = i2
  · have hb : (partOf i9 == i2) = true := by simpa using hp
    by_cases h10 : i10 = 0
    · subst h10
      by_cases h11 : i11 = 0
      · subst h11
        by_cases hl : L0 = []
        · subst hl
          have hz : zK i2 i9 0 0 [] = true := decide_eq_true ⟨hp, rfl, rfl, rfl⟩
          rw [hz]
          clear hz hv hp
          go_enter Tryz.func78, Tryz.ntmps78
          go_wp2_with fail
          have a0_1 : (w.alloc (.cells #[.int .i64 i0, .int .i64 i1, .int .i64 i2, .int .i64 i3, .int .i64 i4, .int .i64 i5, .int .i64 i6, .int .i64 i7, .int .i64 i8, .int .i64 i9, .int .i64 0, .int .i64 0, .slice ao0 0 ac0, .slice ao1 L1.length ac1, .int .i64 i12] 32)).cell? ⟨w.heap.size, 0, none⟩ = some (.int .i64 i0) := by go_cell
          have a1_1 : (w.alloc (.cells #[.int .i64 i0, .int .i64 i1, .int .i64 i2, .int .i64 i3, .int .i64 i4, .int .i64 i5, .int .i64 i6, .int .i64 i7, .int .i64 i8, .int .i64 i9, .int .i64 0, .int .i64 0, .slice ao0 0 ac0, .slice ao1 L1.length ac1, .int .i64 i12] 32)).cell? ⟨w.heap.size, 1, none⟩ = some (.int .i64 i1) := by go_cell
          have a2_1 : (w.alloc (.cells #[.int .i64 i0, .int .i64 i1, .int .i64 i2, .int .i64 i3, .int .i64 i4, .int .i64 i5, .int .i64 i6, .int .i64 i7, .int .i64 i8, .int .i64 i9, .int .i64 0, .int .i64 0, .slice ao0 0 ac0, .slice ao1 L1.length ac1, .int .i64 i12] 32)).cell? ⟨w.heap.size, 2, none⟩ = some (.int .i64 i2) := by go_cell
          have a3_1 : (w.alloc (.cells #[.int .i64 i0, .int .i64 i1, .int .i64 i2, .int .i64 i3, .int .i64 i4, .int .i64 i5, .int .i64 i6, .int .i64 i7, .int .i64 i8, .int .i64 i9, .int .i64 0, .int .i64 0, .slice ao0 0 ac0, .slice ao1 L1.length ac1, .int .i64 i12] 32)).cell? ⟨w.heap.size, 3, none⟩ = some (.int .i64 i3) := by go_cell
          have a4_1 : (w.alloc (.cells #[.int .i64 i0, .int .i64 i1, .int .i64 i2, .int .i64 i3, .int .i64 i4, .int .i64 i5, .int .i64 i6, .int .i64 i7, .int .i64 i8, .int .i64 i9, .int .i64 0, .int .i64 0, .slice ao0 0 ac0, .slice ao1 L1.length ac1, .int .i64 i12] 32)).cell? ⟨w.heap.size, 4, none⟩ = some (.int .i64 i4) := by go_cell
          have a5_1 : (w.alloc (.cells #[.int .i64 i0, .int .i64 i1, .int .i64 i2, .int .i64 i3, .int .i64 i4, .int .i64 i5, .int .i64 i6, .int .i64 i7, .int .i64 i8, .int .i64 i9, .int .i64 0, .int .i64 0, .slice ao0 0 ac0, .slice ao1 L1.length ac1, .int .i64 i12] 32)).cell? ⟨w.heap.size, 5, none⟩ = some (.int .i64 i5) := by go_cell
          have a6_1 : (w.alloc (.cells #[.int .i64 i0, .int .i64 i1, .int .i64 i2, .int .i64 i3, .int .i64 i4, .int .i64 i5, .int .i64 i6, .int .i64 i7, .int .i64 i8, .int .i64 i9, .int .i64 0, .int .i64 0, .slice ao0 0 ac0, .slice ao1 L1.length ac1, .int .i64 i12] 32)).cell? ⟨w.heap.size, 6, none⟩ = some (.int .i64 i6) := by go_cell
          have a7_1 : (w.alloc (.cells #[.int .i64 i0, .int .i64 i1, .int .i64 i2, .int .i64 i3, .int .i64 i4, .int .i64 i5, .int .i64 i6, .int .i64 i7, .int .i64 i8, .int .i64 i9, .int .i64 0, .int .i64 0, .slice ao0 0 ac0, .slice ao1 L1.length ac1, .int .i64 i12] 32)).cell? ⟨w.heap.size, 7, none⟩ = some (.int .i64 i7) := by go_cell
          have a8_1 : (w.alloc (.cells #[.int .i64 i0, .int .i64 i1, .int .i64 i2, .int .i64 i3, .int .i64 i4, .int .i64 i5, .int .i64 i6, .int .i64 i7, .int .i64 i8, .int .i64 i9, .int .i64 0, .int .i64 0, .slice ao0 0 ac0, .slice ao1 L1.length ac1, .int .i64 i12] 32)).cell? ⟨w.heap.size, 8, none⟩ = some (.int .i64 i8) := by go_cell
          have a9_1 : (w.alloc (.cells #[.int .i64 i0, .int .i64 i1, .int .i64 i2, .int .i64 i3, .int .i64 i4, .int .i64 i5, .int .i64 i6, .int .i64 i7, .int .i64 i8, .int .i64 i9, .int .i64 0, .int .i64 0, .slice ao0 0 ac0, .slice ao1 L1.length ac1, .int .i64 i12] 32)).cell? ⟨w.heap.size, 9, none⟩ = some (.int .i64 i9) := by go_cell
          have a10_1 : (w.alloc (.cells #[.int .i64 i0, .int .i64 i1, .int .i64 i2, .int .i64 i3, .int .i64 i4, .int .i64 i5, .int .i64 i6, .int .i64 i7, .int .i64 i8, .int .i64 i9, .int .i64 0, .int .i64 0, .slice ao0 0 ac0, .slice ao1 L1.length ac1, .int .i64 i12] 32)).cell? ⟨w.heap.size, 10, none⟩ = some (.int .i64 0) := by go_cell
          have a11_1 : (w.alloc (.cells #[.int .i64 i0, .int .i64 i1, .int .i64 i2, .int .i64 i3, .int .i64 i4, .int .i64 i5, .int .i64 i6, .int .i64 i7, .int .i64 i8, .int .i64 i9, .int .i64 0, .int .i64 0, .slice ao0 0 ac0, .slice ao1 L1.length ac1, .int .i64 i12] 32)).cell? ⟨w.heap.size, 11, none⟩ = some (.int .i64 0) := by go_cell
          have a12_1 : (w.alloc (.cells #[.int .i64 i0, .int .i64 i1, .int .i64 i2, .int .i64 i3, .int .i64 i4, .int .i64 i5, .int .i64 i6, .int .i64 i7, .int .i64 i8, .int .i64 i9, .int .i64 0, .int .i64 0, .slice ao0 0 ac0, .slice ao1 L1.length ac1, .int .i64 i12] 32)).cell? ⟨w.heap.size, 12, none⟩ = some (.slice ao0 0 ac0) := by go_cell
          have a13_1 : (w.alloc (.cells #[.int .i64 i0, .int .i64 i1, .int .i64 i2, .int .i64 i3, .int .i64 i4, .int .i64 i5, .int .i64 i6, .int .i64 i7, .int .i64 i8, .int .i64 i9, .int .i64 0, .int .i64 0, .slice ao0 0 ac0, .slice ao1 L1.length ac1, .int .i64 i12] 32)).cell? ⟨w.heap.size, 13, none⟩ = some (.slice ao1 L1.length ac1) := by go_cell
          have a14_1 : (w.alloc (.cells #[.int .i64 i0, .int .i64 i1, .int .i64 i2, .int .i64 i3, .int .i64 i4, .int .i64 i5, .int .i64 i6, .int .i64 i7, .int .i64 i8, .int .i64 i9, .int .i64 0, .int .i64 0, .slice ao0 0 ac0, .slice ao1 L1.length ac1, .int .i64 i12] 32)).cell? ⟨w.heap.size, 14, none⟩ = some (.int .i64 i12) := by go_cell
          have al_1 : w.heap.size < (w.alloc (.cells #[.int .i64 i0, .int .i64 i1, .int .i64 i2, .int .i64 i3, .int .i64 i4, .int .i64 i5, .int .i64 i6, .int .i64 i7, .int .i64 i8, .int .i64 i9, .int .i64 0, .int .i64 0, .slice ao0 0 ac0, .slice ao1 L1.length ac1, .int .i64 i12] 32)).heap.size := by first | (simp; done) | (simp; omega)
          have c1 : Below w.heap.size w (w.alloc (.cells #[.int .i64 i0, .int .i64 i1, .int .i64 i2, .int .i64 i3, .int .i64 i4, .int .i64 i5, .int .i64 i6, .int .i64 i7, .int .i64 i8, .int .i64 i9, .int .i64 0, .int .i64 0, .slice ao0 0 ac0, .slice ao1 L1.length ac1, .int .i64 i12] 32)) := by go_grown
          have s1 : (w.alloc (.cells #[.int .i64 i0, .int .i64 i1, .int .i64 i2, .int .i64 i3, .int .i64 i4, .int .i64 i5, .int .i64 i6, .int .i64 i7, .int .i64 i8, .int .i64 i9, .int .i64 0, .int .i64 0, .slice ao0 0 ac0, .slice ao1 L1.length ac1, .int .i64 i12] 32)).heap.size = w.heap.size + 1 := by simp
          generalize (w.alloc (.cells #[.int .i64 i0, .int .i64 i1, .int .i64 i2, .int .i64 i3, .int .i64 i4, .int .i64 i5, .int .i64 i6, .int .i64 i7, .int .i64 i8, .int .i64 i9, .int .i64 0, .int .i64 0, .slice ao0 0 ac0, .slice ao1 L1.length ac1, .int .i64 i12] 32)) = w1 at a0_1 a1_1 a2_1 a3_1 a4_1 a5_1 a6_1 a7_1 a8_1 a9_1 a10_1 a11_1 a12_1 a13_1 a14_1 al_1 c1 s1 ⊢
          have qa0_1 := cell_regrown a0_1
          have qa1_1 := cell_regrown a1_1
          have qa2_1 := cell_regrown a2_1
          have qa3_1 := cell_regrown a3_1
          have qa4_1 := cell_regrown a4_1
          have qa5_1 := cell_regrown a5_1
          have qa6_1 := cell_regrown a6_1
          have qa7_1 := cell_regrown a7_1
          have qa8_1 := cell_regrown a8_1
          have qa9_1 := cell_regrown a9_1
          have qa10_1 := cell_regrown a10_1
          have qa11_1 := cell_regrown a11_1
          have qa12_1 := cell_regrown a12_1
          have qa13_1 := cell_regrown a13_1
          have qa14_1 := cell_regrown a14_1
          refine wp_region_quiet_below (by kernel_rfl) (by kernel_rfl) ?_
          repeat (first | go_big_quiet_skip | (go_big_quiet_want; go_big_quiet_op; first | go_big_quiet_on | go_big_quiet_call (first | (go_at_call 76; exact Calls.regrown_of (specShard_b i9 _)))))
          refine wpQuiet_nil ?_
          rintro wq ⟨pq, hwq⟩
          have hq : Below w1.heap.size w1 wq := by rw [hwq]; exact below_regrown _ _ _
          clear hwq pq
          go_wp2
          go_ret
          exact ⟨by simp, c1.trans (hq.mono c1.size)⟩
        · have hz : zK i2 i9 0 0 L0 = false := decide_eq_false (fun h => hl h.2.2.2)
          have hn : ((L0.length : Int) == 0) = false := by simpa using hl
          rw [hz]
          clear hz hv hp hl
          go_enter Tryz.func78, Tryz.ntmps78
          go_wp2_with fail
          have a0_1 : (w.alloc (.cells #[.int .i64 i0, .int .i64 i1, .int .i64 i2, .int .i64 i3, .int .i64 i4, .int .i64 i5, .int .i64 i6, .int .i64 i7, .int .i64 i8, .int .i64 i9, .int .i64 0, .int .i64 0, .slice ao0 L0.length ac0, .slice ao1 L1.length ac1, .int .i64 i12] 32)).cell? ⟨w.heap.size, 0, none⟩ = some (.int .i64 i0) := by go_cell
          have a1_1 : (w.alloc (.cells #[.int .i64 i0, .int .i64 i1, .int .i64 i2, .int .i64 i3, .int .i64 i4, .int .i64 i5, .int .i64 i6, .int .i64 i7, .int .i64 i8, .int .i64 i9, .int .i64 0, .int .i64 0, .slice ao0 L0.length ac0, .slice ao1 L1.length ac1, .int .i64 i12] 32)).cell? ⟨w.heap.size, 1, none⟩ = some (.int .i64 i1) := by go_cell
          have a2_1 : (w.alloc (.cells #[.int .i64 i0, .int .i64 i1, .int .i64 i2, .int .i64 i3, .int .i64 i4, .int .i64 i5, .int .i64 i6, .int .i64 i7, .int .i64 i8, .int .i64 i9, .int .i64 0, .int .i64 0, .slice ao0 L0.length ac0, .slice ao1 L1.length ac1, .int .i64 i12] 32)).cell? ⟨w.heap.size, 2, none⟩ = some (.int .i64 i2) := by go_cell
          have a3_1 : (w.alloc (.cells #[.int .i64 i0, .int .i64 i1, .int .i64 i2, .int .i64 i3, .int .i64 i4, .int .i64 i5, .int .i64 i6, .int .i64 i7, .int .i64 i8, .int .i64 i9, .int .i64 0, .int .i64 0, .slice ao0 L0.length ac0, .slice ao1 L1.length ac1, .int .i64 i12] 32)).cell? ⟨w.heap.size, 3, none⟩ = some (.int .i64 i3) := by go_cell
          have a4_1 : (w.alloc (.cells #[.int .i64 i0, .int .i64 i1, .int .i64 i2, .int .i64 i3, .int .i64 i4, .int .i64 i5, .int .i64 i6, .int .i64 i7, .int .i64 i8, .int .i64 i9, .int .i64 0, .int .i64 0, .slice ao0 L0.length ac0, .slice ao1 L1.length ac1, .int .i64 i12] 32)).cell? ⟨w.heap.size, 4, none⟩ = some (.int .i64 i4) := by go_cell
          have a5_1 : (w.alloc (.cells #[.int .i64 i0, .int .i64 i1, .int .i64 i2, .int .i64 i3, .int .i64 i4, .int .i64 i5, .int .i64 i6, .int .i64 i7, .int .i64 i8, .int .i64 i9, .int .i64 0, .int .i64 0, .slice ao0 L0.length ac0, .slice ao1 L1.length ac1, .int .i64 i12] 32)).cell? ⟨w.heap.size, 5, none⟩ = some (.int .i64 i5) := by go_cell
          have a6_1 : (w.alloc (.cells #[.int .i64 i0, .int .i64 i1, .int .i64 i2, .int .i64 i3, .int .i64 i4, .int .i64 i5, .int .i64 i6, .int .i64 i7, .int .i64 i8, .int .i64 i9, .int .i64 0, .int .i64 0, .slice ao0 L0.length ac0, .slice ao1 L1.length ac1, .int .i64 i12] 32)).cell? ⟨w.heap.size, 6, none⟩ = some (.int .i64 i6) := by go_cell
          have a7_1 : (w.alloc (.cells #[.int .i64 i0, .int .i64 i1, .int .i64 i2, .int .i64 i3, .int .i64 i4, .int .i64 i5, .int .i64 i6, .int .i64 i7, .int .i64 i8, .int .i64 i9, .int .i64 0, .int .i64 0, .slice ao0 L0.length ac0, .slice ao1 L1.length ac1, .int .i64 i12] 32)).cell? ⟨w.heap.size, 7, none⟩ = some (.int .i64 i7) := by go_cell
          have a8_1 : (w.alloc (.cells #[.int .i64 i0, .int .i64 i1, .int .i64 i2, .int .i64 i3, .int .i64 i4, .int .i64 i5, .int .i64 i6, .int .i64 i7, .int .i64 i8, .int .i64 i9, .int .i64 0, .int .i64 0, .slice ao0 L0.length ac0, .slice ao1 L1.length ac1, .int .i64 i12] 32)).cell? ⟨w.heap.size, 8, none⟩ = some (.int .i64 i8) := by go_cell
          have a9_1 : (w.alloc (.cells #[.int .i64 i0, .int .i64 i1, .int .i64 i2, .int .i64 i3, .int .i64 i4, .int .i64 i5, .int .i64 i6, .int .i64 i7, .int .i64 i8, .int .i64 i9, .int .i64 0, .int .i64 0, .slice ao0 L0.length ac0, .slice ao1 L1.length ac1, .int .i64 i12] 32)).cell? ⟨w.heap.size, 9, none⟩ = some (.int .i64 i9) := by go_cell
          have a10_1 : (w.alloc (.cells #[.int .i64 i0, .int .i64 i1, .int .i64 i2, .int .i64 i3, .int .i64 i4, .int .i64 i5, .int .i64 i6, .int .i64 i7, .int .i64 i8, .int .i64 i9, .int .i64 0, .int .i64 0, .slice ao0 L0.length ac0, .slice ao1 L1.length ac1, .int .i64 i12] 32)).cell? ⟨w.heap.size, 10, none⟩ = some (.int .i64 0) := by go_cell
          have a11_1 : (w.alloc (.cells #[.int .i64 i0, .int .i64 i1, .int .i64 i2, .int .i64 i3, .int .i64 i4, .int .i64 i5, .int .i64 i6, .int .i64 i7, .int .i64 i8, .int .i64 i9, .int .i64 0, .int .i64 0, .slice ao0 L0.length ac0, .slice ao1 L1.length ac1, .int .i64 i12] 32)).cell? ⟨w.heap.size, 11, none⟩ = some (.int .i64 0) := by go_cell
          have a12_1 : (w.alloc (.cells #[.int .i64 i0, .int .i64 i1, .int .i64 i2, .int .i64 i3, .int .i64 i4, .int .i64 i5, .int .i64 i6, .int .i64 i7, .int .i64 i8, .int .i64 i9, .int .i64 0, .int .i64 0, .slice ao0 L0.length ac0, .slice ao1 L1.length ac1, .int .i64 i12] 32)).cell? ⟨w.heap.size, 12, none⟩ = some (.slice ao0 L0.length ac0) := by go_cell
          have a13_1 : (w.alloc (.cells #[.int .i64 i0, .int .i64 i1, .int .i64 i2, .int .i64 i3, .int .i64 i4, .int .i64 i5, .int .i64 i6, .int .i64 i7, .int .i64 i8, .int .i64 i9, .int .i64 0, .int .i64 0, .slice ao0 L0.length ac0, .slice ao1 L1.length ac1, .int .i64 i12] 32)).cell? ⟨w.heap.size, 13, none⟩ = some (.slice ao1 L1.length ac1) := by go_cell
          have a14_1 : (w.alloc (.cells #[.int .i64 i0, .int .i64 i1, .int .i64 i2, .int .i64 i3, .int .i64 i4, .int .i64 i5, .int .i64 i6, .int .i64 i7, .int .i64 i8, .int .i64 i9, .int .i64 0, .int .i64 0, .slice ao0 L0.length ac0, .slice ao1 L1.length ac1, .int .i64 i12] 32)).cell? ⟨w.heap.size, 14, none⟩ = some (.int .i64 i12) := by go_cell
          have al_1 : w.heap.size < (w.alloc (.cells #[.int .i64 i0, .int .i64 i1, .int .i64 i2, .int .i64 i3, .int .i64 i4, .int .i64 i5, .int .i64 i6, .int .i64 i7, .int .i64 i8, .int .i64 i9, .int .i64 0, .int .i64 0, .slice ao0 L0.length ac0, .slice ao1 L1.length ac1, .int .i64 i12] 32)).heap.size := by first | (simp; done) | (simp; omega)
          have c1 : Below w.heap.size w (w.alloc (.cells #[.int .i64 i0, .int .i64 i1, .int .i64 i2, .int .i64 i3, .int .i64 i4, .int .i64 i5, .int .i64 i6, .int .i64 i7, .int .i64 i8, .int .i64 i9, .int .i64 0, .int .i64 0, .slice ao0 L0.length ac0, .slice ao1 L1.length ac1, .int .i64 i12] 32)) := by go_grown
          have s1 : (w.alloc (.cells #[.int .i64 i0, .int .i64 i1, .int .i64 i2, .int .i64 i3, .int .i64 i4, .int .i64 i5, .int .i64 i6, .int .i64 i7, .int .i64 i8, .int .i64 i9, .int .i64 0, .int .i64 0, .slice ao0 L0.length ac0, .slice ao1 L1.length ac1, .int .i64 i12] 32)).heap.size = w.heap.size + 1 := by simp
          generalize (w.alloc (.cells #[.int .i64 i0, .int .i64 i1, .int .i64 i2, .int .i64 i3, .int .i64 i4, .int .i64 i5, .int .i64 i6, .int .i64 i7, .int .i64 i8, .int .i64 i9, .int .i64 0, .int .i64 0, .slice ao0 L0.length ac0, .slice ao1 L1.length ac1, .int .i64 i12] 32)) = w1 at a0_1 a1_1 a2_1 a3_1 a4_1 a5_1 a6_1 a7_1 a8_1 a9_1 a10_1 a11_1 a12_1 a13_1 a14_1 al_1 c1 s1 ⊢
          have qa0_1 := cell_regrown a0_1
          have qa1_1 := cell_regrown a1_1
          have qa2_1 := cell_regrown a2_1
          have qa3_1 := cell_regrown a3_1
          have qa4_1 := cell_regrown a4_1
          have qa5_1 := cell_regrown a5_1
          have qa6_1 := cell_regrown a6_1
          have qa7_1 := cell_regrown a7_1
          have qa8_1 := cell_regrown a8_1
          have qa9_1 := cell_regrown a9_1
          have qa10_1 := cell_regrown a10_1
          have qa11_1 := cell_regrown a11_1
          have qa12_1 := cell_regrown a12_1
          have qa13_1 := cell_regrown a13_1
          have qa14_1 := cell_regrown a14_1
          refine wp_region_quiet_below (by kernel_rfl) (by kernel_rfl) ?_
          repeat (first | go_big_quiet_skip | (go_big_quiet_want; go_big_quiet_op; first | go_big_quiet_on | go_big_quiet_call (first | (go_at_call 76; exact Calls.regrown_of (specShard_b i9 _)))))
          refine wpQuiet_nil ?_
          rintro wq ⟨pq, hwq⟩
          have hq : Below w1.heap.size w1 wq := by rw [hwq]; exact below_regrown _ _ _
          clear hwq pq
          go_wp2
          go_ret
          exact ⟨by simp, c1.trans (hq.mono c1.size)⟩
      · have hz : zK i2 i9 0 i11 L0 = false := decide_eq_false (fun h => h11 h.2.2.1)
        have hn : (i11 == 0) = false := by simpa using h11
        rw [hz]
        clear hz hv hp h11
        go_enter Tryz.func78, Tryz.ntmps78
        go_wp2_with fail
        have a0_1 : (w.alloc (.cells #[.int .i64 i0, .int .i64 i1, .int .i64 i2, .int .i64 i3, .int .i64 i4, .int .i64 i5, .int .i64 i6, .int .i64 i7, .int .i64 i8, .int .i64 i9, .int .i64 0, .int .i64 i11, .slice ao0 L0.length ac0, .slice ao1 L1.length ac1, .int .i64 i12] 32)).cell? ⟨w.heap.size, 0, none⟩ = some (.int .i64 i0) := by go_cell
        have a1_1 : (w.alloc (.cells #[.int .i64 i0, .int .i64 i1, .int .i64 i2, .int .i64 i3, .int .i64 i4, .int .i64 i5, .int .i64 i6, .int .i64 i7, .int .i64 i8, .int .i64 i9, .int .i64 0, .int .i64 i11, .slice ao0 L0.length ac0, .slice ao1 L1.length ac1, .int .i64 i12] 32)).cell? ⟨w.heap.size, 1, none⟩ = some (.int .i64 i1) := by go_cell
        have a2_1 : (w.alloc (.cells #[.int .i64 i0, .int .i64 i1, .int .i64 i2, .int .i64 i3, .int .i64 i4, .int .i64 i5, .int .i64 i6, .int .i64 i7, .int .i64 i8, .int .i64 i9, .int .i64 0, .int .i64 i11, .slice ao0 L0.length ac0, .slice ao1 L1.length ac1, .int .i64 i12] 32)).cell? ⟨w.heap.size, 2, none⟩ = some (.int .i64 i2) := by go_cell
        have a3_1 : (w.alloc (.cells #[.int .i64 i0, .int .i64 i1, .int .i64 i2, .int .i64 i3, .int .i64 i4, .int .i64 i5, .int .i64 i6, .int .i64 i7, .int .i64 i8, .int .i64 i9, .int .i64 0, .int .i64 i11, .slice ao0 L0.length ac0, .slice ao1 L1.length ac1, .int .i64 i12] 32)).cell? ⟨w.heap.size, 3, none⟩ = some (.int .i64 i3) := by go_cell
        have a4_1 : (w.alloc (.cells #[.int .i64 i0, .int .i64 i1, .int .i64 i2, .int .i64 i3, .int .i64 i4, .int .i64 i5, .int .i64 i6, .int .i64 i7, .int .i64 i8, .int .i64 i9, .int .i64 0, .int .i64 i11, .slice ao0 L0.length ac0, .slice ao1 L1.length ac1, .int .i64 i12] 32)).cell? ⟨w.heap.size, 4, none⟩ = some (.int .i64 i4) := by go_cell
        have a5_1 : (w.alloc (.cells #[.int .i64 i0, .int .i64 i1, .int .i64 i2, .int .i64 i3, .int .i64 i4, .int .i64 i5, .int .i64 i6, .int .i64 i7, .int .i64 i8, .int .i64 i9, .int .i64 0, .int .i64 i11, .slice ao0 L0.length ac0, .slice ao1 L1.length ac1, .int .i64 i12] 32)).cell? ⟨w.heap.size, 5, none⟩ = some (.int .i64 i5) := by go_cell
        have a6_1 : (w.alloc (.cells #[.int .i64 i0, .int .i64 i1, .int .i64 i2, .int .i64 i3, .int .i64 i4, .int .i64 i5, .int .i64 i6, .int .i64 i7, .int .i64 i8, .int .i64 i9, .int .i64 0, .int .i64 i11, .slice ao0 L0.length ac0, .slice ao1 L1.length ac1, .int .i64 i12] 32)).cell? ⟨w.heap.size, 6, none⟩ = some (.int .i64 i6) := by go_cell
        have a7_1 : (w.alloc (.cells #[.int .i64 i0, .int .i64 i1, .int .i64 i2, .int .i64 i3, .int .i64 i4, .int .i64 i5, .int .i64 i6, .int .i64 i7, .int .i64 i8, .int .i64 i9, .int .i64 0, .int .i64 i11, .slice ao0 L0.length ac0, .slice ao1 L1.length ac1, .int .i64 i12] 32)).cell? ⟨w.heap.size, 7, none⟩ = some (.int .i64 i7) := by go_cell
        have a8_1 : (w.alloc (.cells #[.int .i64 i0, .int .i64 i1, .int .i64 i2, .int .i64 i3, .int .i64 i4, .int .i64 i5, .int .i64 i6, .int .i64 i7, .int .i64 i8, .int .i64 i9, .int .i64 0, .int .i64 i11, .slice ao0 L0.length ac0, .slice ao1 L1.length ac1, .int .i64 i12] 32)).cell? ⟨w.heap.size, 8, none⟩ = some (.int .i64 i8) := by go_cell
        have a9_1 : (w.alloc (.cells #[.int .i64 i0, .int .i64 i1, .int .i64 i2, .int .i64 i3, .int .i64 i4, .int .i64 i5, .int .i64 i6, .int .i64 i7, .int .i64 i8, .int .i64 i9, .int .i64 0, .int .i64 i11, .slice ao0 L0.length ac0, .slice ao1 L1.length ac1, .int .i64 i12] 32)).cell? ⟨w.heap.size, 9, none⟩ = some (.int .i64 i9) := by go_cell
        have a10_1 : (w.alloc (.cells #[.int .i64 i0, .int .i64 i1, .int .i64 i2, .int .i64 i3, .int .i64 i4, .int .i64 i5, .int .i64 i6, .int .i64 i7, .int .i64 i8, .int .i64 i9, .int .i64 0, .int .i64 i11, .slice ao0 L0.length ac0, .slice ao1 L1.length ac1, .int .i64 i12] 32)).cell? ⟨w.heap.size, 10, none⟩ = some (.int .i64 0) := by go_cell
        have a11_1 : (w.alloc (.cells #[.int .i64 i0, .int .i64 i1, .int .i64 i2, .int .i64 i3, .int .i64 i4, .int .i64 i5, .int .i64 i6, .int .i64 i7, .int .i64 i8, .int .i64 i9, .int .i64 0, .int .i64 i11, .slice ao0 L0.length ac0, .slice ao1 L1.length ac1, .int .i64 i12] 32)).cell? ⟨w.heap.size, 11, none⟩ = some (.int .i64 i11) := by go_cell
        have a12_1 : (w.alloc (.cells #[.int .i64 i0, .int .i64 i1, .int .i64 i2, .int .i64 i3, .int .i64 i4, .int .i64 i5, .int .i64 i6, .int .i64 i7, .int .i64 i8, .int .i64 i9, .int .i64 0, .int .i64 i11, .slice ao0 L0.length ac0, .slice ao1 L1.length ac1, .int .i64 i12] 32)).cell? ⟨w.heap.size, 12, none⟩ = some (.slice ao0 L0.length ac0) := by go_cell
        have a13_1 : (w.alloc (.cells #[.int .i64 i0, .int .i64 i1, .int .i64 i2, .int .i64 i3, .int .i64 i4, .int .i64 i5, .int .i64 i6, .int .i64 i7, .int .i64 i8, .int .i64 i9, .int .i64 0, .int .i64 i11, .slice ao0 L0.length ac0, .slice ao1 L1.length ac1, .int .i64 i12] 32)).cell? ⟨w.heap.size, 13, none⟩ = some (.slice ao1 L1.length ac1) := by go_cell
        have a14_1 : (w.alloc (.cells #[.int .i64 i0, .int .i64 i1, .int .i64 i2, .int .i64 i3, .int .i64 i4, .int .i64 i5, .int .i64 i6, .int .i64 i7, .int .i64 i8, .int .i64 i9, .int .i64 0, .int .i64 i11, .slice ao0 L0.length ac0, .slice ao1 L1.length ac1, .int .i64 i12] 32)).cell? ⟨w.heap.size, 14, none⟩ = some (.int .i64 i12) := by go_cell
        have al_1 : w.heap.size < (w.alloc (.cells #[.int .i64 i0, .int .i64 i1, .int .i64 i2, .int .i64 i3, .int .i64 i4, .int .i64 i5, .int .i64 i6, .int .i64 i7, .int .i64 i8, .int .i64 i9, .int .i64 0, .int .i64 i11, .slice ao0 L0.length ac0, .slice ao1 L1.length ac1, .int .i64 i12] 32)).heap.size := by first | (simp; done) | (simp; omega)
        have c1 : Below w.heap.size w (w.alloc (.cells #[.int .i64 i0, .int .i64 i1, .int .i64 i2, .int .i64 i3, .int .i64 i4, .int .i64 i5, .int .i64 i6, .int .i64 i7, .int .i64 i8, .int .i64 i9, .int .i64 0, .int .i64 i11, .slice ao0 L0.length ac0, .slice ao1 L1.length ac1, .int .i64 i12] 32)) := by go_grown
        have s1 : (w.alloc (.cells #[.int .i64 i0, .int .i64 i1, .int .i64 i2, .int .i64 i3, .int .i64 i4, .int .i64 i5, .int .i64 i6, .int .i64 i7, .int .i64 i8, .int .i64 i9, .int .i64 0, .int .i64 i11, .slice ao0 L0.length ac0, .slice ao1 L1.length ac1, .int .i64 i12] 32)).heap.size = w.heap.size + 1 := by simp
        generalize (w.alloc (.cells #[.int .i64 i0, .int .i64 i1, .int .i64 i2, .int .i64 i3, .int .i64 i4, .int .i64 i5, .int .i64 i6, .int .i64 i7, .int .i64 i8, .int .i64 i9, .int .i64 0, .int .i64 i11, .slice ao0 L0.length ac0, .slice ao1 L1.length ac1, .int .i64 i12] 32)) = w1 at a0_1 a1_1 a2_1 a3_1 a4_1 a5_1 a6_1 a7_1 a8_1 a9_1 a10_1 a11_1 a12_1 a13_1 a14_1 al_1 c1 s1 ⊢
        have qa0_1 := cell_regrown a0_1
        have qa1_1 := cell_regrown a1_1
        have qa2_1 := cell_regrown a2_1
        have qa3_1 := cell_regrown a3_1
        have qa4_1 := cell_regrown a4_1
        have qa5_1 := cell_regrown a5_1
        have qa6_1 := cell_regrown a6_1
        have qa7_1 := cell_regrown a7_1
        have qa8_1 := cell_regrown a8_1
        have qa9_1 := cell_regrown a9_1
        have qa10_1 := cell_regrown a10_1
        have qa11_1 := cell_regrown a11_1
        have qa12_1 := cell_regrown a12_1
        have qa13_1 := cell_regrown a13_1
        have qa14_1 := cell_regrown a14_1
        refine wp_region_quiet_below (by kernel_rfl) (by kernel_rfl) ?_
        repeat (first | go_big_quiet_skip | (go_big_quiet_want; go_big_quiet_op; first | go_big_quiet_on | go_big_quiet_call (first | (go_at_call 76; exact Calls.regrown_of (specShard_b i9 _)))))
        refine wpQuiet_nil ?_
        rintro wq ⟨pq, hwq⟩
        have hq : Below w1.heap.size w1 wq := by rw [hwq]; exact below_regrown _ _ _
        clear hwq pq
        go_wp2
        go_ret
        exact ⟨by simp, c1.trans (hq.mono c1.size)⟩
    · have hz : zK i2 i9 i10 i11 L0 = false := decide_eq_false (fun h => h10 h.2.1)
      have hn : (i10 == 0) = false := by simpa using h10
      rw [hz]
      clear hz hv hp h10
      go_enter Tryz.func78, Tryz.ntmps78
      go_wp2_with fail
      have a0_1 : (w.alloc (.cells #[.int .i64 i0, .int .i64 i1, .int .i64 i2, .int .i64 i3, .int .i64 i4, .int .i64 i5, .int .i64 i6, .int .i64 i7, .int .i64 i8, .int .i64 i9, .int .i64 i10, .int .i64 i11, .slice ao0 L0.length ac0, .slice ao1 L1.length ac1, .int .i64 i12] 32)).cell? ⟨w.heap.size, 0, none⟩ = some (.int .i64 i0) := by go_cell
      have a1_1 : (w.alloc (.cells #[.int .i64 i0, .int .i64 i1, .int .i64 i2, .int .i64 i3, .int .i64 i4, .int .i64 i5, .int .i64 i6, .int .i64 i7, .int .i64 i8, .int .i64 i9, .int .i64 i10, .int .i64 i11, .slice ao0 L0.length ac0, .slice ao1 L1.length ac1, .int .i64 i12] 32)).cell? ⟨w.heap.size, 1, none⟩ = some (.int .i64 i1) := by go_cell
      have a2_1 : (w.alloc (.cells #[.int .i64 i0, .int .i64 i1, .int .i64 i2, .int .i64 i3, .int .i64 i4, .int .i64 i5, .int .i64 i6, .int .i64 i7, .int .i64 i8, .int .i64 i9, .int .i64 i10, .int .i64 i11, .slice ao0 L0.length ac0, .slice ao1 L1.length ac1, .int .i64 i12] 32)).cell? ⟨w.heap.size, 2, none⟩ = some (.int .i64 i2) := by go_cell
      have a3_1 : (w.alloc (.cells #[.int .i64 i0, .int .i64 i1, .int .i64 i2, .int .i64 i3, .int .i64 i4, .int .i64 i5, .int .i64 i6, .int .i64 i7, .int .i64 i8, .int .i64 i9, .int .i64 i10, .int .i64 i11, .slice ao0 L0.length ac0, .slice ao1 L1.length ac1, .int .i64 i12] 32)).cell? ⟨w.heap.size, 3, none⟩ = some (.int .i64 i3) := by go_cell
      have a4_1 : (w.alloc (.cells #[.int .i64 i0, .int .i64 i1, .int .i64 i2, .int .i64 i3, .int .i64 i4, .int .i64 i5, .int .i64 i6, .int .i64 i7, .int .i64 i8, .int .i64 i9, .int .i64 i10, .int .i64 i11, .slice ao0 L0.length ac0, .slice ao1 L1.length ac1, .int .i64 i12] 32)).cell? ⟨w.heap.size, 4, none⟩ = some (.int .i64 i4) := by go_cell
      have a5_1 : (w.alloc (.cells #[.int .i64 i0, .int .i64 i1, .int .i64 i2, .int .i64 i3, .int .i64 i4, .int .i64 i5, .int .i64 i6, .int .i64 i7, .int .i64 i8, .int .i64 i9, .int .i64 i10, .int .i64 i11, .slice ao0 L0.length ac0, .slice ao1 L1.length ac1, .int .i64 i12] 32)).cell? ⟨w.heap.size, 5, none⟩ = some (.int .i64 i5) := by go_cell
      have a6_1 : (w.alloc (.cells #[.int .i64 i0, .int .i64 i1, .int .i64 i2, .int .i64 i3, .int .i64 i4, .int .i64 i5, .int .i64 i6, .int .i64 i7, .int .i64 i8, .int .i64 i9, .int .i64 i10, .int .i64 i11, .slice ao0 L0.length ac0, .slice ao1 L1.length ac1, .int .i64 i12] 32)).cell? ⟨w.heap.size, 6, none⟩ = some (.int .i64 i6) := by go_cell
      have a7_1 : (w.alloc (.cells #[.int .i64 i0, .int .i64 i1, .int .i64 i2, .int .i64 i3, .int .i64 i4, .int .i64 i5, .int .i64 i6, .int .i64 i7, .int .i64 i8, .int .i64 i9, .int .i64 i10, .int .i64 i11, .slice ao0 L0.length ac0, .slice ao1 L1.length ac1, .int .i64 i12] 32)).cell? ⟨w.heap.size, 7, none⟩ = some (.int .i64 i7) := by go_cell
      have a8_1 : (w.alloc (.cells #[.int .i64 i0, .int .i64 i1, .int .i64 i2, .int .i64 i3, .int .i64 i4, .int .i64 i5, .int .i64 i6, .int .i64 i7, .int .i64 i8, .int .i64 i9, .int .i64 i10, .int .i64 i11, .slice ao0 L0.length ac0, .slice ao1 L1.length ac1, .int .i64 i12] 32)).cell? ⟨w.heap.size, 8, none⟩ = some (.int .i64 i8) := by go_cell
      have a9_1 : (w.alloc (.cells #[.int .i64 i0, .int .i64 i1, .int .i64 i2, .int .i64 i3, .int .i64 i4, .int .i64 i5, .int .i64 i6, .int .i64 i7, .int .i64 i8, .int .i64 i9, .int .i64 i10, .int .i64 i11, .slice ao0 L0.length ac0, .slice ao1 L1.length ac1, .int .i64 i12] 32)).cell? ⟨w.heap.size, 9, none⟩ = some (.int .i64 i9) := by go_cell
      have a10_1 : (w.alloc (.cells #[.int .i64 i0, .int .i64 i1, .int .i64 i2, .int .i64 i3, .int .i64 i4, .int .i64 i5, .int .i64 i6, .int .i64 i7, .int .i64 i8, .int .i64 i9, .int .i64 i10, .int .i64 i11, .slice ao0 L0.length ac0, .slice ao1 L1.length ac1, .int .i64 i12] 32)).cell? ⟨w.heap.size, 10, none⟩ = some (.int .i64 i10) := by go_cell
      have a11_1 : (w.alloc (.cells #[.int .i64 i0, .int .i64 i1, .int .i64 i2, .int .i64 i3, .int .i64 i4, .int .i64 i5, .int .i64 i6, .int .i64 i7, .int .i64 i8, .int .i64 i9, .int .i64 i10, .int .i64 i11, .slice ao0 L0.length ac0, .slice ao1 L1.length ac1, .int .i64 i12] 32)).cell? ⟨w.heap.size, 11, none⟩ = some (.int .i64 i11) := by go_cell
      have a12_1 : (w.alloc (.cells #[.int .i64 i0, .int .i64 i1, .int .i64 i2, .int .i64 i3, .int .i64 i4, .int .i64 i5, .int .i64 i6, .int .i64 i7, .int .i64 i8, .int .i64 i9, .int .i64 i10, .int .i64 i11, .slice ao0 L0.length ac0, .slice ao1 L1.length ac1, .int .i64 i12] 32)).cell? ⟨w.heap.size, 12, none⟩ = some (.slice ao0 L0.length ac0) := by go_cell
      have a13_1 : (w.alloc (.cells #[.int .i64 i0, .int .i64 i1, .int .i64 i2, .int .i64 i3, .int .i64 i4, .int .i64 i5, .int .i64 i6, .int .i64 i7, .int .i64 i8, .int .i64 i9, .int .i64 i10, .int .i64 i11, .slice ao0 L0.length ac0, .slice ao1 L1.length ac1, .int .i64 i12] 32)).cell? ⟨w.heap.size, 13, none⟩ = some (.slice ao1 L1.length ac1) := by go_cell
      have a14_1 : (w.alloc (.cells #[.int .i64 i0, .int .i64 i1, .int .i64 i2, .int .i64 i3, .int .i64 i4, .int .i64 i5, .int .i64 i6, .int .i64 i7, .int .i64 i8, .int .i64 i9, .int .i64 i10, .int .i64 i11, .slice ao0 L0.length ac0, .slice ao1 L1.length ac1, .int .i64 i12] 32)).cell? ⟨w.heap.size, 14, none⟩ = some (.int .i64 i12) := by go_cell
      have al_1 : w.heap.size < (w.alloc (.cells #[.int .i64 i0, .int .i64 i1, .int .i64 i2, .int .i64 i3, .int .i64 i4, .int .i64 i5, .int .i64 i6, .int .i64 i7, .int .i64 i8, .int .i64 i9, .int .i64 i10, .int .i64 i11, .slice ao0 L0.length ac0, .slice ao1 L1.length ac1, .int .i64 i12] 32)).heap.size := by first | (simp; done) | (simp; omega)
      have c1 : Below w.heap.size w (w.alloc (.cells #[.int .i64 i0, .int .i64 i1, .int .i64 i2, .int .i64 i3, .int .i64 i4, .int .i64 i5, .int .i64 i6, .int .i64 i7, .int .i64 i8, .int .i64 i9, .int .i64 i10, .int .i64 i11, .slice ao0 L0.length ac0, .slice ao1 L1.length ac1, .int .i64 i12] 32)) := by go_grown
      have s1 : (w.alloc (.cells #[.int .i64 i0, .int .i64 i1, .int .i64 i2, .int .i64 i3, .int .i64 i4, .int .i64 i5, .int .i64 i6, .int .i64 i7, .int .i64 i8, .int .i64 i9, .int .i64 i10, .int .i64 i11, .slice ao0 L0.length ac0, .slice ao1 L1.length ac1, .int .i64 i12] 32)).heap.size = w.heap.size + 1 := by simp
      generalize (w.alloc (.cells #[.int .i64 i0, .int .i64 i1, .int .i64 i2, .int .i64 i3, .int .i64 i4, .int .i64 i5, .int .i64 i6, .int .i64 i7, .int .i64 i8, .int .i64 i9, .int .i64 i10, .int .i64 i11, .slice ao0 L0.length ac0, .slice ao1 L1.length ac1, .int .i64 i12] 32)) = w1 at a0_1 a1_1 a2_1 a3_1 a4_1 a5_1 a6_1 a7_1 a8_1 a9_1 a10_1 a11_1 a12_1 a13_1 a14_1 al_1 c1 s1 ⊢
      have qa0_1 := cell_regrown a0_1
      have qa1_1 := cell_regrown a1_1
      have qa2_1 := cell_regrown a2_1
      have qa3_1 := cell_regrown a3_1
      have qa4_1 := cell_regrown a4_1
      have qa5_1 := cell_regrown a5_1
      have qa6_1 := cell_regrown a6_1
      have qa7_1 := cell_regrown a7_1
      have qa8_1 := cell_regrown a8_1
      have qa9_1 := cell_regrown a9_1
      have qa10_1 := cell_regrown a10_1
      have qa11_1 := cell_regrown a11_1
      have qa12_1 := cell_regrown a12_1
      have qa13_1 := cell_regrown a13_1
      have qa14_1 := cell_regrown a14_1
      refine wp_region_quiet_below (by kernel_rfl) (by kernel_rfl) ?_
      repeat (first | go_big_quiet_skip | (go_big_quiet_want; go_big_quiet_op; first | go_big_quiet_on | go_big_quiet_call (first | (go_at_call 76; exact Calls.regrown_of (specShard_b i9 _)))))
      refine wpQuiet_nil ?_
      rintro wq ⟨pq, hwq⟩
      have hq : Below w1.heap.size w1 wq := by rw [hwq]; exact below_regrown _ _ _
      clear hwq pq
      go_wp2
      go_ret
      exact ⟨by simp, c1.trans (hq.mono c1.size)⟩
  · have hz : zK i2 i9 i10 i11 L0 = false := decide_eq_false (fun h => hp h.1)
    have hb : (partOf i9 == i2) = false := by simpa using hp
    rw [hz]
    clear hz hv hp
    go_enter Tryz.func78, Tryz.ntmps78
    go_wp2_with fail
    have a0_1 : (w.alloc (.cells #[.int .i64 i0, .int .i64 i1, .int .i64 i2, .int .i64 i3, .int .i64 i4, .int .i64 i5, .int .i64 i6, .int .i64 i7, .int .i64 i8, .int .i64 i9, .int .i64 i10, .int .i64 i11, .slice ao0 L0.length ac0, .slice ao1 L1.length ac1, .int .i64 i12] 32)).cell? ⟨w.heap.size, 0, none⟩ = some (.int .i64 i0) := by go_cell
    have a1_1 : (w.alloc (.cells #[.int .i64 i0, .int .i64 i1, .int .i64 i2, .int .i64 i3, .int .i64 i4, .int .i64 i5, .int .i64 i6, .int .i64 i7, .int .i64 i8, .int .i64 i9, .int .i64 i10, .int .i64 i11, .slice ao0 L0.length ac0, .slice ao1 L1.length ac1, .int .i64 i12] 32)).cell? ⟨w.heap.size, 1, none⟩ = some (.int .i64 i1) := by go_cell
    have a2_1 : (w.alloc (.cells #[.int .i64 i0, .int .i64 i1, .int .i64 i2, .int .i64 i3, .int .i64 i4, .int .i64 i5, .int .i64 i6, .int .i64 i7, .int .i64 i8, .int .i64 i9, .int .i64 i10, .int .i64 i11, .slice ao0 L0.length ac0, .slice ao1 L1.length ac1, .int .i64 i12] 32)).cell? ⟨w.heap.size, 2, none⟩ = some (.int .i64 i2) := by go_cell
    have a3_1 : (w.alloc (.cells #[.int .i64 i0, .int .i64 i1, .int .i64 i2, .int .i64 i3, .int .i64 i4, .int .i64 i5, .int .i64 i6, .int .i64 i7, .int .i64 i8, .int .i64 i9, .int .i64 i10, .int .i64 i11, .slice ao0 L0.length ac0, .slice ao1 L1.length ac1, .int .i64 i12] 32)).cell? ⟨w.heap.size, 3, none⟩ = some (.int .i64 i3) := by go_cell
    have a4_1 : (w.alloc (.cells #[.int .i64 i0, .int .i64 i1, .int .i64 i2, .int .i64 i3, .int .i64 i4, .int .i64 i5, .int .i64 i6, .int .i64 i7, .int .i64 i8, .int .i64 i9, .int .i64 i10, .int .i64 i11, .slice ao0 L0.length ac0, .slice ao1 L1.length ac1, .int .i64 i12] 32)).cell? ⟨w.heap.size, 4, none⟩ = some (.int .i64 i4) := by go_cell
    have a5_1 : (w.alloc (.cells #[.int .i64 i0, .int .i64 i1, .int .i64 i2, .int .i64 i3, .int .i64 i4, .int .i64 i5, .int .i64 i6, .int .i64 i7, .int .i64 i8, .int .i64 i9, .int .i64 i10, .int .i64 i11, .slice ao0 L0.length ac0, .slice ao1 L1.length ac1, .int .i64 i12] 32)).cell? ⟨w.heap.size, 5, none⟩ = some (.int .i64 i5) := by go_cell
    have a6_1 : (w.alloc (.cells #[.int .i64 i0, .int .i64 i1, .int .i64 i2, .int .i64 i3, .int .i64 i4, .int .i64 i5, .int .i64 i6, .int .i64 i7, .int .i64 i8, .int .i64 i9, .int .i64 i10, .int .i64 i11, .slice ao0 L0.length ac0, .slice ao1 L1.length ac1, .int .i64 i12] 32)).cell? ⟨w.heap.size, 6, none⟩ = some (.int .i64 i6) := by go_cell
    have a7_1 : (w.alloc (.cells #[.int .i64 i0, .int .i64 i1, .int .i64 i2, .int .i64 i3, .int .i64 i4, .int .i64 i5, .int .i64 i6, .int .i64 i7, .int .i64 i8, .int .i64 i9, .int .i64 i10, .int .i64 i11, .slice ao0 L0.length ac0, .slice ao1 L1.length ac1, .int .i64 i12] 32)).cell? ⟨w.heap.size, 7, none⟩ = some (.int .i64 i7) := by go_cell
    have a8_1 : (w.alloc (.cells #[.int .i64 i0, .int .i64 i1, .int .i64 i2, .int .i64 i3, .int .i64 i4, .int .i64 i5, .int .i64 i6, .int .i64 i7, .int .i64 i8, .int .i64 i9, .int .i64 i10, .int .i64 i11, .slice ao0 L0.length ac0, .slice ao1 L1.length ac1, .int .i64 i12] 32)).cell? ⟨w.heap.size, 8, none⟩ = some (.int .i64 i8) := by go_cell
    have a9_1 : (w.alloc (.cells #[.int .i64 i0, .int .i64 i1, .int .i64 i2, .int .i64 i3, .int .i64 i4, .int .i64 i5, .int .i64 i6, .int .i64 i7, .int .i64 i8, .int .i64 i9, .int .i64 i10, .int .i64 i11, .slice ao0 L0.length ac0, .slice ao1 L1.length ac1, .int .i64 i12] 32)).cell? ⟨w.heap.size, 9, none⟩ = some (.int .i64 i9) := by go_cell
    have a10_1 : (w.alloc (.cells #[.int .i64 i0, .int .i64 i1, .int .i64 i2, .int .i64 i3, .int .i64 i4, .int .i64 i5, .int .i64 i6, .int .i64 i7, .int .i64 i8, .int .i64 i9, .int .i64 i10, .int .i64 i11, .slice ao0 L0.length ac0, .slice ao1 L1.length ac1, .int .i64 i12] 32)).cell? ⟨w.heap.size, 10, none⟩ = some (.int .i64 i10) := by go_cell
    have a11_1 : (w.alloc (.cells #[.int .i64 i0, .int .i64 i1, .int .i64 i2, .int .i64 i3, .int .i64 i4, .int .i64 i5, .int .i64 i6, .int .i64 i7, .int .i64 i8, .int .i64 i9, .int .i64 i10, .int .i64 i11, .slice ao0 L0.length ac0, .slice ao1 L1.length ac1, .int .i64 i12] 32)).cell? ⟨w.heap.size, 11, none⟩ = some (.int .i64 i11) := by go_cell
    have a12_1 : (w.alloc (.cells #[.int .i64 i0, .int .i64 i1, .int .i64 i2, .int .i64 i3, .int .i64 i4, .int .i64 i5, .int .i64 i6, .int .i64 i7, .int .i64 i8, .int .i64 i9, .int .i64 i10, .int .i64 i11, .slice ao0 L0.length ac0, .slice ao1 L1.length ac1, .int .i64 i12] 32)).cell? ⟨w.heap.size, 12, none⟩ = some (.slice ao0 L0.length ac0) := by go_cell
    have a13_1 : (w.alloc (.cells #[.int .i64 i0, .int .i64 i1, .int .i64 i2, .int .i64 i3, .int .i64 i4, .int .i64 i5, .int .i64 i6, .int .i64 i7, .int .i64 i8, .int .i64 i9, .int .i64 i10, .int .i64 i11, .slice ao0 L0.length ac0, .slice ao1 L1.length ac1, .int .i64 i12] 32)).cell? ⟨w.heap.size, 13, none⟩ = some (.slice ao1 L1.length ac1) := by go_cell
    have a14_1 : (w.alloc (.cells #[.int .i64 i0, .int .i64 i1, .int .i64 i2, .int .i64 i3, .int .i64 i4, .int .i64 i5, .int .i64 i6, .int .i64 i7, .int .i64 i8, .int .i64 i9, .int .i64 i10, .int .i64 i11, .slice ao0 L0.length ac0, .slice ao1 L1.length ac1, .int .i64 i12] 32)).cell? ⟨w.heap.size, 14, none⟩ = some (.int .i64 i12) := by go_cell
    have al_1 : w.heap.size < (w.alloc (.cells #[.int .i64 i0, .int .i64 i1, .int .i64 i2, .int .i64 i3, .int .i64 i4, .int .i64 i5, .int .i64 i6, .int .i64 i7, .int .i64 i8, .int .i64 i9, .int .i64 i10, .int .i64 i11, .slice ao0 L0.length ac0, .slice ao1 L1.length ac1, .int .i64 i12] 32)).heap.size := by first | (simp; done) | (simp; omega)
    have c1 : Below w.heap.size w (w.alloc (.cells #[.int .i64 i0, .int .i64 i1, .int .i64 i2, .int .i64 i3, .int .i64 i4, .int .i64 i5, .int .i64 i6, .int .i64 i7, .int .i64 i8, .int .i64 i9, .int .i64 i10, .int .i64 i11, .slice ao0 L0.length ac0, .slice ao1 L1.length ac1, .int .i64 i12] 32)) := by go_grown
    have s1 : (w.alloc (.cells #[.int .i64 i0, .int .i64 i1, .int .i64 i2, .int .i64 i3, .int .i64 i4, .int .i64 i5, .int .i64 i6, .int .i64 i7, .int .i64 i8, .int .i64 i9, .int .i64 i10, .int .i64 i11, .slice ao0 L0.length ac0, .slice ao1 L1.length ac1, .int .i64 i12] 32)).heap.size = w.heap.size + 1 := by simp
    generalize (w.alloc (.cells #[.int .i64 i0, .int .i64 i1, .int .i64 i2, .int .i64 i3, .int .i64 i4, .int .i64 i5, .int .i64 i6, .int .i64 i7, .int .i64 i8, .int .i64 i9, .int .i64 i10, .int .i64 i11, .slice ao0 L0.length ac0, .slice ao1 L1.length ac1, .int .i64 i12] 32)) = w1 at a0_1 a1_1 a2_1 a3_1 a4_1 a5_1 a6_1 a7_1 a8_1 a9_1 a10_1 a11_1 a12_1 a13_1 a14_1 al_1 c1 s1 ⊢
    have qa0_1 := cell_regrown a0_1
    have qa1_1 := cell_regrown a1_1
    have qa2_1 := cell_regrown a2_1
    have qa3_1 := cell_regrown a3_1
    have qa4_1 := cell_regrown a4_1
    have qa5_1 := cell_regrown a5_1
    have qa6_1 := cell_regrown a6_1
    have qa7_1 := cell_regrown a7_1
    have qa8_1 := cell_regrown a8_1
    have qa9_1 := cell_regrown a9_1
    have qa10_1 := cell_regrown a10_1
    have qa11_1 := cell_regrown a11_1
    have qa12_1 := cell_regrown a12_1
    have qa13_1 := cell_regrown a13_1
    have qa14_1 := cell_regrown a14_1
    refine wp_region_quiet_below (by kernel_rfl) (by kernel_rfl) ?_
    repeat (first | go_big_quiet_skip | (go_big_quiet_want; go_big_quiet_op; first | go_big_quiet_on | go_big_quiet_call (first | (go_at_call 76; exact Calls.regrown_of (specShard_b i9 _)))))
    refine wpQuiet_nil ?_
    rintro wq ⟨pq, hwq⟩
    have hq : Below w1.heap.size w1 wq := by rw [hwq]; exact below_regrown _ _ _
    clear hwq pq
    go_wp2
    go_ret
    exact ⟨by simp, c1.trans (hq.mono c1.size)⟩
set_option maxHeartbeats 1000000 in
theorem containsBad_any (v : Value) (L : List KD) (w : World) (h : RdM 1 1 false w v L) :
    Calls Tryz.prog 127 #[v, .func (.func 126) #[] #[]] w fun e w' => (∃ b : Bool, e = .returned (.bool b) ∧ Hid (b = false ↔ FlrTo L L.length)) ∧ Below w.heap.size w w' := by
  have HR := hid h
  obtain ⟨ao, cap, rfl, _⟩ := h
  go_enter Tryz.func127, Tryz.ntmps127
  go_wp2_with fail
  refine (indexBad_any _ L _ HR.out).mono ?_
  rintro e w2 ⟨hF, b2⟩
  rcases hF with ⟨hf, rfl⟩ | ⟨hf, n, rfl⟩
  · have HF := hid hf
    clear hf
    go_wp2_with fail
    go_ret
    exact ⟨⟨false, by simp, hid (by simp [HF.out])⟩, b2⟩
  · have HF := hid hf
    clear hf
    have hn : decide ((n : Int) ≥ 0) = true := by simp
    go_wp2_with fail
    go_ret
    exact ⟨⟨true, by simp, hid (by simp [HF.out])⟩, b2⟩
set_option maxHeartbeats 1000000 in
theorem floorsRight_any (v : Value) (L : List KD) (w : World) (h : RdM 1 1 false w v L) :
    Calls Tryz.prog 104 #[v] w fun e w' => e = .returned (.bool (vsR L)) ∧ Below w.heap.size w w' := by
  have HR := hid h
  obtain ⟨ao, cap, rfl, _⟩ := h
  have hmf : ∀ (fn : Fn) (first cap : Array Value) (w : World), (Instr.makeFunc fn first cap).run Tryz.prog w = .ok (.func fn first cap) w := fun _ _ _ _ => rfl
  by_cases h24 : L.length = 24
  · have H24 := hid h24
    have hne : ((L.length : Int) == 24) = true := by simp [h24]
    clear h24
    go_enter Tryz.func104, Tryz.ntmps104
    go_wp2_with fail
    refine (containsBad_any _ L _ (HR.out.later (by go_grown))).mono ?_
    rintro e w2 ⟨⟨b, rfl, hb⟩, b2⟩
    have bb : Below w.heap.size w w2 := (Below.trans (by go_grown) (b2.mono (by first | omega | (simp; done) | (simp; omega))))
    have hv : vsR L = !b := by
      have h1 := H24.out
      have h2 := hb.out
      rw [h1] at h2
      cases b with
      | false => exact decide_eq_true ⟨h1, h2.1 rfl⟩
      | true => exact decide_eq_false (fun h => by have := h2.2 h.2; cases this)
    have HV := hid hv
    clear hb hv
    go_wp2_with fail
    go_ret
    exact ⟨by simp [HV.out], bb⟩
  · have hno : vsR L = false := decide_eq_false (fun h => h24 h.1)
    have hne : ((L.length : Int) == 24) = false := by simp; omega
    go_enter Tryz.func104, Tryz.ntmps104
    go_wp2
    go_ret
    exact ⟨by simp [hno], by go_grown⟩
end Go.Proofs.YtfdcnolcjgjfjaaGreatDoor
