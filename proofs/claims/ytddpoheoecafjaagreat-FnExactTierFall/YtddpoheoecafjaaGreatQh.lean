/- spec.l8Copy, spec.TierFall: contracts. Written by a program (gqg.py). -/
import Derived.Test.YtddpoheoecafjaaGreatQf
import Derived.Test.YtddpoheoecafjaaGreatXn
import Derived.Test.YtddpoheoecafjaaGreatZa
namespace Go.Proofs.YtddpoheoecafjaaGreat
open Go.RowKit
attribute [local go_sem ↓] Go.wp_at_zero Go.wp_at_succ

theorem okT_parts' {i0 i1 i2 : Int} {q0 q1 q2 q3 : Bool} {i3 i4 i5 i6 i7 : Int} {I F : List KD} (h : okT i0 i1 i2 q0 q1 q2 q3 i3 i4 i5 i6 i7 I F = true) : (0 ≤ i1 ∧ i1 ≤ 1000) ∧ okC I F = true := by
  simp only [okT, Bool.and_eq_true, decide_eq_true_eq] at h
  exact ⟨⟨h.1.1.2.2.1, h.1.1.2.2.2.1⟩, h.2⟩
theorem specTOk_is {i0 i1 i2 : Int} {q0 q1 q2 q3 : Bool} {i3 i4 i5 i6 i7 : Int} {va0 va1 : Value} {I F : List KD} {r : Bool} (h : okT i0 i1 i2 q0 q1 q2 q3 i3 i4 i5 i6 i7 I F = r) (w : World) (ha : RSCache w va0 va1 I F) : Calls Tryz.prog 9 #[.agg #[.int .i64 i0, .int .i64 i1, .int .i64 i2, .bool q0, .bool q1, .bool q2, .bool q3, .int .i64 i3, .int .i64 i4, .int .i64 i5, .int .i64 i6, .int .i64 i7, va0, va1]] w fun e w' => e = .returned (.bool r) ∧ Below w.heap.size w w' := h ▸ specTOk_any i0 i1 i2 q0 q1 q2 q3 i3 i4 i5 i6 i7 va0 va1 I F w ha
theorem RdK.weak {G H : Nat → Prop} {w : World} {v : Value} {L : List KD} (h : RdK G w v L) (hh : ∀ q, H q → G q) : RdK H w v L := by
  obtain ⟨ao, cap, e, hl, hc, hr, hv⟩ := h
  exact ⟨ao, cap, e, hl, fun h0 => by
    obtain ⟨b, off, e1, hb, hg, hi⟩ := hc h0
    exact ⟨b, off, e1, hb, fun q => hg (hh _ q), fun i hI => by
      obtain ⟨p0, p1, p2, l, u, e2, c0, c1, c2, c3, hu, hq⟩ := hi i hI
      exact ⟨p0, p1, p2, l, u, e2, c0, c1, c2, c3, hu, fun h1 q hq1 => ⟨fun z => (hq h1 q hq1).1 (hh _ z), (hq h1 q hq1).2⟩⟩⟩, hr, fun q hq z => hv q hq (hh _ z)⟩
/-- What a copy of a cache owns: it reads so whatever is stored below block B. -/
structure CopyO (B : Nat) (w : World) (v : Value) (g c : Nat) (I F : List KD) : Prop where
  k : RdK (fun q => q < B) w v I
  f : w.ownsRow B 3 1 (.slice (some ⟨g, 0, none⟩) 24 c) 24 (floC F)
  ff : FloF F
theorem copyOwn {B g N c : Nat} {w : World} {v : Value} {I F : List KD} (hk : RdK (fun q => q < N) w v I) (hf : w.ownsRow B 3 1 (.slice (some ⟨g, 0, none⟩) 24 c) 24 (floC F)) (hF : FloF F) (h0 : B ≤ g) (h1 : g < N) : CopyO B w v g c I F :=
  ⟨RdK.weak hk (fun _ hq => Nat.lt_trans hq (Nat.lt_of_le_of_lt h0 h1)), hf, hF⟩
theorem CopyO.set {B g c : Nat} {w : World} {v : Value} {I F : List KD} (h : CopyO B w v g c I F) {p : Addr} (hp : p.block < B) (u : Value) : CopyO B (w.setCell p u) v g c I F :=
  ⟨h.k.only (Only.set (F := fun q => q < B) w hp u), row_agree h.f (fun k hk => Below.heap_setCell _ _ _ _ (by have := (World.ownsRow.lt h.f k hk).1; omega)), h.ff⟩
theorem row_low {w : World} {B B' n sz : Nat} {e : TypeId} {v : Value} {xs : List Value} (h : w.ownsRow B e sz v n xs) (hB : B' ≤ B) : w.ownsRow B' e sz v n xs := by
  refine ⟨h.1, ?_⟩
  rcases h.2 with hn | ⟨g, cap, cur, rfl, hbg, rest⟩
  · exact .inl hn
  · exact .inr ⟨g, cap, cur, rfl, Nat.le_trans hB hbg, rest⟩
theorem CopyO.low {B B' g c : Nat} {w : World} {v : Value} {I F : List KD} (h : CopyO B w v g c I F) (hb : B' ≤ B) : CopyO B' w v g c I F := ⟨h.k.weak (fun _ hq => Nat.lt_of_lt_of_le hq hb), row_low h.f hb, h.ff⟩
theorem CopyO.later {B g c : Nat} {w w' : World} {v : Value} {I F : List KD} (h : CopyO B w v g c I F) (hb : Below w.heap.size w w') : CopyO B w' v g c I F := ⟨h.k.later hb, row_agree h.f (fun k hk => hb.block k (World.ownsRow.lt h.f k hk).2), h.ff⟩
theorem CopyO.rs {B g c : Nat} {w : World} {v : Value} {I F : List KD} (h : CopyO B w v g c I F) : RSCache w v (.slice (some ⟨g, 0, none⟩) 24 c) I F := ⟨h.k.rd, rowF_rd h.f h.ff⟩
set_option maxRecDepth 100000 in
set_option maxHeartbeats 4000000 in
theorem l8Copy_any (i0 i1 i2 : Int) (q0 q1 q2 q3 : Bool) (i3 i4 i5 i6 i7 : Int) (va0 va1 : Value) (I F : List KD) (w : World) (ha : RSCache w va0 va1 I F) (hok : okC I F = true) :
    Calls Tryz.prog 44 #[.agg #[.int .i64 i0, .int .i64 i1, .int .i64 i2, .bool q0, .bool q1, .bool q2, .bool q3, .int .i64 i3, .int .i64 i4, .int .i64 i5, .int .i64 i6, .int .i64 i7, va0, va1]] w fun e w' => (∃ (so : Option Addr) (sc g c : Nat), e = .returned (.agg #[.int .i64 i0, .int .i64 i1, .int .i64 i2, .bool q0, .bool q1, .bool q2, .bool q3, .int .i64 i3, .int .i64 i4, .int .i64 i5, .int .i64 i6, .int .i64 i7, .slice so I.length sc, .slice (some ⟨g, 0, none⟩) 24 c]) ∧ CopyO w.heap.size w' (.slice so I.length sc) g c I F) ∧ Below w.heap.size w w' := by
  have HA := hid ha
  have hF := floF_of ha.h1 (okC_iff.1 hok).1
  have hI := okC_small hok
  have HF := hid hF
  have HI := hid hI
  obtain ⟨ao0, ao1, ac0, ac1, rfl, rfl⟩ := ha.open
  clear ha hok hF hI
  go_enter Tryz.func44, Tryz.ntmps44
  go_wp2_with fail
  generalize hW1 : (((w.alloc (.cells #[.int .i64 i0, .int .i64 i1, .int .i64 i2, .bool q0, .bool q1, .bool q2, .bool q3, .int .i64 i3, .int .i64 i4, .int .i64 i5, .int .i64 i6, .int .i64 i7, .slice ao0 I.length ac0, .slice ao1 F.length ac1] 38)).alloc (.cells #[.int .i64 0, .int .i64 0, .int .i64 0, .bool false, .bool false, .bool false, .bool false, .int .i64 0, .int .i64 0, .int .i64 0, .int .i64 0, .int .i64 0, .slice none 0 0, .slice none 0 0] 38)).alloc (.cells #[.int .i64 i0, .int .i64 i1, .int .i64 i2, .bool q0, .bool q1, .bool q2, .bool q3, .int .i64 i3, .int .i64 i4, .int .i64 i5, .int .i64 i6, .int .i64 i7, .slice ao0 I.length ac0, .slice ao1 F.length ac1] 38)) = w1
  have a0_1 : w1.cell? ⟨w.heap.size, 0, none⟩ = some (.int .i64 i0) := by subst hW1; go_cell
  have a1_1 : w1.cell? ⟨w.heap.size, 1, none⟩ = some (.int .i64 i1) := by subst hW1; go_cell
  have a2_1 : w1.cell? ⟨w.heap.size, 2, none⟩ = some (.int .i64 i2) := by subst hW1; go_cell
  have a3_1 : w1.cell? ⟨w.heap.size, 3, none⟩ = some (.bool q0) := by subst hW1; go_cell
  have a4_1 : w1.cell? ⟨w.heap.size, 4, none⟩ = some (.bool q1) := by subst hW1; go_cell
  have a5_1 : w1.cell? ⟨w.heap.size, 5, none⟩ = some (.bool q2) := by subst hW1; go_cell
  have a6_1 : w1.cell? ⟨w.heap.size, 6, none⟩ = some (.bool q3) := by subst hW1; go_cell
  have a7_1 : w1.cell? ⟨w.heap.size, 7, none⟩ = some (.int .i64 i3) := by subst hW1; go_cell
  have a8_1 : w1.cell? ⟨w.heap.size, 8, none⟩ = some (.int .i64 i4) := by subst hW1; go_cell
  have a9_1 : w1.cell? ⟨w.heap.size, 9, none⟩ = some (.int .i64 i5) := by subst hW1; go_cell
  have a10_1 : w1.cell? ⟨w.heap.size, 10, none⟩ = some (.int .i64 i6) := by subst hW1; go_cell
  have a11_1 : w1.cell? ⟨w.heap.size, 11, none⟩ = some (.int .i64 i7) := by subst hW1; go_cell
  have a12_1 : w1.cell? ⟨w.heap.size, 12, none⟩ = some (.slice ao0 I.length ac0) := by subst hW1; go_cell
  have a13_1 : w1.cell? ⟨w.heap.size, 13, none⟩ = some (.slice ao1 F.length ac1) := by subst hW1; go_cell
  have al_1 : w.heap.size < w1.heap.size := by subst hW1; first | (simp; done) | (simp; omega)
  have r0_1 : w1.cell? ⟨w.heap.size + 1, 0, none⟩ = some (.int .i64 0) := by subst hW1; go_cell
  have rf0_1 : w1.frozen? ⟨w.heap.size + 1, 0, none⟩ = false := by subst hW1; (first | go_cell | (simp [World.frozen?, World.alloc]; done) | rfl)
  have r1_1 : w1.cell? ⟨w.heap.size + 1, 1, none⟩ = some (.int .i64 0) := by subst hW1; go_cell
  have rf1_1 : w1.frozen? ⟨w.heap.size + 1, 1, none⟩ = false := by subst hW1; (first | go_cell | (simp [World.frozen?, World.alloc]; done) | rfl)
  have r2_1 : w1.cell? ⟨w.heap.size + 1, 2, none⟩ = some (.int .i64 0) := by subst hW1; go_cell
  have rf2_1 : w1.frozen? ⟨w.heap.size + 1, 2, none⟩ = false := by subst hW1; (first | go_cell | (simp [World.frozen?, World.alloc]; done) | rfl)
  have r3_1 : w1.cell? ⟨w.heap.size + 1, 3, none⟩ = some (.bool false) := by subst hW1; go_cell
  have rf3_1 : w1.frozen? ⟨w.heap.size + 1, 3, none⟩ = false := by subst hW1; (first | go_cell | (simp [World.frozen?, World.alloc]; done) | rfl)
  have r4_1 : w1.cell? ⟨w.heap.size + 1, 4, none⟩ = some (.bool false) := by subst hW1; go_cell
  have rf4_1 : w1.frozen? ⟨w.heap.size + 1, 4, none⟩ = false := by subst hW1; (first | go_cell | (simp [World.frozen?, World.alloc]; done) | rfl)
  have r5_1 : w1.cell? ⟨w.heap.size + 1, 5, none⟩ = some (.bool false) := by subst hW1; go_cell
  have rf5_1 : w1.frozen? ⟨w.heap.size + 1, 5, none⟩ = false := by subst hW1; (first | go_cell | (simp [World.frozen?, World.alloc]; done) | rfl)
  have r6_1 : w1.cell? ⟨w.heap.size + 1, 6, none⟩ = some (.bool false) := by subst hW1; go_cell
  have rf6_1 : w1.frozen? ⟨w.heap.size + 1, 6, none⟩ = false := by subst hW1; (first | go_cell | (simp [World.frozen?, World.alloc]; done) | rfl)
  have r7_1 : w1.cell? ⟨w.heap.size + 1, 7, none⟩ = some (.int .i64 0) := by subst hW1; go_cell
  have rf7_1 : w1.frozen? ⟨w.heap.size + 1, 7, none⟩ = false := by subst hW1; (first | go_cell | (simp [World.frozen?, World.alloc]; done) | rfl)
  have r8_1 : w1.cell? ⟨w.heap.size + 1, 8, none⟩ = some (.int .i64 0) := by subst hW1; go_cell
  have rf8_1 : w1.frozen? ⟨w.heap.size + 1, 8, none⟩ = false := by subst hW1; (first | go_cell | (simp [World.frozen?, World.alloc]; done) | rfl)
  have r9_1 : w1.cell? ⟨w.heap.size + 1, 9, none⟩ = some (.int .i64 0) := by subst hW1; go_cell
  have rf9_1 : w1.frozen? ⟨w.heap.size + 1, 9, none⟩ = false := by subst hW1; (first | go_cell | (simp [World.frozen?, World.alloc]; done) | rfl)
  have r10_1 : w1.cell? ⟨w.heap.size + 1, 10, none⟩ = some (.int .i64 0) := by subst hW1; go_cell
  have rf10_1 : w1.frozen? ⟨w.heap.size + 1, 10, none⟩ = false := by subst hW1; (first | go_cell | (simp [World.frozen?, World.alloc]; done) | rfl)
  have r11_1 : w1.cell? ⟨w.heap.size + 1, 11, none⟩ = some (.int .i64 0) := by subst hW1; go_cell
  have rf11_1 : w1.frozen? ⟨w.heap.size + 1, 11, none⟩ = false := by subst hW1; (first | go_cell | (simp [World.frozen?, World.alloc]; done) | rfl)
  have r12_1 : w1.cell? ⟨w.heap.size + 1, 12, none⟩ = some (.slice none 0 0) := by subst hW1; go_cell
  have rf12_1 : w1.frozen? ⟨w.heap.size + 1, 12, none⟩ = false := by subst hW1; (first | go_cell | (simp [World.frozen?, World.alloc]; done) | rfl)
  have r13_1 : w1.cell? ⟨w.heap.size + 1, 13, none⟩ = some (.slice none 0 0) := by subst hW1; go_cell
  have rf13_1 : w1.frozen? ⟨w.heap.size + 1, 13, none⟩ = false := by subst hW1; (first | go_cell | (simp [World.frozen?, World.alloc]; done) | rfl)
  have rl_1 : w.heap.size + 1 < w1.heap.size := by subst hW1; first | (simp; done) | (simp; omega)
  have o0_1 : w1.cell? ⟨w.heap.size + 1 + 1, 0, none⟩ = some (.int .i64 i0) := by subst hW1; go_cell
  have of0_1 : w1.frozen? ⟨w.heap.size + 1 + 1, 0, none⟩ = false := by subst hW1; (first | go_cell | (simp [World.frozen?, World.alloc]; done) | rfl)
  have o1_1 : w1.cell? ⟨w.heap.size + 1 + 1, 1, none⟩ = some (.int .i64 i1) := by subst hW1; go_cell
  have of1_1 : w1.frozen? ⟨w.heap.size + 1 + 1, 1, none⟩ = false := by subst hW1; (first | go_cell | (simp [World.frozen?, World.alloc]; done) | rfl)
  have o2_1 : w1.cell? ⟨w.heap.size + 1 + 1, 2, none⟩ = some (.int .i64 i2) := by subst hW1; go_cell
  have of2_1 : w1.frozen? ⟨w.heap.size + 1 + 1, 2, none⟩ = false := by subst hW1; (first | go_cell | (simp [World.frozen?, World.alloc]; done) | rfl)
  have o3_1 : w1.cell? ⟨w.heap.size + 1 + 1, 3, none⟩ = some (.bool q0) := by subst hW1; go_cell
  have of3_1 : w1.frozen? ⟨w.heap.size + 1 + 1, 3, none⟩ = false := by subst hW1; (first | go_cell | (simp [World.frozen?, World.alloc]; done) | rfl)
  have o4_1 : w1.cell? ⟨w.heap.size + 1 + 1, 4, none⟩ = some (.bool q1) := by subst hW1; go_cell
  have of4_1 : w1.frozen? ⟨w.heap.size + 1 + 1, 4, none⟩ = false := by subst hW1; (first | go_cell | (simp [World.frozen?, World.alloc]; done) | rfl)
  have o5_1 : w1.cell? ⟨w.heap.size + 1 + 1, 5, none⟩ = some (.bool q2) := by subst hW1; go_cell
  have of5_1 : w1.frozen? ⟨w.heap.size + 1 + 1, 5, none⟩ = false := by subst hW1; (first | go_cell | (simp [World.frozen?, World.alloc]; done) | rfl)
  have o6_1 : w1.cell? ⟨w.heap.size + 1 + 1, 6, none⟩ = some (.bool q3) := by subst hW1; go_cell
  have of6_1 : w1.frozen? ⟨w.heap.size + 1 + 1, 6, none⟩ = false := by subst hW1; (first | go_cell | (simp [World.frozen?, World.alloc]; done) | rfl)
  have o7_1 : w1.cell? ⟨w.heap.size + 1 + 1, 7, none⟩ = some (.int .i64 i3) := by subst hW1; go_cell
  have of7_1 : w1.frozen? ⟨w.heap.size + 1 + 1, 7, none⟩ = false := by subst hW1; (first | go_cell | (simp [World.frozen?, World.alloc]; done) | rfl)
  have o8_1 : w1.cell? ⟨w.heap.size + 1 + 1, 8, none⟩ = some (.int .i64 i4) := by subst hW1; go_cell
  have of8_1 : w1.frozen? ⟨w.heap.size + 1 + 1, 8, none⟩ = false := by subst hW1; (first | go_cell | (simp [World.frozen?, World.alloc]; done) | rfl)
  have o9_1 : w1.cell? ⟨w.heap.size + 1 + 1, 9, none⟩ = some (.int .i64 i5) := by subst hW1; go_cell
  have of9_1 : w1.frozen? ⟨w.heap.size + 1 + 1, 9, none⟩ = false := by subst hW1; (first | go_cell | (simp [World.frozen?, World.alloc]; done) | rfl)
  have o10_1 : w1.cell? ⟨w.heap.size + 1 + 1, 10, none⟩ = some (.int .i64 i6) := by subst hW1; go_cell
  have of10_1 : w1.frozen? ⟨w.heap.size + 1 + 1, 10, none⟩ = false := by subst hW1; (first | go_cell | (simp [World.frozen?, World.alloc]; done) | rfl)
  have o11_1 : w1.cell? ⟨w.heap.size + 1 + 1, 11, none⟩ = some (.int .i64 i7) := by subst hW1; go_cell
  have of11_1 : w1.frozen? ⟨w.heap.size + 1 + 1, 11, none⟩ = false := by subst hW1; (first | go_cell | (simp [World.frozen?, World.alloc]; done) | rfl)
  have o12_1 : w1.cell? ⟨w.heap.size + 1 + 1, 12, none⟩ = some (.slice ao0 I.length ac0) := by subst hW1; go_cell
  have of12_1 : w1.frozen? ⟨w.heap.size + 1 + 1, 12, none⟩ = false := by subst hW1; (first | go_cell | (simp [World.frozen?, World.alloc]; done) | rfl)
  have o13_1 : w1.cell? ⟨w.heap.size + 1 + 1, 13, none⟩ = some (.slice ao1 F.length ac1) := by subst hW1; go_cell
  have of13_1 : w1.frozen? ⟨w.heap.size + 1 + 1, 13, none⟩ = false := by subst hW1; (first | go_cell | (simp [World.frozen?, World.alloc]; done) | rfl)
  have ol_1 : w.heap.size + 1 + 1 < w1.heap.size := by subst hW1; first | (simp; done) | (simp; omega)
  have c1 : Below w.heap.size w w1 := by subst hW1; go_grown
  have s1 : w1.heap.size = w.heap.size + 3 := by subst hW1; simp
  clear hW1
  have qa0_1 := cell_regrown a0_1
  have qa1_1 := cell_regrown a1_1
  have qa2_1 := cell_regrown a2_1
  have qa3_1 := cell_regrown a3_1
  have qa4_1 := cell_regrown a4_1
  have qa5_1 := cell_regrown a5_1
  have qa6_1 := cell_regrown a6_1
  have qa7_1 := cell_regrown a7_1
  have qa8_1 := cell_regrown a8_1
  have qa9_1 := cell_regrown a9_1
  have qa10_1 := cell_regrown a10_1
  have qa11_1 := cell_regrown a11_1
  have qa12_1 := cell_regrown a12_1
  have qa13_1 := cell_regrown a13_1
  have qr0_1 := cell_regrown r0_1
  have qr1_1 := cell_regrown r1_1
  have qr2_1 := cell_regrown r2_1
  have qr3_1 := cell_regrown r3_1
  have qr4_1 := cell_regrown r4_1
  have qr5_1 := cell_regrown r5_1
  have qr6_1 := cell_regrown r6_1
  have qr7_1 := cell_regrown r7_1
  have qr8_1 := cell_regrown r8_1
  have qr9_1 := cell_regrown r9_1
  have qr10_1 := cell_regrown r10_1
  have qr11_1 := cell_regrown r11_1
  have qr12_1 := cell_regrown r12_1
  have qr13_1 := cell_regrown r13_1
  have qo0_1 := cell_regrown o0_1
  have qo1_1 := cell_regrown o1_1
  have qo2_1 := cell_regrown o2_1
  have qo3_1 := cell_regrown o3_1
  have qo4_1 := cell_regrown o4_1
  have qo5_1 := cell_regrown o5_1
  have qo6_1 := cell_regrown o6_1
  have qo7_1 := cell_regrown o7_1
  have qo8_1 := cell_regrown o8_1
  have qo9_1 := cell_regrown o9_1
  have qo10_1 := cell_regrown o10_1
  have qo11_1 := cell_regrown o11_1
  have qo12_1 := cell_regrown o12_1
  have qo13_1 := cell_regrown o13_1
  clear s1
  refine (l5Cache_any _ _ I F _ (HA.out.later c1).h0 (HA.out.later c1).h1 HF.out HI.out.1 HI.out.2).mono ?_
  rintro e w3 ⟨⟨v, g, c, N, rfl, hg0, hg1, hg2, hrow, hK⟩, b3⟩
  have HR3 := hid (show RSCache w3 v (.slice (some ⟨g, 0, none⟩) 24 c) I F from ⟨hK.rd, rowF_rd hrow HF.out⟩)
  obtain ⟨so, sc, hv, _⟩ := hK.rd
  subst hv
  have HK3 := hid hK
  have HW3 := hid hrow
  have HG := hid (And.intro hg0 (And.intro hg1 hg2))
  have hlo : w.heap.size + 1 + 1 < w1.heap.size := ol_1
  have d3 : Below w1.heap.size w1 w3 := (Below.trans (by go_grown) (b3.mono (by first | omega | (simp; done) | (simp; omega))))
  have c3 : Below w.heap.size w w3 := c1.trans (d3.mono c1.size)
  have r0_3 : w3.cell? ⟨w.heap.size + 1, 0, none⟩ = some (.int .i64 0) := (by rw [b3.cell (by first | omega | (simp; done) | (simp; omega))]; go_cell)
  have rf0_3 : w3.frozen? ⟨w.heap.size + 1, 0, none⟩ = false := (by rw [b3.frozen (by first | omega | (simp; done) | (simp; omega))]; (first | go_cell | (simp [World.frozen?, World.alloc]; done) | rfl))
  have r1_3 : w3.cell? ⟨w.heap.size + 1, 1, none⟩ = some (.int .i64 0) := (by rw [b3.cell (by first | omega | (simp; done) | (simp; omega))]; go_cell)
  have rf1_3 : w3.frozen? ⟨w.heap.size + 1, 1, none⟩ = false := (by rw [b3.frozen (by first | omega | (simp; done) | (simp; omega))]; (first | go_cell | (simp [World.frozen?, World.alloc]; done) | rfl))
  have r2_3 : w3.cell? ⟨w.heap.size + 1, 2, none⟩ = some (.int .i64 0) := (by rw [b3.cell (by first | omega | (simp; done) | (simp; omega))]; go_cell)
  have rf2_3 : w3.frozen? ⟨w.heap.size + 1, 2, none⟩ = false := (by rw [b3.frozen (by first | omega | (simp; done) | (simp; omega))]; (first | go_cell | (simp [World.frozen?, World.alloc]; done) | rfl))
  have r3_3 : w3.cell? ⟨w.heap.size + 1, 3, none⟩ = some (.bool false) := (by rw [b3.cell (by first | omega | (simp; done) | (simp; omega))]; go_cell)
  have rf3_3 : w3.frozen? ⟨w.heap.size + 1, 3, none⟩ = false := (by rw [b3.frozen (by first | omega | (simp; done) | (simp; omega))]; (first | go_cell | (simp [World.frozen?, World.alloc]; done) | rfl))
  have r4_3 : w3.cell? ⟨w.heap.size + 1, 4, none⟩ = some (.bool false) := (by rw [b3.cell (by first | omega | (simp; done) | (simp; omega))]; go_cell)
  have rf4_3 : w3.frozen? ⟨w.heap.size + 1, 4, none⟩ = false := (by rw [b3.frozen (by first | omega | (simp; done) | (simp; omega))]; (first | go_cell | (simp [World.frozen?, World.alloc]; done) | rfl))
  have r5_3 : w3.cell? ⟨w.heap.size + 1, 5, none⟩ = some (.bool false) := (by rw [b3.cell (by first | omega | (simp; done) | (simp; omega))]; go_cell)
  have rf5_3 : w3.frozen? ⟨w.heap.size + 1, 5, none⟩ = false := (by rw [b3.frozen (by first | omega | (simp; done) | (simp; omega))]; (first | go_cell | (simp [World.frozen?, World.alloc]; done) | rfl))
  have r6_3 : w3.cell? ⟨w.heap.size + 1, 6, none⟩ = some (.bool false) := (by rw [b3.cell (by first | omega | (simp; done) | (simp; omega))]; go_cell)
  have rf6_3 : w3.frozen? ⟨w.heap.size + 1, 6, none⟩ = false := (by rw [b3.frozen (by first | omega | (simp; done) | (simp; omega))]; (first | go_cell | (simp [World.frozen?, World.alloc]; done) | rfl))
  have r7_3 : w3.cell? ⟨w.heap.size + 1, 7, none⟩ = some (.int .i64 0) := (by rw [b3.cell (by first | omega | (simp; done) | (simp; omega))]; go_cell)
  have rf7_3 : w3.frozen? ⟨w.heap.size + 1, 7, none⟩ = false := (by rw [b3.frozen (by first | omega | (simp; done) | (simp; omega))]; (first | go_cell | (simp [World.frozen?, World.alloc]; done) | rfl))
  have r8_3 : w3.cell? ⟨w.heap.size + 1, 8, none⟩ = some (.int .i64 0) := (by rw [b3.cell (by first | omega | (simp; done) | (simp; omega))]; go_cell)
  have rf8_3 : w3.frozen? ⟨w.heap.size + 1, 8, none⟩ = false := (by rw [b3.frozen (by first | omega | (simp; done) | (simp; omega))]; (first | go_cell | (simp [World.frozen?, World.alloc]; done) | rfl))
  have r9_3 : w3.cell? ⟨w.heap.size + 1, 9, none⟩ = some (.int .i64 0) := (by rw [b3.cell (by first | omega | (simp; done) | (simp; omega))]; go_cell)
  have rf9_3 : w3.frozen? ⟨w.heap.size + 1, 9, none⟩ = false := (by rw [b3.frozen (by first | omega | (simp; done) | (simp; omega))]; (first | go_cell | (simp [World.frozen?, World.alloc]; done) | rfl))
  have r10_3 : w3.cell? ⟨w.heap.size + 1, 10, none⟩ = some (.int .i64 0) := (by rw [b3.cell (by first | omega | (simp; done) | (simp; omega))]; go_cell)
  have rf10_3 : w3.frozen? ⟨w.heap.size + 1, 10, none⟩ = false := (by rw [b3.frozen (by first | omega | (simp; done) | (simp; omega))]; (first | go_cell | (simp [World.frozen?, World.alloc]; done) | rfl))
  have r11_3 : w3.cell? ⟨w.heap.size + 1, 11, none⟩ = some (.int .i64 0) := (by rw [b3.cell (by first | omega | (simp; done) | (simp; omega))]; go_cell)
  have rf11_3 : w3.frozen? ⟨w.heap.size + 1, 11, none⟩ = false := (by rw [b3.frozen (by first | omega | (simp; done) | (simp; omega))]; (first | go_cell | (simp [World.frozen?, World.alloc]; done) | rfl))
  have r12_3 : w3.cell? ⟨w.heap.size + 1, 12, none⟩ = some (.slice none 0 0) := (by rw [b3.cell (by first | omega | (simp; done) | (simp; omega))]; go_cell)
  have rf12_3 : w3.frozen? ⟨w.heap.size + 1, 12, none⟩ = false := (by rw [b3.frozen (by first | omega | (simp; done) | (simp; omega))]; (first | go_cell | (simp [World.frozen?, World.alloc]; done) | rfl))
  have r13_3 : w3.cell? ⟨w.heap.size + 1, 13, none⟩ = some (.slice none 0 0) := (by rw [b3.cell (by first | omega | (simp; done) | (simp; omega))]; go_cell)
  have rf13_3 : w3.frozen? ⟨w.heap.size + 1, 13, none⟩ = false := (by rw [b3.frozen (by first | omega | (simp; done) | (simp; omega))]; (first | go_cell | (simp [World.frozen?, World.alloc]; done) | rfl))
  have rl_3 : w.heap.size + 1 < w3.heap.size := (by have := b3.size; first | omega | (revert this; simp; done) | (revert this; simp; omega))
  have o0_3 : w3.cell? ⟨w.heap.size + 1 + 1, 0, none⟩ = some (.int .i64 i0) := (by rw [b3.cell (by first | omega | (simp; done) | (simp; omega))]; go_cell)
  have of0_3 : w3.frozen? ⟨w.heap.size + 1 + 1, 0, none⟩ = false := (by rw [b3.frozen (by first | omega | (simp; done) | (simp; omega))]; (first | go_cell | (simp [World.frozen?, World.alloc]; done) | rfl))
  have o1_3 : w3.cell? ⟨w.heap.size + 1 + 1, 1, none⟩ = some (.int .i64 i1) := (by rw [b3.cell (by first | omega | (simp; done) | (simp; omega))]; go_cell)
  have of1_3 : w3.frozen? ⟨w.heap.size + 1 + 1, 1, none⟩ = false := (by rw [b3.frozen (by first | omega | (simp; done) | (simp; omega))]; (first | go_cell | (simp [World.frozen?, World.alloc]; done) | rfl))
  have o2_3 : w3.cell? ⟨w.heap.size + 1 + 1, 2, none⟩ = some (.int .i64 i2) := (by rw [b3.cell (by first | omega | (simp; done) | (simp; omega))]; go_cell)
  have of2_3 : w3.frozen? ⟨w.heap.size + 1 + 1, 2, none⟩ = false := (by rw [b3.frozen (by first | omega | (simp; done) | (simp; omega))]; (first | go_cell | (simp [World.frozen?, World.alloc]; done) | rfl))
  have o3_3 : w3.cell? ⟨w.heap.size + 1 + 1, 3, none⟩ = some (.bool q0) := (by rw [b3.cell (by first | omega | (simp; done) | (simp; omega))]; go_cell)
  have of3_3 : w3.frozen? ⟨w.heap.size + 1 + 1, 3, none⟩ = false := (by rw [b3.frozen (by first | omega | (simp; done) | (simp; omega))]; (first | go_cell | (simp [World.frozen?, World.alloc]; done) | rfl))
  have o4_3 : w3.cell? ⟨w.heap.size + 1 + 1, 4, none⟩ = some (.bool q1) := (by rw [b3.cell (by first | omega | (simp; done) | (simp; omega))]; go_cell)
  have of4_3 : w3.frozen? ⟨w.heap.size + 1 + 1, 4, none⟩ = false := (by rw [b3.frozen (by first | omega | (simp; done) | (simp; omega))]; (first | go_cell | (simp [World.frozen?, World.alloc]; done) | rfl))
  have o5_3 : w3.cell? ⟨w.heap.size + 1 + 1, 5, none⟩ = some (.bool q2) := (by rw [b3.cell (by first | omega | (simp; done) | (simp; omega))]; go_cell)
  have of5_3 : w3.frozen? ⟨w.heap.size + 1 + 1, 5, none⟩ = false := (by rw [b3.frozen (by first | omega | (simp; done) | (simp; omega))]; (first | go_cell | (simp [World.frozen?, World.alloc]; done) | rfl))
  have o6_3 : w3.cell? ⟨w.heap.size + 1 + 1, 6, none⟩ = some (.bool q3) := (by rw [b3.cell (by first | omega | (simp; done) | (simp; omega))]; go_cell)
  have of6_3 : w3.frozen? ⟨w.heap.size + 1 + 1, 6, none⟩ = false := (by rw [b3.frozen (by first | omega | (simp; done) | (simp; omega))]; (first | go_cell | (simp [World.frozen?, World.alloc]; done) | rfl))
  have o7_3 : w3.cell? ⟨w.heap.size + 1 + 1, 7, none⟩ = some (.int .i64 i3) := (by rw [b3.cell (by first | omega | (simp; done) | (simp; omega))]; go_cell)
  have of7_3 : w3.frozen? ⟨w.heap.size + 1 + 1, 7, none⟩ = false := (by rw [b3.frozen (by first | omega | (simp; done) | (simp; omega))]; (first | go_cell | (simp [World.frozen?, World.alloc]; done) | rfl))
  have o8_3 : w3.cell? ⟨w.heap.size + 1 + 1, 8, none⟩ = some (.int .i64 i4) := (by rw [b3.cell (by first | omega | (simp; done) | (simp; omega))]; go_cell)
  have of8_3 : w3.frozen? ⟨w.heap.size + 1 + 1, 8, none⟩ = false := (by rw [b3.frozen (by first | omega | (simp; done) | (simp; omega))]; (first | go_cell | (simp [World.frozen?, World.alloc]; done) | rfl))
  have o9_3 : w3.cell? ⟨w.heap.size + 1 + 1, 9, none⟩ = some (.int .i64 i5) := (by rw [b3.cell (by first | omega | (simp; done) | (simp; omega))]; go_cell)
  have of9_3 : w3.frozen? ⟨w.heap.size + 1 + 1, 9, none⟩ = false := (by rw [b3.frozen (by first | omega | (simp; done) | (simp; omega))]; (first | go_cell | (simp [World.frozen?, World.alloc]; done) | rfl))
  have o10_3 : w3.cell? ⟨w.heap.size + 1 + 1, 10, none⟩ = some (.int .i64 i6) := (by rw [b3.cell (by first | omega | (simp; done) | (simp; omega))]; go_cell)
  have of10_3 : w3.frozen? ⟨w.heap.size + 1 + 1, 10, none⟩ = false := (by rw [b3.frozen (by first | omega | (simp; done) | (simp; omega))]; (first | go_cell | (simp [World.frozen?, World.alloc]; done) | rfl))
  have o11_3 : w3.cell? ⟨w.heap.size + 1 + 1, 11, none⟩ = some (.int .i64 i7) := (by rw [b3.cell (by first | omega | (simp; done) | (simp; omega))]; go_cell)
  have of11_3 : w3.frozen? ⟨w.heap.size + 1 + 1, 11, none⟩ = false := (by rw [b3.frozen (by first | omega | (simp; done) | (simp; omega))]; (first | go_cell | (simp [World.frozen?, World.alloc]; done) | rfl))
  have o12_3 : w3.cell? ⟨w.heap.size + 1 + 1, 12, none⟩ = some (.slice ao0 I.length ac0) := (by rw [b3.cell (by first | omega | (simp; done) | (simp; omega))]; go_cell)
  have of12_3 : w3.frozen? ⟨w.heap.size + 1 + 1, 12, none⟩ = false := (by rw [b3.frozen (by first | omega | (simp; done) | (simp; omega))]; (first | go_cell | (simp [World.frozen?, World.alloc]; done) | rfl))
  have o13_3 : w3.cell? ⟨w.heap.size + 1 + 1, 13, none⟩ = some (.slice ao1 F.length ac1) := (by rw [b3.cell (by first | omega | (simp; done) | (simp; omega))]; go_cell)
  have of13_3 : w3.frozen? ⟨w.heap.size + 1 + 1, 13, none⟩ = false := (by rw [b3.frozen (by first | omega | (simp; done) | (simp; omega))]; (first | go_cell | (simp [World.frozen?, World.alloc]; done) | rfl))
  have ol_3 : w.heap.size + 1 + 1 < w3.heap.size := (by have := b3.size; first | omega | (revert this; simp; done) | (revert this; simp; omega))
  clear r0_1 rf0_1 r1_1 rf1_1 r2_1 rf2_1 r3_1 rf3_1 r4_1 rf4_1 r5_1 rf5_1 r6_1 rf6_1 r7_1 rf7_1 r8_1 rf8_1 r9_1 rf9_1 r10_1 rf10_1 r11_1 rf11_1 r12_1 rf12_1 r13_1 rf13_1 rl_1 o0_1 of0_1 o1_1 of1_1 o2_1 of2_1 o3_1 of3_1 o4_1 of4_1 o5_1 of5_1 o6_1 of6_1 o7_1 of7_1 o8_1 of8_1 o9_1 of9_1 o10_1 of10_1 o11_1 of11_1 o12_1 of12_1 o13_1 of13_1 ol_1
  clear b3 d3 hrow hK hg0 hg1 hg2
  go_wp2
  have HO := copyOwn HK3.out HW3.out HF.out HG.out.1 HG.out.2.1
  have HO := HO.set (p := ⟨w.heap.size + 1 + 1, 12, none⟩) (by show w.heap.size + 1 + 1 < w1.heap.size; omega) (.slice so I.length sc)
  have HO := HO.set (p := ⟨w.heap.size + 1 + 1, 13, none⟩) (by show w.heap.size + 1 + 1 < w1.heap.size; omega) (.slice (some ⟨g, 0, none⟩) 24 c)
  have HO := HO.set (p := ⟨w.heap.size + 1, 0, none⟩) (by show w.heap.size + 1 < w1.heap.size; omega) (.int .i64 i0)
  have HO := HO.set (p := ⟨w.heap.size + 1, 1, none⟩) (by show w.heap.size + 1 < w1.heap.size; omega) (.int .i64 i1)
  have HO := HO.set (p := ⟨w.heap.size + 1, 2, none⟩) (by show w.heap.size + 1 < w1.heap.size; omega) (.int .i64 i2)
  have HO := HO.set (p := ⟨w.heap.size + 1, 3, none⟩) (by show w.heap.size + 1 < w1.heap.size; omega) (.bool q0)
  have HO := HO.set (p := ⟨w.heap.size + 1, 4, none⟩) (by show w.heap.size + 1 < w1.heap.size; omega) (.bool q1)
  have HO := HO.set (p := ⟨w.heap.size + 1, 5, none⟩) (by show w.heap.size + 1 < w1.heap.size; omega) (.bool q2)
  have HO := HO.set (p := ⟨w.heap.size + 1, 6, none⟩) (by show w.heap.size + 1 < w1.heap.size; omega) (.bool q3)
  have HO := HO.set (p := ⟨w.heap.size + 1, 7, none⟩) (by show w.heap.size + 1 < w1.heap.size; omega) (.int .i64 i3)
  have HO := HO.set (p := ⟨w.heap.size + 1, 8, none⟩) (by show w.heap.size + 1 < w1.heap.size; omega) (.int .i64 i4)
  have HO := HO.set (p := ⟨w.heap.size + 1, 9, none⟩) (by show w.heap.size + 1 < w1.heap.size; omega) (.int .i64 i5)
  have HO := HO.set (p := ⟨w.heap.size + 1, 10, none⟩) (by show w.heap.size + 1 < w1.heap.size; omega) (.int .i64 i6)
  have HO := HO.set (p := ⟨w.heap.size + 1, 11, none⟩) (by show w.heap.size + 1 < w1.heap.size; omega) (.int .i64 i7)
  have HO := HO.set (p := ⟨w.heap.size + 1, 12, none⟩) (by show w.heap.size + 1 < w1.heap.size; omega) (.slice so I.length sc)
  have HO := HO.set (p := ⟨w.heap.size + 1, 13, none⟩) (by show w.heap.size + 1 < w1.heap.size; omega) (.slice (some ⟨g, 0, none⟩) 24 c)
  have HCC := ((((((((((((((((c3.setCell (p := ⟨w.heap.size + 1 + 1, 12, none⟩) (by show w.heap.size ≤ w.heap.size + 1 + 1; omega) (.slice so I.length sc)).setCell (p := ⟨w.heap.size + 1 + 1, 13, none⟩) (by show w.heap.size ≤ w.heap.size + 1 + 1; omega) (.slice (some ⟨g, 0, none⟩) 24 c)).setCell (p := ⟨w.heap.size + 1, 0, none⟩) (by show w.heap.size ≤ w.heap.size + 1; omega) (.int .i64 i0)).setCell (p := ⟨w.heap.size + 1, 1, none⟩) (by show w.heap.size ≤ w.heap.size + 1; omega) (.int .i64 i1)).setCell (p := ⟨w.heap.size + 1, 2, none⟩) (by show w.heap.size ≤ w.heap.size + 1; omega) (.int .i64 i2)).setCell (p := ⟨w.heap.size + 1, 3, none⟩) (by show w.heap.size ≤ w.heap.size + 1; omega) (.bool q0)).setCell (p := ⟨w.heap.size + 1, 4, none⟩) (by show w.heap.size ≤ w.heap.size + 1; omega) (.bool q1)).setCell (p := ⟨w.heap.size + 1, 5, none⟩) (by show w.heap.size ≤ w.heap.size + 1; omega) (.bool q2)).setCell (p := ⟨w.heap.size + 1, 6, none⟩) (by show w.heap.size ≤ w.heap.size + 1; omega) (.bool q3)).setCell (p := ⟨w.heap.size + 1, 7, none⟩) (by show w.heap.size ≤ w.heap.size + 1; omega) (.int .i64 i3)).setCell (p := ⟨w.heap.size + 1, 8, none⟩) (by show w.heap.size ≤ w.heap.size + 1; omega) (.int .i64 i4)).setCell (p := ⟨w.heap.size + 1, 9, none⟩) (by show w.heap.size ≤ w.heap.size + 1; omega) (.int .i64 i5)).setCell (p := ⟨w.heap.size + 1, 10, none⟩) (by show w.heap.size ≤ w.heap.size + 1; omega) (.int .i64 i6)).setCell (p := ⟨w.heap.size + 1, 11, none⟩) (by show w.heap.size ≤ w.heap.size + 1; omega) (.int .i64 i7)).setCell (p := ⟨w.heap.size + 1, 12, none⟩) (by show w.heap.size ≤ w.heap.size + 1; omega) (.slice so I.length sc)).setCell (p := ⟨w.heap.size + 1, 13, none⟩) (by show w.heap.size ≤ w.heap.size + 1; omega) (.slice (some ⟨g, 0, none⟩) 24 c))
  have HOF := HO.low (B' := w.heap.size) (by omega)
  generalize hWF : ((((((((((((((((w3.setCell ⟨w.heap.size + 1 + 1, 12, none⟩ (.slice so I.length sc)).setCell ⟨w.heap.size + 1 + 1, 13, none⟩ (.slice (some ⟨g, 0, none⟩) 24 c)).setCell ⟨w.heap.size + 1, 0, none⟩ (.int .i64 i0)).setCell ⟨w.heap.size + 1, 1, none⟩ (.int .i64 i1)).setCell ⟨w.heap.size + 1, 2, none⟩ (.int .i64 i2)).setCell ⟨w.heap.size + 1, 3, none⟩ (.bool q0)).setCell ⟨w.heap.size + 1, 4, none⟩ (.bool q1)).setCell ⟨w.heap.size + 1, 5, none⟩ (.bool q2)).setCell ⟨w.heap.size + 1, 6, none⟩ (.bool q3)).setCell ⟨w.heap.size + 1, 7, none⟩ (.int .i64 i3)).setCell ⟨w.heap.size + 1, 8, none⟩ (.int .i64 i4)).setCell ⟨w.heap.size + 1, 9, none⟩ (.int .i64 i5)).setCell ⟨w.heap.size + 1, 10, none⟩ (.int .i64 i6)).setCell ⟨w.heap.size + 1, 11, none⟩ (.int .i64 i7)).setCell ⟨w.heap.size + 1, 12, none⟩ (.slice so I.length sc)).setCell ⟨w.heap.size + 1, 13, none⟩ (.slice (some ⟨g, 0, none⟩) 24 c)) = wF at HCC HOF ⊢
  have e0 : wF.cell? ⟨w.heap.size + 1, 0, none⟩ = some (.int .i64 i0) := by subst hWF; go_cell
  have e1 : wF.cell? ⟨w.heap.size + 1, 1, none⟩ = some (.int .i64 i1) := by subst hWF; go_cell
  have e2 : wF.cell? ⟨w.heap.size + 1, 2, none⟩ = some (.int .i64 i2) := by subst hWF; go_cell
  have e3 : wF.cell? ⟨w.heap.size + 1, 3, none⟩ = some (.bool q0) := by subst hWF; go_cell
  have e4 : wF.cell? ⟨w.heap.size + 1, 4, none⟩ = some (.bool q1) := by subst hWF; go_cell
  have e5 : wF.cell? ⟨w.heap.size + 1, 5, none⟩ = some (.bool q2) := by subst hWF; go_cell
  have e6 : wF.cell? ⟨w.heap.size + 1, 6, none⟩ = some (.bool q3) := by subst hWF; go_cell
  have e7 : wF.cell? ⟨w.heap.size + 1, 7, none⟩ = some (.int .i64 i3) := by subst hWF; go_cell
  have e8 : wF.cell? ⟨w.heap.size + 1, 8, none⟩ = some (.int .i64 i4) := by subst hWF; go_cell
  have e9 : wF.cell? ⟨w.heap.size + 1, 9, none⟩ = some (.int .i64 i5) := by subst hWF; go_cell
  have e10 : wF.cell? ⟨w.heap.size + 1, 10, none⟩ = some (.int .i64 i6) := by subst hWF; go_cell
  have e11 : wF.cell? ⟨w.heap.size + 1, 11, none⟩ = some (.int .i64 i7) := by subst hWF; go_cell
  have e12 : wF.cell? ⟨w.heap.size + 1, 12, none⟩ = some (.slice so I.length sc) := by subst hWF; go_cell
  have e13 : wF.cell? ⟨w.heap.size + 1, 13, none⟩ = some (.slice (some ⟨g, 0, none⟩) 24 c) := by subst hWF; go_cell
  clear hWF
  exact bodyPost_ret (v := .agg #[.int .i64 i0, .int .i64 i1, .int .i64 i2, .bool q0, .bool q1, .bool q2, .bool q3, .int .i64 i3, .int .i64 i4, .int .i64 i5, .int .i64 i6, .int .i64 i7, .slice so I.length sc, .slice (some ⟨g, 0, none⟩) 24 c]) (by simp [results, Tryz.results44, go_sem, e0, e1, e2, e3, e4, e5, e6, e7, e8, e9, e10, e11, e12, e13]) rfl ⟨⟨_, _, _, _, rfl, HOF⟩, HCC⟩
end Go.Proofs.YtddpoheoecafjaaGreat
