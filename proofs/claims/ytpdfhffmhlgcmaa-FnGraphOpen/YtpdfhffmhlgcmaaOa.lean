/- impl's writes: what a key has behind them: contracts. -/
import Derived.Test.YtpdfhffmhlgcmaaOy
import Derived.Test.YtpdfhffmhlgcmaaAd
import Derived.Test.YtpdfhffmhlgcmaaDr
namespace Go.Proofs.Ytpdfhffmhlgcmaa
open Go.RowKit
attribute [local go_sem ↓] Go.wp_at_zero Go.wp_at_succ

/-- What the key of a write has behind it, and what the other one has. -/
def doN (k a b n : Int) : Int := if setOk k a b n then n else 0
def doL (k a b n : Int) (l : List (Int × Int)) : List (Int × Int) := if bindOk k a b n then addL l b n else if partOk k a b n then dropL l b else []
def backL (k a b n : Int) (l : List (Int × Int)) : List (Int × Int) := if bindOk k a b n then addL l a n else if partOk k a b n then dropL l a else []
theorem doL_length (k a b n : Int) (l : List (Int × Int)) : (doL k a b n l).length ≤ l.length + 1 := by
  unfold doL
  split
  · exact addL_length l b n
  · split
    · exact Nat.le_succ_of_le (dropL_length l b)
    · simp
theorem backL_length (k a b n : Int) (l : List (Int × Int)) : (backL k a b n l).length ≤ l.length + 1 := by
  unfold backL
  split
  · exact addL_length l a n
  · split
    · exact Nat.le_succ_of_le (dropL_length l a)
    · simp
theorem do_ways (k a b n : Int) (l : List (Int × Int)) :
    (setOk k a b n ∧ doN k a b n = n ∧ doL k a b n l = [] ∧ backL k a b n l = []) ∨
    (bindOk k a b n ∧ doN k a b n = 0 ∧ doL k a b n l = addL l b n ∧ backL k a b n l = addL l a n) ∨
    (partOk k a b n ∧ doN k a b n = 0 ∧ doL k a b n l = dropL l b ∧ backL k a b n l = dropL l a) ∨
    (¬ setOk k a b n ∧ ¬ bindOk k a b n ∧ ¬ partOk k a b n ∧ doN k a b n = 0 ∧ doL k a b n l = [] ∧ backL k a b n l = []) := by
  by_cases h1 : setOk k a b n
  · have h2 : ¬ bindOk k a b n := by intro h; have := h1.1; have := h.1; omega
    have h3 : ¬ partOk k a b n := by intro h; have := h1.1; have := h.1; omega
    exact .inl ⟨h1, by simp [doN, h1], by simp [doL, h2, h3], by simp [backL, h2, h3]⟩
  · by_cases h2 : bindOk k a b n
    · exact .inr (.inl ⟨h2, by simp [doN, h1], by simp [doL, h2], by simp [backL, h2]⟩)
    · by_cases h3 : partOk k a b n
      · exact .inr (.inr (.inl ⟨h3, by simp [doN, h1], by simp [doL, h2, h3], by simp [backL, h2, h3]⟩))
      · exact .inr (.inr (.inr ⟨h1, h2, h3, by simp [doN, h1], by simp [doL, h2, h3], by simp [backL, h2, h3]⟩))

/-- A value that owns its kin. -/
def ValA (B : Nat) (w : World) (e : Ending) (n : Int) (l : List (Int × Int)) : Prop := ∃ v, e = .returned (.agg #[.int .i64 n, v]) ∧ Own w B v l
theorem valA_nil (B : Nat) (w : World) (n : Int) : ValA B w (.returned (.agg #[.int .i64 n, .slice none 0 0])) n [] := ⟨_, rfl, World.ownsRow_nil _ _ _ _⟩

theorem Own.setApart {w : World} {B : Nat} {v : Value} {l : List (Int × Int)} {p : Addr} (h : Own w B v l) (hp : p.block < B) (u : Value) : Own (w.setCell p u) B v l := by
  refine ⟨h.1, ?_⟩
  rcases h.2 with hn | ⟨g, cap, cur, rfl, hbg, hgg, rest⟩
  · exact .inl hn
  · exact .inr ⟨g, cap, cur, rfl, hbg, (Below.heap_setCell w p u g (by omega)).trans hgg, rest⟩

set_option maxHeartbeats 1000000 in
theorem withoutKin_any (m : Int) (v : Value) (l : List (Int × Int)) (who : Int) (w : World) (h : Rd w v l) (hll : l.length ≤ 1099511627776) :
    Calls Try.prog 94 #[.agg #[.int .i64 m, v], .int .i64 who] w fun e w' => ValA w.heap.size w' e 0 (dropL l who) ∧ Below w.heap.size w w' := by
  have HR := hid h
  obtain ⟨ao, cap, hv, _⟩ := h
  subst hv
  go_enter Try.func94, Try.ntmps94
  go_wp2_with fail
  have a0_1 : ((w.alloc (.cells #[.int .i64 m, .slice ao l.length cap] 37)).alloc (.cells #[.int .i64 0, .slice none 0 0] 37)).cell? ⟨w.heap.size, 0, none⟩ = some (.int .i64 m) := by go_cell
  have a1_1 : ((w.alloc (.cells #[.int .i64 m, .slice ao l.length cap] 37)).alloc (.cells #[.int .i64 0, .slice none 0 0] 37)).cell? ⟨w.heap.size, 1, none⟩ = some (.slice ao l.length cap) := by go_cell
  have al_1 : w.heap.size < ((w.alloc (.cells #[.int .i64 m, .slice ao l.length cap] 37)).alloc (.cells #[.int .i64 0, .slice none 0 0] 37)).heap.size := by first | (simp; done) | (simp; omega)
  have r0_1 : ((w.alloc (.cells #[.int .i64 m, .slice ao l.length cap] 37)).alloc (.cells #[.int .i64 0, .slice none 0 0] 37)).cell? ⟨w.heap.size + 1, 0, none⟩ = some (.int .i64 0) := by go_cell
  have rf0_1 : ((w.alloc (.cells #[.int .i64 m, .slice ao l.length cap] 37)).alloc (.cells #[.int .i64 0, .slice none 0 0] 37)).frozen? ⟨w.heap.size + 1, 0, none⟩ = false := by (first | go_cell | (simp [World.frozen?, World.alloc]; done) | rfl)
  have r1_1 : ((w.alloc (.cells #[.int .i64 m, .slice ao l.length cap] 37)).alloc (.cells #[.int .i64 0, .slice none 0 0] 37)).cell? ⟨w.heap.size + 1, 1, none⟩ = some (.slice none 0 0) := by go_cell
  have rf1_1 : ((w.alloc (.cells #[.int .i64 m, .slice ao l.length cap] 37)).alloc (.cells #[.int .i64 0, .slice none 0 0] 37)).frozen? ⟨w.heap.size + 1, 1, none⟩ = false := by (first | go_cell | (simp [World.frozen?, World.alloc]; done) | rfl)
  have rl_1 : w.heap.size + 1 < ((w.alloc (.cells #[.int .i64 m, .slice ao l.length cap] 37)).alloc (.cells #[.int .i64 0, .slice none 0 0] 37)).heap.size := by first | (simp; done) | (simp; omega)
  have c1 : Below w.heap.size w ((w.alloc (.cells #[.int .i64 m, .slice ao l.length cap] 37)).alloc (.cells #[.int .i64 0, .slice none 0 0] 37)) := by go_grown
  have s1 : ((w.alloc (.cells #[.int .i64 m, .slice ao l.length cap] 37)).alloc (.cells #[.int .i64 0, .slice none 0 0] 37)).heap.size = w.heap.size + 2 := by simp
  generalize ((w.alloc (.cells #[.int .i64 m, .slice ao l.length cap] 37)).alloc (.cells #[.int .i64 0, .slice none 0 0] 37)) = w1 at a0_1 a1_1 al_1 r0_1 rf0_1 r1_1 rf1_1 rl_1 c1 s1 ⊢
  have qa0_1 := cell_regrown a0_1
  have qa1_1 := cell_regrown a1_1
  have qr0_1 := cell_regrown r0_1
  have qr1_1 := cell_regrown r1_1
  refine (implDrop_any _ l who _ (HR.out.later c1) hll).mono ?_
  rintro e w2 ⟨v', rfl, ho, b2⟩
  have HO := hid ho
  clear ho
  have d2 : Below w1.heap.size w1 w2 := (Below.trans (by go_grown) (b2.mono (by first | omega | (simp; done) | (simp; omega))))
  have c2 : Below w.heap.size w w2 := c1.trans (d2.mono c1.size)
  have r0_2 : w2.cell? ⟨w.heap.size + 1, 0, none⟩ = some (.int .i64 0) := (by rw [b2.cell (by first | omega | (simp; done) | (simp; omega))]; go_cell)
  have rf0_2 : w2.frozen? ⟨w.heap.size + 1, 0, none⟩ = false := (by rw [b2.frozen (by first | omega | (simp; done) | (simp; omega))]; (first | go_cell | (simp [World.frozen?, World.alloc]; done) | rfl))
  have r1_2 : w2.cell? ⟨w.heap.size + 1, 1, none⟩ = some (.slice none 0 0) := (by rw [b2.cell (by first | omega | (simp; done) | (simp; omega))]; go_cell)
  have rf1_2 : w2.frozen? ⟨w.heap.size + 1, 1, none⟩ = false := (by rw [b2.frozen (by first | omega | (simp; done) | (simp; omega))]; (first | go_cell | (simp [World.frozen?, World.alloc]; done) | rfl))
  have rl_2 : w.heap.size + 1 < w2.heap.size := (by have := b2.size; first | omega | (revert this; simp; done) | (revert this; simp; omega))
  clear r0_1 rf0_1 r1_1 rf1_1 rl_1
  clear b2 d2
  obtain ⟨uo, uc, huv, _⟩ := HO.out.rd
  subst huv
  obtain ⟨q, hq⟩ : ∃ q, dropL l who = q := ⟨_, rfl⟩
  have HQ := hid hq
  rw [hq] at HO ⊢
  clear hq
  go_wp2
  have e0 : ((w2.setCell ⟨w.heap.size + 1, 0, none⟩ (.int .i64 0)).setCell ⟨w.heap.size + 1, 1, none⟩ (.slice uo q.length uc)).cell? ⟨w.heap.size + 1, 0, none⟩ = some (.int .i64 0) := by go_cell
  have e1 : ((w2.setCell ⟨w.heap.size + 1, 0, none⟩ (.int .i64 0)).setCell ⟨w.heap.size + 1, 1, none⟩ (.slice uo q.length uc)).cell? ⟨w.heap.size + 1, 1, none⟩ = some (.slice uo q.length uc) := by go_cell
  have HF := hid (((HO.out.setApart (p := ⟨w.heap.size + 1, 0, none⟩) (by show w.heap.size + 1 < w1.heap.size; omega) (.int .i64 0)).setApart (p := ⟨w.heap.size + 1, 1, none⟩) (by show w.heap.size + 1 < w1.heap.size; omega) (.slice uo q.length uc)).mono (B' := w.heap.size) (by omega))
  refine bodyPost_ret (v := .agg #[.int .i64 0, .slice uo q.length uc]) (by simp [results, Try.results94, go_sem, e0, e1]) rfl ⟨⟨_, rfl, by rw [HQ.out]; exact HF.out⟩, (c2.setCell (p := ⟨w.heap.size + 1, 0, none⟩) (by show w.heap.size ≤ w.heap.size + 1; omega) _).setCell (p := ⟨w.heap.size + 1, 1, none⟩) (by show w.heap.size ≤ w.heap.size + 1; omega) _⟩

set_option maxHeartbeats 1000000 in
theorem withKin_any (m : Int) (v : Value) (l : List (Int × Int)) (who since : Int) (w : World) (h : Rd w v l) (hll : l.length ≤ 1099511627776) :
    Calls Try.prog 26 #[.agg #[.int .i64 m, v], .int .i64 who, .int .i64 since] w fun e w' => ValA w.heap.size w' e 0 (addL l who since) ∧ Below w.heap.size w w' := by
  have HR := hid h
  obtain ⟨ao, cap, hv, _⟩ := h
  subst hv
  go_enter Try.func26, Try.ntmps26
  go_wp2_with fail
  have a0_1 : ((w.alloc (.cells #[.int .i64 m, .slice ao l.length cap] 37)).alloc (.cells #[.int .i64 0, .slice none 0 0] 37)).cell? ⟨w.heap.size, 0, none⟩ = some (.int .i64 m) := by go_cell
  have a1_1 : ((w.alloc (.cells #[.int .i64 m, .slice ao l.length cap] 37)).alloc (.cells #[.int .i64 0, .slice none 0 0] 37)).cell? ⟨w.heap.size, 1, none⟩ = some (.slice ao l.length cap) := by go_cell
  have al_1 : w.heap.size < ((w.alloc (.cells #[.int .i64 m, .slice ao l.length cap] 37)).alloc (.cells #[.int .i64 0, .slice none 0 0] 37)).heap.size := by first | (simp; done) | (simp; omega)
  have r0_1 : ((w.alloc (.cells #[.int .i64 m, .slice ao l.length cap] 37)).alloc (.cells #[.int .i64 0, .slice none 0 0] 37)).cell? ⟨w.heap.size + 1, 0, none⟩ = some (.int .i64 0) := by go_cell
  have rf0_1 : ((w.alloc (.cells #[.int .i64 m, .slice ao l.length cap] 37)).alloc (.cells #[.int .i64 0, .slice none 0 0] 37)).frozen? ⟨w.heap.size + 1, 0, none⟩ = false := by (first | go_cell | (simp [World.frozen?, World.alloc]; done) | rfl)
  have r1_1 : ((w.alloc (.cells #[.int .i64 m, .slice ao l.length cap] 37)).alloc (.cells #[.int .i64 0, .slice none 0 0] 37)).cell? ⟨w.heap.size + 1, 1, none⟩ = some (.slice none 0 0) := by go_cell
  have rf1_1 : ((w.alloc (.cells #[.int .i64 m, .slice ao l.length cap] 37)).alloc (.cells #[.int .i64 0, .slice none 0 0] 37)).frozen? ⟨w.heap.size + 1, 1, none⟩ = false := by (first | go_cell | (simp [World.frozen?, World.alloc]; done) | rfl)
  have rl_1 : w.heap.size + 1 < ((w.alloc (.cells #[.int .i64 m, .slice ao l.length cap] 37)).alloc (.cells #[.int .i64 0, .slice none 0 0] 37)).heap.size := by first | (simp; done) | (simp; omega)
  have c1 : Below w.heap.size w ((w.alloc (.cells #[.int .i64 m, .slice ao l.length cap] 37)).alloc (.cells #[.int .i64 0, .slice none 0 0] 37)) := by go_grown
  have s1 : ((w.alloc (.cells #[.int .i64 m, .slice ao l.length cap] 37)).alloc (.cells #[.int .i64 0, .slice none 0 0] 37)).heap.size = w.heap.size + 2 := by simp
  generalize ((w.alloc (.cells #[.int .i64 m, .slice ao l.length cap] 37)).alloc (.cells #[.int .i64 0, .slice none 0 0] 37)) = w1 at a0_1 a1_1 al_1 r0_1 rf0_1 r1_1 rf1_1 rl_1 c1 s1 ⊢
  have qa0_1 := cell_regrown a0_1
  have qa1_1 := cell_regrown a1_1
  have qr0_1 := cell_regrown r0_1
  have qr1_1 := cell_regrown r1_1
  refine (implAdd_any _ l who since _ (HR.out.later c1) hll).mono ?_
  rintro e w2 ⟨v', rfl, ho, b2⟩
  have HO := hid ho
  clear ho
  have d2 : Below w1.heap.size w1 w2 := (Below.trans (by go_grown) (b2.mono (by first | omega | (simp; done) | (simp; omega))))
  have c2 : Below w.heap.size w w2 := c1.trans (d2.mono c1.size)
  have r0_2 : w2.cell? ⟨w.heap.size + 1, 0, none⟩ = some (.int .i64 0) := (by rw [b2.cell (by first | omega | (simp; done) | (simp; omega))]; go_cell)
  have rf0_2 : w2.frozen? ⟨w.heap.size + 1, 0, none⟩ = false := (by rw [b2.frozen (by first | omega | (simp; done) | (simp; omega))]; (first | go_cell | (simp [World.frozen?, World.alloc]; done) | rfl))
  have r1_2 : w2.cell? ⟨w.heap.size + 1, 1, none⟩ = some (.slice none 0 0) := (by rw [b2.cell (by first | omega | (simp; done) | (simp; omega))]; go_cell)
  have rf1_2 : w2.frozen? ⟨w.heap.size + 1, 1, none⟩ = false := (by rw [b2.frozen (by first | omega | (simp; done) | (simp; omega))]; (first | go_cell | (simp [World.frozen?, World.alloc]; done) | rfl))
  have rl_2 : w.heap.size + 1 < w2.heap.size := (by have := b2.size; first | omega | (revert this; simp; done) | (revert this; simp; omega))
  clear r0_1 rf0_1 r1_1 rf1_1 rl_1
  clear b2 d2
  obtain ⟨uo, uc, huv, _⟩ := HO.out.rd
  subst huv
  obtain ⟨q, hq⟩ : ∃ q, addL l who since = q := ⟨_, rfl⟩
  have HQ := hid hq
  rw [hq] at HO ⊢
  clear hq
  go_wp2
  have e0 : ((w2.setCell ⟨w.heap.size + 1, 0, none⟩ (.int .i64 0)).setCell ⟨w.heap.size + 1, 1, none⟩ (.slice uo q.length uc)).cell? ⟨w.heap.size + 1, 0, none⟩ = some (.int .i64 0) := by go_cell
  have e1 : ((w2.setCell ⟨w.heap.size + 1, 0, none⟩ (.int .i64 0)).setCell ⟨w.heap.size + 1, 1, none⟩ (.slice uo q.length uc)).cell? ⟨w.heap.size + 1, 1, none⟩ = some (.slice uo q.length uc) := by go_cell
  have HF := hid (((HO.out.setApart (p := ⟨w.heap.size + 1, 0, none⟩) (by show w.heap.size + 1 < w1.heap.size; omega) (.int .i64 0)).setApart (p := ⟨w.heap.size + 1, 1, none⟩) (by show w.heap.size + 1 < w1.heap.size; omega) (.slice uo q.length uc)).mono (B' := w.heap.size) (by omega))
  refine bodyPost_ret (v := .agg #[.int .i64 0, .slice uo q.length uc]) (by simp [results, Try.results26, go_sem, e0, e1]) rfl ⟨⟨_, rfl, by rw [HQ.out]; exact HF.out⟩, (c2.setCell (p := ⟨w.heap.size + 1, 0, none⟩) (by show w.heap.size ≤ w.heap.size + 1; omega) _).setCell (p := ⟨w.heap.size + 1, 1, none⟩) (by show w.heap.size ≤ w.heap.size + 1; omega) _⟩

set_option maxHeartbeats 1000000 in
theorem bindDo_any (k a b n m : Int) (v : Value) (l : List (Int × Int)) (w : World) (h : Rd w v l) (hll : l.length ≤ 1099511627776) :
    Calls Try.prog 89 #[.agg #[.int .i64 k, .int .i64 a, .int .i64 b, .int .i64 n], .agg #[.int .i64 m, v]] w fun e w' => ValA w.heap.size w' e 0 (addL l b n) ∧ Below w.heap.size w w' := by
  have HR := hid h
  obtain ⟨ao, cap, hv, _⟩ := h
  subst hv
  go_enter Try.func89, Try.ntmps89
  go_wp2_with fail
  have a0_1 : (((w.alloc (.cells #[.int .i64 k, .int .i64 a, .int .i64 b, .int .i64 n] 85)).alloc (.cells #[.int .i64 m, .slice ao l.length cap] 37)).alloc (.cells #[.int .i64 0, .slice none 0 0] 37)).cell? ⟨w.heap.size, 0, none⟩ = some (.int .i64 k) := by go_cell
  have a1_1 : (((w.alloc (.cells #[.int .i64 k, .int .i64 a, .int .i64 b, .int .i64 n] 85)).alloc (.cells #[.int .i64 m, .slice ao l.length cap] 37)).alloc (.cells #[.int .i64 0, .slice none 0 0] 37)).cell? ⟨w.heap.size, 1, none⟩ = some (.int .i64 a) := by go_cell
  have a2_1 : (((w.alloc (.cells #[.int .i64 k, .int .i64 a, .int .i64 b, .int .i64 n] 85)).alloc (.cells #[.int .i64 m, .slice ao l.length cap] 37)).alloc (.cells #[.int .i64 0, .slice none 0 0] 37)).cell? ⟨w.heap.size, 2, none⟩ = some (.int .i64 b) := by go_cell
  have a3_1 : (((w.alloc (.cells #[.int .i64 k, .int .i64 a, .int .i64 b, .int .i64 n] 85)).alloc (.cells #[.int .i64 m, .slice ao l.length cap] 37)).alloc (.cells #[.int .i64 0, .slice none 0 0] 37)).cell? ⟨w.heap.size, 3, none⟩ = some (.int .i64 n) := by go_cell
  have al_1 : w.heap.size < (((w.alloc (.cells #[.int .i64 k, .int .i64 a, .int .i64 b, .int .i64 n] 85)).alloc (.cells #[.int .i64 m, .slice ao l.length cap] 37)).alloc (.cells #[.int .i64 0, .slice none 0 0] 37)).heap.size := by first | (simp; done) | (simp; omega)
  have x0_1 : (((w.alloc (.cells #[.int .i64 k, .int .i64 a, .int .i64 b, .int .i64 n] 85)).alloc (.cells #[.int .i64 m, .slice ao l.length cap] 37)).alloc (.cells #[.int .i64 0, .slice none 0 0] 37)).cell? ⟨w.heap.size + 1, 0, none⟩ = some (.int .i64 m) := by go_cell
  have x1_1 : (((w.alloc (.cells #[.int .i64 k, .int .i64 a, .int .i64 b, .int .i64 n] 85)).alloc (.cells #[.int .i64 m, .slice ao l.length cap] 37)).alloc (.cells #[.int .i64 0, .slice none 0 0] 37)).cell? ⟨w.heap.size + 1, 1, none⟩ = some (.slice ao l.length cap) := by go_cell
  have xl_1 : w.heap.size + 1 < (((w.alloc (.cells #[.int .i64 k, .int .i64 a, .int .i64 b, .int .i64 n] 85)).alloc (.cells #[.int .i64 m, .slice ao l.length cap] 37)).alloc (.cells #[.int .i64 0, .slice none 0 0] 37)).heap.size := by first | (simp; done) | (simp; omega)
  have r0_1 : (((w.alloc (.cells #[.int .i64 k, .int .i64 a, .int .i64 b, .int .i64 n] 85)).alloc (.cells #[.int .i64 m, .slice ao l.length cap] 37)).alloc (.cells #[.int .i64 0, .slice none 0 0] 37)).cell? ⟨w.heap.size + 1 + 1, 0, none⟩ = some (.int .i64 0) := by go_cell
  have rf0_1 : (((w.alloc (.cells #[.int .i64 k, .int .i64 a, .int .i64 b, .int .i64 n] 85)).alloc (.cells #[.int .i64 m, .slice ao l.length cap] 37)).alloc (.cells #[.int .i64 0, .slice none 0 0] 37)).frozen? ⟨w.heap.size + 1 + 1, 0, none⟩ = false := by (first | go_cell | (simp [World.frozen?, World.alloc]; done) | rfl)
  have r1_1 : (((w.alloc (.cells #[.int .i64 k, .int .i64 a, .int .i64 b, .int .i64 n] 85)).alloc (.cells #[.int .i64 m, .slice ao l.length cap] 37)).alloc (.cells #[.int .i64 0, .slice none 0 0] 37)).cell? ⟨w.heap.size + 1 + 1, 1, none⟩ = some (.slice none 0 0) := by go_cell
  have rf1_1 : (((w.alloc (.cells #[.int .i64 k, .int .i64 a, .int .i64 b, .int .i64 n] 85)).alloc (.cells #[.int .i64 m, .slice ao l.length cap] 37)).alloc (.cells #[.int .i64 0, .slice none 0 0] 37)).frozen? ⟨w.heap.size + 1 + 1, 1, none⟩ = false := by (first | go_cell | (simp [World.frozen?, World.alloc]; done) | rfl)
  have rl_1 : w.heap.size + 1 + 1 < (((w.alloc (.cells #[.int .i64 k, .int .i64 a, .int .i64 b, .int .i64 n] 85)).alloc (.cells #[.int .i64 m, .slice ao l.length cap] 37)).alloc (.cells #[.int .i64 0, .slice none 0 0] 37)).heap.size := by first | (simp; done) | (simp; omega)
  have c1 : Below w.heap.size w (((w.alloc (.cells #[.int .i64 k, .int .i64 a, .int .i64 b, .int .i64 n] 85)).alloc (.cells #[.int .i64 m, .slice ao l.length cap] 37)).alloc (.cells #[.int .i64 0, .slice none 0 0] 37)) := by go_grown
  have s1 : (((w.alloc (.cells #[.int .i64 k, .int .i64 a, .int .i64 b, .int .i64 n] 85)).alloc (.cells #[.int .i64 m, .slice ao l.length cap] 37)).alloc (.cells #[.int .i64 0, .slice none 0 0] 37)).heap.size = w.heap.size + 3 := by simp
  generalize (((w.alloc (.cells #[.int .i64 k, .int .i64 a, .int .i64 b, .int .i64 n] 85)).alloc (.cells #[.int .i64 m, .slice ao l.length cap] 37)).alloc (.cells #[.int .i64 0, .slice none 0 0] 37)) = w1 at a0_1 a1_1 a2_1 a3_1 al_1 x0_1 x1_1 xl_1 r0_1 rf0_1 r1_1 rf1_1 rl_1 c1 s1 ⊢
  have qa0_1 := cell_regrown a0_1
  have qa1_1 := cell_regrown a1_1
  have qa2_1 := cell_regrown a2_1
  have qa3_1 := cell_regrown a3_1
  have qx0_1 := cell_regrown x0_1
  have qx1_1 := cell_regrown x1_1
  have qr0_1 := cell_regrown r0_1
  have qr1_1 := cell_regrown r1_1
  refine (withKin_any m _ l b n _ (HR.out.later c1) hll).mono ?_
  rintro e w2 ⟨⟨v', rfl, ho⟩, b2⟩
  have HO := hid ho
  clear ho
  have d2 : Below w1.heap.size w1 w2 := (Below.trans (by go_grown) (b2.mono (by first | omega | (simp; done) | (simp; omega))))
  have c2 : Below w.heap.size w w2 := c1.trans (d2.mono c1.size)
  have r0_2 : w2.cell? ⟨w.heap.size + 1 + 1, 0, none⟩ = some (.int .i64 0) := (by rw [b2.cell (by first | omega | (simp; done) | (simp; omega))]; go_cell)
  have rf0_2 : w2.frozen? ⟨w.heap.size + 1 + 1, 0, none⟩ = false := (by rw [b2.frozen (by first | omega | (simp; done) | (simp; omega))]; (first | go_cell | (simp [World.frozen?, World.alloc]; done) | rfl))
  have r1_2 : w2.cell? ⟨w.heap.size + 1 + 1, 1, none⟩ = some (.slice none 0 0) := (by rw [b2.cell (by first | omega | (simp; done) | (simp; omega))]; go_cell)
  have rf1_2 : w2.frozen? ⟨w.heap.size + 1 + 1, 1, none⟩ = false := (by rw [b2.frozen (by first | omega | (simp; done) | (simp; omega))]; (first | go_cell | (simp [World.frozen?, World.alloc]; done) | rfl))
  have rl_2 : w.heap.size + 1 + 1 < w2.heap.size := (by have := b2.size; first | omega | (revert this; simp; done) | (revert this; simp; omega))
  clear r0_1 rf0_1 r1_1 rf1_1 rl_1
  clear b2 d2
  obtain ⟨uo, uc, huv, _⟩ := HO.out.rd
  subst huv
  obtain ⟨q, hq⟩ : ∃ q, addL l b n = q := ⟨_, rfl⟩
  have HQ := hid hq
  rw [hq] at HO ⊢
  clear hq
  go_wp2
  have e0 : ((w2.setCell ⟨w.heap.size + 1 + 1, 0, none⟩ (.int .i64 0)).setCell ⟨w.heap.size + 1 + 1, 1, none⟩ (.slice uo q.length uc)).cell? ⟨w.heap.size + 1 + 1, 0, none⟩ = some (.int .i64 0) := by go_cell
  have e1 : ((w2.setCell ⟨w.heap.size + 1 + 1, 0, none⟩ (.int .i64 0)).setCell ⟨w.heap.size + 1 + 1, 1, none⟩ (.slice uo q.length uc)).cell? ⟨w.heap.size + 1 + 1, 1, none⟩ = some (.slice uo q.length uc) := by go_cell
  have HF := hid (((HO.out.setApart (p := ⟨w.heap.size + 1 + 1, 0, none⟩) (by show w.heap.size + 1 + 1 < w1.heap.size; omega) (.int .i64 0)).setApart (p := ⟨w.heap.size + 1 + 1, 1, none⟩) (by show w.heap.size + 1 + 1 < w1.heap.size; omega) (.slice uo q.length uc)).mono (B' := w.heap.size) (by omega))
  refine bodyPost_ret (v := .agg #[.int .i64 0, .slice uo q.length uc]) (by simp [results, Try.results89, go_sem, e0, e1]) rfl ⟨⟨_, rfl, by rw [HQ.out]; exact HF.out⟩, (c2.setCell (p := ⟨w.heap.size + 1 + 1, 0, none⟩) (by show w.heap.size ≤ w.heap.size + 1 + 1; omega) _).setCell (p := ⟨w.heap.size + 1 + 1, 1, none⟩) (by show w.heap.size ≤ w.heap.size + 1 + 1; omega) _⟩

set_option maxHeartbeats 1000000 in
theorem bindBack_any (k a b n m : Int) (v : Value) (l : List (Int × Int)) (w : World) (h : Rd w v l) (hll : l.length ≤ 1099511627776) :
    Calls Try.prog 88 #[.agg #[.int .i64 k, .int .i64 a, .int .i64 b, .int .i64 n], .agg #[.int .i64 m, v]] w fun e w' => ValA w.heap.size w' e 0 (addL l a n) ∧ Below w.heap.size w w' := by
  have HR := hid h
  obtain ⟨ao, cap, hv, _⟩ := h
  subst hv
  go_enter Try.func88, Try.ntmps88
  go_wp2_with fail
  have a0_1 : (((w.alloc (.cells #[.int .i64 k, .int .i64 a, .int .i64 b, .int .i64 n] 85)).alloc (.cells #[.int .i64 m, .slice ao l.length cap] 37)).alloc (.cells #[.int .i64 0, .slice none 0 0] 37)).cell? ⟨w.heap.size, 0, none⟩ = some (.int .i64 k) := by go_cell
  have a1_1 : (((w.alloc (.cells #[.int .i64 k, .int .i64 a, .int .i64 b, .int .i64 n] 85)).alloc (.cells #[.int .i64 m, .slice ao l.length cap] 37)).alloc (.cells #[.int .i64 0, .slice none 0 0] 37)).cell? ⟨w.heap.size, 1, none⟩ = some (.int .i64 a) := by go_cell
  have a2_1 : (((w.alloc (.cells #[.int .i64 k, .int .i64 a, .int .i64 b, .int .i64 n] 85)).alloc (.cells #[.int .i64 m, .slice ao l.length cap] 37)).alloc (.cells #[.int .i64 0, .slice none 0 0] 37)).cell? ⟨w.heap.size, 2, none⟩ = some (.int .i64 b) := by go_cell
  have a3_1 : (((w.alloc (.cells #[.int .i64 k, .int .i64 a, .int .i64 b, .int .i64 n] 85)).alloc (.cells #[.int .i64 m, .slice ao l.length cap] 37)).alloc (.cells #[.int .i64 0, .slice none 0 0] 37)).cell? ⟨w.heap.size, 3, none⟩ = some (.int .i64 n) := by go_cell
  have al_1 : w.heap.size < (((w.alloc (.cells #[.int .i64 k, .int .i64 a, .int .i64 b, .int .i64 n] 85)).alloc (.cells #[.int .i64 m, .slice ao l.length cap] 37)).alloc (.cells #[.int .i64 0, .slice none 0 0] 37)).heap.size := by first | (simp; done) | (simp; omega)
  have x0_1 : (((w.alloc (.cells #[.int .i64 k, .int .i64 a, .int .i64 b, .int .i64 n] 85)).alloc (.cells #[.int .i64 m, .slice ao l.length cap] 37)).alloc (.cells #[.int .i64 0, .slice none 0 0] 37)).cell? ⟨w.heap.size + 1, 0, none⟩ = some (.int .i64 m) := by go_cell
  have x1_1 : (((w.alloc (.cells #[.int .i64 k, .int .i64 a, .int .i64 b, .int .i64 n] 85)).alloc (.cells #[.int .i64 m, .slice ao l.length cap] 37)).alloc (.cells #[.int .i64 0, .slice none 0 0] 37)).cell? ⟨w.heap.size + 1, 1, none⟩ = some (.slice ao l.length cap) := by go_cell
  have xl_1 : w.heap.size + 1 < (((w.alloc (.cells #[.int .i64 k, .int .i64 a, .int .i64 b, .int .i64 n] 85)).alloc (.cells #[.int .i64 m, .slice ao l.length cap] 37)).alloc (.cells #[.int .i64 0, .slice none 0 0] 37)).heap.size := by first | (simp; done) | (simp; omega)
  have r0_1 : (((w.alloc (.cells #[.int .i64 k, .int .i64 a, .int .i64 b, .int .i64 n] 85)).alloc (.cells #[.int .i64 m, .slice ao l.length cap] 37)).alloc (.cells #[.int .i64 0, .slice none 0 0] 37)).cell? ⟨w.heap.size + 1 + 1, 0, none⟩ = some (.int .i64 0) := by go_cell
  have rf0_1 : (((w.alloc (.cells #[.int .i64 k, .int .i64 a, .int .i64 b, .int .i64 n] 85)).alloc (.cells #[.int .i64 m, .slice ao l.length cap] 37)).alloc (.cells #[.int .i64 0, .slice none 0 0] 37)).frozen? ⟨w.heap.size + 1 + 1, 0, none⟩ = false := by (first | go_cell | (simp [World.frozen?, World.alloc]; done) | rfl)
  have r1_1 : (((w.alloc (.cells #[.int .i64 k, .int .i64 a, .int .i64 b, .int .i64 n] 85)).alloc (.cells #[.int .i64 m, .slice ao l.length cap] 37)).alloc (.cells #[.int .i64 0, .slice none 0 0] 37)).cell? ⟨w.heap.size + 1 + 1, 1, none⟩ = some (.slice none 0 0) := by go_cell
  have rf1_1 : (((w.alloc (.cells #[.int .i64 k, .int .i64 a, .int .i64 b, .int .i64 n] 85)).alloc (.cells #[.int .i64 m, .slice ao l.length cap] 37)).alloc (.cells #[.int .i64 0, .slice none 0 0] 37)).frozen? ⟨w.heap.size + 1 + 1, 1, none⟩ = false := by (first | go_cell | (simp [World.frozen?, World.alloc]; done) | rfl)
  have rl_1 : w.heap.size + 1 + 1 < (((w.alloc (.cells #[.int .i64 k, .int .i64 a, .int .i64 b, .int .i64 n] 85)).alloc (.cells #[.int .i64 m, .slice ao l.length cap] 37)).alloc (.cells #[.int .i64 0, .slice none 0 0] 37)).heap.size := by first | (simp; done) | (simp; omega)
  have c1 : Below w.heap.size w (((w.alloc (.cells #[.int .i64 k, .int .i64 a, .int .i64 b, .int .i64 n] 85)).alloc (.cells #[.int .i64 m, .slice ao l.length cap] 37)).alloc (.cells #[.int .i64 0, .slice none 0 0] 37)) := by go_grown
  have s1 : (((w.alloc (.cells #[.int .i64 k, .int .i64 a, .int .i64 b, .int .i64 n] 85)).alloc (.cells #[.int .i64 m, .slice ao l.length cap] 37)).alloc (.cells #[.int .i64 0, .slice none 0 0] 37)).heap.size = w.heap.size + 3 := by simp
  generalize (((w.alloc (.cells #[.int .i64 k, .int .i64 a, .int .i64 b, .int .i64 n] 85)).alloc (.cells #[.int .i64 m, .slice ao l.length cap] 37)).alloc (.cells #[.int .i64 0, .slice none 0 0] 37)) = w1 at a0_1 a1_1 a2_1 a3_1 al_1 x0_1 x1_1 xl_1 r0_1 rf0_1 r1_1 rf1_1 rl_1 c1 s1 ⊢
  have qa0_1 := cell_regrown a0_1
  have qa1_1 := cell_regrown a1_1
  have qa2_1 := cell_regrown a2_1
  have qa3_1 := cell_regrown a3_1
  have qx0_1 := cell_regrown x0_1
  have qx1_1 := cell_regrown x1_1
  have qr0_1 := cell_regrown r0_1
  have qr1_1 := cell_regrown r1_1
  refine (withKin_any m _ l a n _ (HR.out.later c1) hll).mono ?_
  rintro e w2 ⟨⟨v', rfl, ho⟩, b2⟩
  have HO := hid ho
  clear ho
  have d2 : Below w1.heap.size w1 w2 := (Below.trans (by go_grown) (b2.mono (by first | omega | (simp; done) | (simp; omega))))
  have c2 : Below w.heap.size w w2 := c1.trans (d2.mono c1.size)
  have r0_2 : w2.cell? ⟨w.heap.size + 1 + 1, 0, none⟩ = some (.int .i64 0) := (by rw [b2.cell (by first | omega | (simp; done) | (simp; omega))]; go_cell)
  have rf0_2 : w2.frozen? ⟨w.heap.size + 1 + 1, 0, none⟩ = false := (by rw [b2.frozen (by first | omega | (simp; done) | (simp; omega))]; (first | go_cell | (simp [World.frozen?, World.alloc]; done) | rfl))
  have r1_2 : w2.cell? ⟨w.heap.size + 1 + 1, 1, none⟩ = some (.slice none 0 0) := (by rw [b2.cell (by first | omega | (simp; done) | (simp; omega))]; go_cell)
  have rf1_2 : w2.frozen? ⟨w.heap.size + 1 + 1, 1, none⟩ = false := (by rw [b2.frozen (by first | omega | (simp; done) | (simp; omega))]; (first | go_cell | (simp [World.frozen?, World.alloc]; done) | rfl))
  have rl_2 : w.heap.size + 1 + 1 < w2.heap.size := (by have := b2.size; first | omega | (revert this; simp; done) | (revert this; simp; omega))
  clear r0_1 rf0_1 r1_1 rf1_1 rl_1
  clear b2 d2
  obtain ⟨uo, uc, huv, _⟩ := HO.out.rd
  subst huv
  obtain ⟨q, hq⟩ : ∃ q, addL l a n = q := ⟨_, rfl⟩
  have HQ := hid hq
  rw [hq] at HO ⊢
  clear hq
  go_wp2
  have e0 : ((w2.setCell ⟨w.heap.size + 1 + 1, 0, none⟩ (.int .i64 0)).setCell ⟨w.heap.size + 1 + 1, 1, none⟩ (.slice uo q.length uc)).cell? ⟨w.heap.size + 1 + 1, 0, none⟩ = some (.int .i64 0) := by go_cell
  have e1 : ((w2.setCell ⟨w.heap.size + 1 + 1, 0, none⟩ (.int .i64 0)).setCell ⟨w.heap.size + 1 + 1, 1, none⟩ (.slice uo q.length uc)).cell? ⟨w.heap.size + 1 + 1, 1, none⟩ = some (.slice uo q.length uc) := by go_cell
  have HF := hid (((HO.out.setApart (p := ⟨w.heap.size + 1 + 1, 0, none⟩) (by show w.heap.size + 1 + 1 < w1.heap.size; omega) (.int .i64 0)).setApart (p := ⟨w.heap.size + 1 + 1, 1, none⟩) (by show w.heap.size + 1 + 1 < w1.heap.size; omega) (.slice uo q.length uc)).mono (B' := w.heap.size) (by omega))
  refine bodyPost_ret (v := .agg #[.int .i64 0, .slice uo q.length uc]) (by simp [results, Try.results88, go_sem, e0, e1]) rfl ⟨⟨_, rfl, by rw [HQ.out]; exact HF.out⟩, (c2.setCell (p := ⟨w.heap.size + 1 + 1, 0, none⟩) (by show w.heap.size ≤ w.heap.size + 1 + 1; omega) _).setCell (p := ⟨w.heap.size + 1 + 1, 1, none⟩) (by show w.heap.size ≤ w.heap.size + 1 + 1; omega) _⟩

set_option maxHeartbeats 1000000 in
theorem partDo_any (k a b n m : Int) (v : Value) (l : List (Int × Int)) (w : World) (h : Rd w v l) (hll : l.length ≤ 1099511627776) :
    Calls Try.prog 92 #[.agg #[.int .i64 k, .int .i64 a, .int .i64 b, .int .i64 n], .agg #[.int .i64 m, v]] w fun e w' => ValA w.heap.size w' e 0 (dropL l b) ∧ Below w.heap.size w w' := by
  have HR := hid h
  obtain ⟨ao, cap, hv, _⟩ := h
  subst hv
  go_enter Try.func92, Try.ntmps92
  go_wp2_with fail
  have a0_1 : (((w.alloc (.cells #[.int .i64 k, .int .i64 a, .int .i64 b, .int .i64 n] 86)).alloc (.cells #[.int .i64 m, .slice ao l.length cap] 37)).alloc (.cells #[.int .i64 0, .slice none 0 0] 37)).cell? ⟨w.heap.size, 0, none⟩ = some (.int .i64 k) := by go_cell
  have a1_1 : (((w.alloc (.cells #[.int .i64 k, .int .i64 a, .int .i64 b, .int .i64 n] 86)).alloc (.cells #[.int .i64 m, .slice ao l.length cap] 37)).alloc (.cells #[.int .i64 0, .slice none 0 0] 37)).cell? ⟨w.heap.size, 1, none⟩ = some (.int .i64 a) := by go_cell
  have a2_1 : (((w.alloc (.cells #[.int .i64 k, .int .i64 a, .int .i64 b, .int .i64 n] 86)).alloc (.cells #[.int .i64 m, .slice ao l.length cap] 37)).alloc (.cells #[.int .i64 0, .slice none 0 0] 37)).cell? ⟨w.heap.size, 2, none⟩ = some (.int .i64 b) := by go_cell
  have a3_1 : (((w.alloc (.cells #[.int .i64 k, .int .i64 a, .int .i64 b, .int .i64 n] 86)).alloc (.cells #[.int .i64 m, .slice ao l.length cap] 37)).alloc (.cells #[.int .i64 0, .slice none 0 0] 37)).cell? ⟨w.heap.size, 3, none⟩ = some (.int .i64 n) := by go_cell
  have al_1 : w.heap.size < (((w.alloc (.cells #[.int .i64 k, .int .i64 a, .int .i64 b, .int .i64 n] 86)).alloc (.cells #[.int .i64 m, .slice ao l.length cap] 37)).alloc (.cells #[.int .i64 0, .slice none 0 0] 37)).heap.size := by first | (simp; done) | (simp; omega)
  have x0_1 : (((w.alloc (.cells #[.int .i64 k, .int .i64 a, .int .i64 b, .int .i64 n] 86)).alloc (.cells #[.int .i64 m, .slice ao l.length cap] 37)).alloc (.cells #[.int .i64 0, .slice none 0 0] 37)).cell? ⟨w.heap.size + 1, 0, none⟩ = some (.int .i64 m) := by go_cell
  have x1_1 : (((w.alloc (.cells #[.int .i64 k, .int .i64 a, .int .i64 b, .int .i64 n] 86)).alloc (.cells #[.int .i64 m, .slice ao l.length cap] 37)).alloc (.cells #[.int .i64 0, .slice none 0 0] 37)).cell? ⟨w.heap.size + 1, 1, none⟩ = some (.slice ao l.length cap) := by go_cell
  have xl_1 : w.heap.size + 1 < (((w.alloc (.cells #[.int .i64 k, .int .i64 a, .int .i64 b, .int .i64 n] 86)).alloc (.cells #[.int .i64 m, .slice ao l.length cap] 37)).alloc (.cells #[.int .i64 0, .slice none 0 0] 37)).heap.size := by first | (simp; done) | (simp; omega)
  have r0_1 : (((w.alloc (.cells #[.int .i64 k, .int .i64 a, .int .i64 b, .int .i64 n] 86)).alloc (.cells #[.int .i64 m, .slice ao l.length cap] 37)).alloc (.cells #[.int .i64 0, .slice none 0 0] 37)).cell? ⟨w.heap.size + 1 + 1, 0, none⟩ = some (.int .i64 0) := by go_cell
  have rf0_1 : (((w.alloc (.cells #[.int .i64 k, .int .i64 a, .int .i64 b, .int .i64 n] 86)).alloc (.cells #[.int .i64 m, .slice ao l.length cap] 37)).alloc (.cells #[.int .i64 0, .slice none 0 0] 37)).frozen? ⟨w.heap.size + 1 + 1, 0, none⟩ = false := by (first | go_cell | (simp [World.frozen?, World.alloc]; done) | rfl)
  have r1_1 : (((w.alloc (.cells #[.int .i64 k, .int .i64 a, .int .i64 b, .int .i64 n] 86)).alloc (.cells #[.int .i64 m, .slice ao l.length cap] 37)).alloc (.cells #[.int .i64 0, .slice none 0 0] 37)).cell? ⟨w.heap.size + 1 + 1, 1, none⟩ = some (.slice none 0 0) := by go_cell
  have rf1_1 : (((w.alloc (.cells #[.int .i64 k, .int .i64 a, .int .i64 b, .int .i64 n] 86)).alloc (.cells #[.int .i64 m, .slice ao l.length cap] 37)).alloc (.cells #[.int .i64 0, .slice none 0 0] 37)).frozen? ⟨w.heap.size + 1 + 1, 1, none⟩ = false := by (first | go_cell | (simp [World.frozen?, World.alloc]; done) | rfl)
  have rl_1 : w.heap.size + 1 + 1 < (((w.alloc (.cells #[.int .i64 k, .int .i64 a, .int .i64 b, .int .i64 n] 86)).alloc (.cells #[.int .i64 m, .slice ao l.length cap] 37)).alloc (.cells #[.int .i64 0, .slice none 0 0] 37)).heap.size := by first | (simp; done) | (simp; omega)
  have c1 : Below w.heap.size w (((w.alloc (.cells #[.int .i64 k, .int .i64 a, .int .i64 b, .int .i64 n] 86)).alloc (.cells #[.int .i64 m, .slice ao l.length cap] 37)).alloc (.cells #[.int .i64 0, .slice none 0 0] 37)) := by go_grown
  have s1 : (((w.alloc (.cells #[.int .i64 k, .int .i64 a, .int .i64 b, .int .i64 n] 86)).alloc (.cells #[.int .i64 m, .slice ao l.length cap] 37)).alloc (.cells #[.int .i64 0, .slice none 0 0] 37)).heap.size = w.heap.size + 3 := by simp
  generalize (((w.alloc (.cells #[.int .i64 k, .int .i64 a, .int .i64 b, .int .i64 n] 86)).alloc (.cells #[.int .i64 m, .slice ao l.length cap] 37)).alloc (.cells #[.int .i64 0, .slice none 0 0] 37)) = w1 at a0_1 a1_1 a2_1 a3_1 al_1 x0_1 x1_1 xl_1 r0_1 rf0_1 r1_1 rf1_1 rl_1 c1 s1 ⊢
  have qa0_1 := cell_regrown a0_1
  have qa1_1 := cell_regrown a1_1
  have qa2_1 := cell_regrown a2_1
  have qa3_1 := cell_regrown a3_1
  have qx0_1 := cell_regrown x0_1
  have qx1_1 := cell_regrown x1_1
  have qr0_1 := cell_regrown r0_1
  have qr1_1 := cell_regrown r1_1
  refine (withoutKin_any m _ l b _ (HR.out.later c1) hll).mono ?_
  rintro e w2 ⟨⟨v', rfl, ho⟩, b2⟩
  have HO := hid ho
  clear ho
  have d2 : Below w1.heap.size w1 w2 := (Below.trans (by go_grown) (b2.mono (by first | omega | (simp; done) | (simp; omega))))
  have c2 : Below w.heap.size w w2 := c1.trans (d2.mono c1.size)
  have r0_2 : w2.cell? ⟨w.heap.size + 1 + 1, 0, none⟩ = some (.int .i64 0) := (by rw [b2.cell (by first | omega | (simp; done) | (simp; omega))]; go_cell)
  have rf0_2 : w2.frozen? ⟨w.heap.size + 1 + 1, 0, none⟩ = false := (by rw [b2.frozen (by first | omega | (simp; done) | (simp; omega))]; (first | go_cell | (simp [World.frozen?, World.alloc]; done) | rfl))
  have r1_2 : w2.cell? ⟨w.heap.size + 1 + 1, 1, none⟩ = some (.slice none 0 0) := (by rw [b2.cell (by first | omega | (simp; done) | (simp; omega))]; go_cell)
  have rf1_2 : w2.frozen? ⟨w.heap.size + 1 + 1, 1, none⟩ = false := (by rw [b2.frozen (by first | omega | (simp; done) | (simp; omega))]; (first | go_cell | (simp [World.frozen?, World.alloc]; done) | rfl))
  have rl_2 : w.heap.size + 1 + 1 < w2.heap.size := (by have := b2.size; first | omega | (revert this; simp; done) | (revert this; simp; omega))
  clear r0_1 rf0_1 r1_1 rf1_1 rl_1
  clear b2 d2
  obtain ⟨uo, uc, huv, _⟩ := HO.out.rd
  subst huv
  obtain ⟨q, hq⟩ : ∃ q, dropL l b = q := ⟨_, rfl⟩
  have HQ := hid hq
  rw [hq] at HO ⊢
  clear hq
  go_wp2
  have e0 : ((w2.setCell ⟨w.heap.size + 1 + 1, 0, none⟩ (.int .i64 0)).setCell ⟨w.heap.size + 1 + 1, 1, none⟩ (.slice uo q.length uc)).cell? ⟨w.heap.size + 1 + 1, 0, none⟩ = some (.int .i64 0) := by go_cell
  have e1 : ((w2.setCell ⟨w.heap.size + 1 + 1, 0, none⟩ (.int .i64 0)).setCell ⟨w.heap.size + 1 + 1, 1, none⟩ (.slice uo q.length uc)).cell? ⟨w.heap.size + 1 + 1, 1, none⟩ = some (.slice uo q.length uc) := by go_cell
  have HF := hid (((HO.out.setApart (p := ⟨w.heap.size + 1 + 1, 0, none⟩) (by show w.heap.size + 1 + 1 < w1.heap.size; omega) (.int .i64 0)).setApart (p := ⟨w.heap.size + 1 + 1, 1, none⟩) (by show w.heap.size + 1 + 1 < w1.heap.size; omega) (.slice uo q.length uc)).mono (B' := w.heap.size) (by omega))
  refine bodyPost_ret (v := .agg #[.int .i64 0, .slice uo q.length uc]) (by simp [results, Try.results92, go_sem, e0, e1]) rfl ⟨⟨_, rfl, by rw [HQ.out]; exact HF.out⟩, (c2.setCell (p := ⟨w.heap.size + 1 + 1, 0, none⟩) (by show w.heap.size ≤ w.heap.size + 1 + 1; omega) _).setCell (p := ⟨w.heap.size + 1 + 1, 1, none⟩) (by show w.heap.size ≤ w.heap.size + 1 + 1; omega) _⟩

set_option maxHeartbeats 1000000 in
theorem partBack_any (k a b n m : Int) (v : Value) (l : List (Int × Int)) (w : World) (h : Rd w v l) (hll : l.length ≤ 1099511627776) :
    Calls Try.prog 91 #[.agg #[.int .i64 k, .int .i64 a, .int .i64 b, .int .i64 n], .agg #[.int .i64 m, v]] w fun e w' => ValA w.heap.size w' e 0 (dropL l a) ∧ Below w.heap.size w w' := by
  have HR := hid h
  obtain ⟨ao, cap, hv, _⟩ := h
  subst hv
  go_enter Try.func91, Try.ntmps91
  go_wp2_with fail
  have a0_1 : (((w.alloc (.cells #[.int .i64 k, .int .i64 a, .int .i64 b, .int .i64 n] 86)).alloc (.cells #[.int .i64 m, .slice ao l.length cap] 37)).alloc (.cells #[.int .i64 0, .slice none 0 0] 37)).cell? ⟨w.heap.size, 0, none⟩ = some (.int .i64 k) := by go_cell
  have a1_1 : (((w.alloc (.cells #[.int .i64 k, .int .i64 a, .int .i64 b, .int .i64 n] 86)).alloc (.cells #[.int .i64 m, .slice ao l.length cap] 37)).alloc (.cells #[.int .i64 0, .slice none 0 0] 37)).cell? ⟨w.heap.size, 1, none⟩ = some (.int .i64 a) := by go_cell
  have a2_1 : (((w.alloc (.cells #[.int .i64 k, .int .i64 a, .int .i64 b, .int .i64 n] 86)).alloc (.cells #[.int .i64 m, .slice ao l.length cap] 37)).alloc (.cells #[.int .i64 0, .slice none 0 0] 37)).cell? ⟨w.heap.size, 2, none⟩ = some (.int .i64 b) := by go_cell
  have a3_1 : (((w.alloc (.cells #[.int .i64 k, .int .i64 a, .int .i64 b, .int .i64 n] 86)).alloc (.cells #[.int .i64 m, .slice ao l.length cap] 37)).alloc (.cells #[.int .i64 0, .slice none 0 0] 37)).cell? ⟨w.heap.size, 3, none⟩ = some (.int .i64 n) := by go_cell
  have al_1 : w.heap.size < (((w.alloc (.cells #[.int .i64 k, .int .i64 a, .int .i64 b, .int .i64 n] 86)).alloc (.cells #[.int .i64 m, .slice ao l.length cap] 37)).alloc (.cells #[.int .i64 0, .slice none 0 0] 37)).heap.size := by first | (simp; done) | (simp; omega)
  have x0_1 : (((w.alloc (.cells #[.int .i64 k, .int .i64 a, .int .i64 b, .int .i64 n] 86)).alloc (.cells #[.int .i64 m, .slice ao l.length cap] 37)).alloc (.cells #[.int .i64 0, .slice none 0 0] 37)).cell? ⟨w.heap.size + 1, 0, none⟩ = some (.int .i64 m) := by go_cell
  have x1_1 : (((w.alloc (.cells #[.int .i64 k, .int .i64 a, .int .i64 b, .int .i64 n] 86)).alloc (.cells #[.int .i64 m, .slice ao l.length cap] 37)).alloc (.cells #[.int .i64 0, .slice none 0 0] 37)).cell? ⟨w.heap.size + 1, 1, none⟩ = some (.slice ao l.length cap) := by go_cell
  have xl_1 : w.heap.size + 1 < (((w.alloc (.cells #[.int .i64 k, .int .i64 a, .int .i64 b, .int .i64 n] 86)).alloc (.cells #[.int .i64 m, .slice ao l.length cap] 37)).alloc (.cells #[.int .i64 0, .slice none 0 0] 37)).heap.size := by first | (simp; done) | (simp; omega)
  have r0_1 : (((w.alloc (.cells #[.int .i64 k, .int .i64 a, .int .i64 b, .int .i64 n] 86)).alloc (.cells #[.int .i64 m, .slice ao l.length cap] 37)).alloc (.cells #[.int .i64 0, .slice none 0 0] 37)).cell? ⟨w.heap.size + 1 + 1, 0, none⟩ = some (.int .i64 0) := by go_cell
  have rf0_1 : (((w.alloc (.cells #[.int .i64 k, .int .i64 a, .int .i64 b, .int .i64 n] 86)).alloc (.cells #[.int .i64 m, .slice ao l.length cap] 37)).alloc (.cells #[.int .i64 0, .slice none 0 0] 37)).frozen? ⟨w.heap.size + 1 + 1, 0, none⟩ = false := by (first | go_cell | (simp [World.frozen?, World.alloc]; done) | rfl)
  have r1_1 : (((w.alloc (.cells #[.int .i64 k, .int .i64 a, .int .i64 b, .int .i64 n] 86)).alloc (.cells #[.int .i64 m, .slice ao l.length cap] 37)).alloc (.cells #[.int .i64 0, .slice none 0 0] 37)).cell? ⟨w.heap.size + 1 + 1, 1, none⟩ = some (.slice none 0 0) := by go_cell
  have rf1_1 : (((w.alloc (.cells #[.int .i64 k, .int .i64 a, .int .i64 b, .int .i64 n] 86)).alloc (.cells #[.int .i64 m, .slice ao l.length cap] 37)).alloc (.cells #[.int .i64 0, .slice none 0 0] 37)).frozen? ⟨w.heap.size + 1 + 1, 1, none⟩ = false := by (first | go_cell | (simp [World.frozen?, World.alloc]; done) | rfl)
  have rl_1 : w.heap.size + 1 + 1 < (((w.alloc (.cells #[.int .i64 k, .int .i64 a, .int .i64 b, .int .i64 n] 86)).alloc (.cells #[.int .i64 m, .slice ao l.length cap] 37)).alloc (.cells #[.int .i64 0, .slice none 0 0] 37)).heap.size := by first | (simp; done) | (simp; omega)
  have c1 : Below w.heap.size w (((w.alloc (.cells #[.int .i64 k, .int .i64 a, .int .i64 b, .int .i64 n] 86)).alloc (.cells #[.int .i64 m, .slice ao l.length cap] 37)).alloc (.cells #[.int .i64 0, .slice none 0 0] 37)) := by go_grown
  have s1 : (((w.alloc (.cells #[.int .i64 k, .int .i64 a, .int .i64 b, .int .i64 n] 86)).alloc (.cells #[.int .i64 m, .slice ao l.length cap] 37)).alloc (.cells #[.int .i64 0, .slice none 0 0] 37)).heap.size = w.heap.size + 3 := by simp
  generalize (((w.alloc (.cells #[.int .i64 k, .int .i64 a, .int .i64 b, .int .i64 n] 86)).alloc (.cells #[.int .i64 m, .slice ao l.length cap] 37)).alloc (.cells #[.int .i64 0, .slice none 0 0] 37)) = w1 at a0_1 a1_1 a2_1 a3_1 al_1 x0_1 x1_1 xl_1 r0_1 rf0_1 r1_1 rf1_1 rl_1 c1 s1 ⊢
  have qa0_1 := cell_regrown a0_1
  have qa1_1 := cell_regrown a1_1
  have qa2_1 := cell_regrown a2_1
  have qa3_1 := cell_regrown a3_1
  have qx0_1 := cell_regrown x0_1
  have qx1_1 := cell_regrown x1_1
  have qr0_1 := cell_regrown r0_1
  have qr1_1 := cell_regrown r1_1
  refine (withoutKin_any m _ l a _ (HR.out.later c1) hll).mono ?_
  rintro e w2 ⟨⟨v', rfl, ho⟩, b2⟩
  have HO := hid ho
  clear ho
  have d2 : Below w1.heap.size w1 w2 := (Below.trans (by go_grown) (b2.mono (by first | omega | (simp; done) | (simp; omega))))
  have c2 : Below w.heap.size w w2 := c1.trans (d2.mono c1.size)
  have r0_2 : w2.cell? ⟨w.heap.size + 1 + 1, 0, none⟩ = some (.int .i64 0) := (by rw [b2.cell (by first | omega | (simp; done) | (simp; omega))]; go_cell)
  have rf0_2 : w2.frozen? ⟨w.heap.size + 1 + 1, 0, none⟩ = false := (by rw [b2.frozen (by first | omega | (simp; done) | (simp; omega))]; (first | go_cell | (simp [World.frozen?, World.alloc]; done) | rfl))
  have r1_2 : w2.cell? ⟨w.heap.size + 1 + 1, 1, none⟩ = some (.slice none 0 0) := (by rw [b2.cell (by first | omega | (simp; done) | (simp; omega))]; go_cell)
  have rf1_2 : w2.frozen? ⟨w.heap.size + 1 + 1, 1, none⟩ = false := (by rw [b2.frozen (by first | omega | (simp; done) | (simp; omega))]; (first | go_cell | (simp [World.frozen?, World.alloc]; done) | rfl))
  have rl_2 : w.heap.size + 1 + 1 < w2.heap.size := (by have := b2.size; first | omega | (revert this; simp; done) | (revert this; simp; omega))
  clear r0_1 rf0_1 r1_1 rf1_1 rl_1
  clear b2 d2
  obtain ⟨uo, uc, huv, _⟩ := HO.out.rd
  subst huv
  obtain ⟨q, hq⟩ : ∃ q, dropL l a = q := ⟨_, rfl⟩
  have HQ := hid hq
  rw [hq] at HO ⊢
  clear hq
  go_wp2
  have e0 : ((w2.setCell ⟨w.heap.size + 1 + 1, 0, none⟩ (.int .i64 0)).setCell ⟨w.heap.size + 1 + 1, 1, none⟩ (.slice uo q.length uc)).cell? ⟨w.heap.size + 1 + 1, 0, none⟩ = some (.int .i64 0) := by go_cell
  have e1 : ((w2.setCell ⟨w.heap.size + 1 + 1, 0, none⟩ (.int .i64 0)).setCell ⟨w.heap.size + 1 + 1, 1, none⟩ (.slice uo q.length uc)).cell? ⟨w.heap.size + 1 + 1, 1, none⟩ = some (.slice uo q.length uc) := by go_cell
  have HF := hid (((HO.out.setApart (p := ⟨w.heap.size + 1 + 1, 0, none⟩) (by show w.heap.size + 1 + 1 < w1.heap.size; omega) (.int .i64 0)).setApart (p := ⟨w.heap.size + 1 + 1, 1, none⟩) (by show w.heap.size + 1 + 1 < w1.heap.size; omega) (.slice uo q.length uc)).mono (B' := w.heap.size) (by omega))
  refine bodyPost_ret (v := .agg #[.int .i64 0, .slice uo q.length uc]) (by simp [results, Try.results91, go_sem, e0, e1]) rfl ⟨⟨_, rfl, by rw [HQ.out]; exact HF.out⟩, (c2.setCell (p := ⟨w.heap.size + 1 + 1, 0, none⟩) (by show w.heap.size ≤ w.heap.size + 1 + 1; omega) _).setCell (p := ⟨w.heap.size + 1 + 1, 1, none⟩) (by show w.heap.size ≤ w.heap.size + 1 + 1; omega) _⟩

end Go.Proofs.Ytpdfhffmhlgcmaa
