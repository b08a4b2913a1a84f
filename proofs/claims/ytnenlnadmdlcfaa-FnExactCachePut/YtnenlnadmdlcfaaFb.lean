/- Rows of numbers: elements by how many numbers they have. Written by a program (gk.py). -/
import Derived.Test.YtnenlnadmdlcfaaFa
namespace Go.Proofs.Ytnenlnadmdlcfaa
open Go.RowKit

theorem heap_set_ne {w w0 : World} {b g j : Nat} {x : Value} (h : b ≠ g) (h0 : w.heap[b]? = w0.heap[b]?) : (w.setCell ⟨g, j, none⟩ x).heap[b]? = w0.heap[b]? := (Below.heap_setCell w ⟨g, j, none⟩ x b h).trans h0
theorem row_mono0 {w : World} {B : Nat} {e : TypeId} {size : Nat} {v : Value} {n : Nat} {xs : List Value} (h : w.ownsRow B e size v n xs) : w.ownsRow 0 e size v n xs := by
  refine ⟨h.1, ?_⟩
  rcases h.2 with hn | ⟨g, cap, cur, rfl, hbg, rest⟩
  · exact .inl hn
  · exact .inr ⟨g, cap, cur, rfl, Nat.zero_le _, rest⟩
theorem row_put1 {w : World} {B : Nat} {e : TypeId} {size : Nat} {g n cap : Nat} {xs : List Value} (h : w.ownsRow B e size (.slice (some ⟨g, 0, none⟩) n cap) n xs) (j : Nat) (a : Value) :
    (w.setCell ⟨g, j, none⟩ a).ownsRow B e size (.slice (some ⟨g, 0, none⟩) n cap) n (xs.set j a) := (h.stored j a).1
theorem atK_1k {w : World} {b p : Nat} {x : KD} (h : AtK 1 true w b p x) : ∃ a0 l u, x = ([a0], l) ∧ w.cell? ⟨b, p, none⟩ = some (.int .i64 a0) ∧ w.cell? ⟨b, p + 1, none⟩ = some u ∧ Rd w u l := by
  obtain ⟨xs, l⟩ := x
  have hl := h.len
  match xs, hl, h with
  | [a0], _, h =>
    obtain ⟨u, h1, h2⟩ := h.kin rfl
    exact ⟨a0, l, u, rfl, h.num 0 (by decide), h1, h2⟩
theorem kd_1k {x : KD} (h : x.1.length = 1) : ∃ a0 l, x = ([a0], l) := by
  obtain ⟨xs, l⟩ := x
  match xs, h with
  | [a0], _ => exact ⟨a0, l, rfl⟩
theorem relK_1k (q : Int) (a0 : Int) (l : List (Int × Int)) : relK 1 q ([a0], l) = ([q], markL (q + 1) l.length) := by
  have e : (List.range 1).map (fun j : Nat => q + (j : Int)) = [q] := by simp [List.range, List.range.loop]
  simp only [relK, e]
  rw [show q + ((1 : Nat) : Int) = q + 1 from by omega]
theorem OwM.mark_1k {e : TypeId} {w : World} {F : Nat → Prop} {v : Value} {M : List KD} {xs : List Value} {us : Nat → Value} {g j : Nat} {a0 : Int} {l : List (Int × Int)} (h : OwM e 2 1 true w F v M xs us) (hj : j < M.length) (hx : M.getD j kd0 = ([a0], l)) (hg : v.ownBlock = some g) (q : Int) :
    ∃ xs', OwM e 2 1 true (w.setCell ⟨g, j * 2, none⟩ (.int .i64 (q))) F v (M.set j ([q], l)) xs' us := by
  have h0 := OwM.setNum (t := 0) h (by decide) (by decide) hg (by simpa using hj) (by decide) (q)
  rw [hx] at h0
  simp only [List.set_cons_zero] at h0
  exact ⟨_, h0⟩
theorem atK_2k {w : World} {b p : Nat} {x : KD} (h : AtK 2 true w b p x) : ∃ a0 a1 l u, x = ([a0, a1], l) ∧ w.cell? ⟨b, p, none⟩ = some (.int .i64 a0) ∧ w.cell? ⟨b, p + 1, none⟩ = some (.int .i64 a1) ∧ w.cell? ⟨b, p + 2, none⟩ = some u ∧ Rd w u l := by
  obtain ⟨xs, l⟩ := x
  have hl := h.len
  match xs, hl, h with
  | [a0, a1], _, h =>
    obtain ⟨u, h1, h2⟩ := h.kin rfl
    exact ⟨a0, a1, l, u, rfl, h.num 0 (by decide), h.num 1 (by decide), h1, h2⟩
theorem kd_2k {x : KD} (h : x.1.length = 2) : ∃ a0 a1 l, x = ([a0, a1], l) := by
  obtain ⟨xs, l⟩ := x
  match xs, h with
  | [a0, a1], _ => exact ⟨a0, a1, l, rfl⟩
theorem relK_2k (q : Int) (a0 a1 : Int) (l : List (Int × Int)) : relK 2 q ([a0, a1], l) = ([q, q + 1], markL (q + 1 + 1) l.length) := by
  have e : (List.range 2).map (fun j : Nat => q + (j : Int)) = [q, q + 1] := by simp [List.range, List.range.loop]
  simp only [relK, e]
  rw [show q + ((2 : Nat) : Int) = q + 1 + 1 from by omega]
theorem OwM.mark_2k {e : TypeId} {w : World} {F : Nat → Prop} {v : Value} {M : List KD} {xs : List Value} {us : Nat → Value} {g j : Nat} {a0 a1 : Int} {l : List (Int × Int)} (h : OwM e 3 2 true w F v M xs us) (hj : j < M.length) (hx : M.getD j kd0 = ([a0, a1], l)) (hg : v.ownBlock = some g) (q : Int) :
    ∃ xs', OwM e 3 2 true ((w.setCell ⟨g, j * 3, none⟩ (.int .i64 (q))).setCell ⟨g, j * 3 + 1, none⟩ (.int .i64 (q + 1))) F v (M.set j ([q, q + 1], l)) xs' us := by
  have h0 := OwM.setNum (t := 0) h (by decide) (by decide) hg (by simpa using hj) (by decide) (q)
  rw [hx] at h0
  simp only [List.set_cons_zero] at h0
  have h1 := OwM.setNum (t := 1) h0 (by decide) (by decide) hg (by simpa using hj) (by decide) (q + 1)
  rw [kd_getD_set hj, if_pos rfl] at h1
  simp only [List.set_cons_zero, List.set_cons_succ, List.set_set] at h1
  exact ⟨_, h1⟩
theorem atK_3k {w : World} {b p : Nat} {x : KD} (h : AtK 3 true w b p x) : ∃ a0 a1 a2 l u, x = ([a0, a1, a2], l) ∧ w.cell? ⟨b, p, none⟩ = some (.int .i64 a0) ∧ w.cell? ⟨b, p + 1, none⟩ = some (.int .i64 a1) ∧ w.cell? ⟨b, p + 2, none⟩ = some (.int .i64 a2) ∧ w.cell? ⟨b, p + 3, none⟩ = some u ∧ Rd w u l := by
  obtain ⟨xs, l⟩ := x
  have hl := h.len
  match xs, hl, h with
  | [a0, a1, a2], _, h =>
    obtain ⟨u, h1, h2⟩ := h.kin rfl
    exact ⟨a0, a1, a2, l, u, rfl, h.num 0 (by decide), h.num 1 (by decide), h.num 2 (by decide), h1, h2⟩
theorem kd_3k {x : KD} (h : x.1.length = 3) : ∃ a0 a1 a2 l, x = ([a0, a1, a2], l) := by
  obtain ⟨xs, l⟩ := x
  match xs, h with
  | [a0, a1, a2], _ => exact ⟨a0, a1, a2, l, rfl⟩
theorem relK_3k (q : Int) (a0 a1 a2 : Int) (l : List (Int × Int)) : relK 3 q ([a0, a1, a2], l) = ([q, q + 1, q + 1 + 1], markL (q + 1 + 1 + 1) l.length) := by
  have e : (List.range 3).map (fun j : Nat => q + (j : Int)) = [q, q + 1, q + 1 + 1] := by simp [List.range, List.range.loop] <;> omega
  simp only [relK, e]
  rw [show q + ((3 : Nat) : Int) = q + 1 + 1 + 1 from by omega]
theorem OwM.mark_3k {e : TypeId} {w : World} {F : Nat → Prop} {v : Value} {M : List KD} {xs : List Value} {us : Nat → Value} {g j : Nat} {a0 a1 a2 : Int} {l : List (Int × Int)} (h : OwM e 4 3 true w F v M xs us) (hj : j < M.length) (hx : M.getD j kd0 = ([a0, a1, a2], l)) (hg : v.ownBlock = some g) (q : Int) :
    ∃ xs', OwM e 4 3 true (((w.setCell ⟨g, j * 4, none⟩ (.int .i64 (q))).setCell ⟨g, j * 4 + 1, none⟩ (.int .i64 (q + 1))).setCell ⟨g, j * 4 + 2, none⟩ (.int .i64 (q + 1 + 1))) F v (M.set j ([q, q + 1, q + 1 + 1], l)) xs' us := by
  have h0 := OwM.setNum (t := 0) h (by decide) (by decide) hg (by simpa using hj) (by decide) (q)
  rw [hx] at h0
  simp only [List.set_cons_zero] at h0
  have h1 := OwM.setNum (t := 1) h0 (by decide) (by decide) hg (by simpa using hj) (by decide) (q + 1)
  rw [kd_getD_set hj, if_pos rfl] at h1
  simp only [List.set_cons_zero, List.set_cons_succ, List.set_set] at h1
  have h2 := OwM.setNum (t := 2) h1 (by decide) (by decide) hg (by simpa using hj) (by decide) (q + 1 + 1)
  rw [kd_getD_set hj, if_pos rfl] at h2
  simp only [List.set_cons_zero, List.set_cons_succ, List.set_set] at h2
  exact ⟨_, h2⟩
theorem atK_6n {w : World} {b p : Nat} {x : KD} (h : AtK 6 false w b p x) : ∃ a0 a1 a2 a3 a4 a5, x = ([a0, a1, a2, a3, a4, a5], []) ∧ w.cell? ⟨b, p, none⟩ = some (.int .i64 a0) ∧ w.cell? ⟨b, p + 1, none⟩ = some (.int .i64 a1) ∧ w.cell? ⟨b, p + 2, none⟩ = some (.int .i64 a2) ∧ w.cell? ⟨b, p + 3, none⟩ = some (.int .i64 a3) ∧ w.cell? ⟨b, p + 4, none⟩ = some (.int .i64 a4) ∧ w.cell? ⟨b, p + 5, none⟩ = some (.int .i64 a5) := by
  obtain ⟨xs, l⟩ := x
  have hl := h.len
  match xs, hl, h with
  | [a0, a1, a2, a3, a4, a5], _, h =>
    have hz := h.non rfl
    simp only at hz
    subst hz
    exact ⟨a0, a1, a2, a3, a4, a5, rfl, h.num 0 (by decide), h.num 1 (by decide), h.num 2 (by decide), h.num 3 (by decide), h.num 4 (by decide), h.num 5 (by decide)⟩
theorem kd_6n {x : KD} (h : x.1.length = 6) (hz : x.2 = []) : ∃ a0 a1 a2 a3 a4 a5, x = ([a0, a1, a2, a3, a4, a5], []) := by
  obtain ⟨xs, l⟩ := x
  simp only at hz
  subst hz
  match xs, h with
  | [a0, a1, a2, a3, a4, a5], _ => exact ⟨a0, a1, a2, a3, a4, a5, rfl⟩
theorem relK_6n (q : Int) (a0 a1 a2 a3 a4 a5 : Int) : relK 6 q ([a0, a1, a2, a3, a4, a5], []) = ([q, q + 1, q + 1 + 1, q + 1 + 1 + 1, q + 1 + 1 + 1 + 1, q + 1 + 1 + 1 + 1 + 1], []) := by
  have e : (List.range 6).map (fun j : Nat => q + (j : Int)) = [q, q + 1, q + 1 + 1, q + 1 + 1 + 1, q + 1 + 1 + 1 + 1, q + 1 + 1 + 1 + 1 + 1] := by simp [List.range, List.range.loop] <;> omega
  simp only [relK, e]
  simp [markL]
theorem OwM.mark_6n {e : TypeId} {w : World} {F : Nat → Prop} {v : Value} {M : List KD} {xs : List Value} {us : Nat → Value} {g j : Nat} {a0 a1 a2 a3 a4 a5 : Int} (h : OwM e 6 6 false w F v M xs us) (hj : j < M.length) (hx : M.getD j kd0 = ([a0, a1, a2, a3, a4, a5], [])) (hg : v.ownBlock = some g) (q : Int) :
    ∃ xs', OwM e 6 6 false ((((((w.setCell ⟨g, j * 6, none⟩ (.int .i64 (q))).setCell ⟨g, j * 6 + 1, none⟩ (.int .i64 (q + 1))).setCell ⟨g, j * 6 + 2, none⟩ (.int .i64 (q + 1 + 1))).setCell ⟨g, j * 6 + 3, none⟩ (.int .i64 (q + 1 + 1 + 1))).setCell ⟨g, j * 6 + 4, none⟩ (.int .i64 (q + 1 + 1 + 1 + 1))).setCell ⟨g, j * 6 + 5, none⟩ (.int .i64 (q + 1 + 1 + 1 + 1 + 1))) F v (M.set j ([q, q + 1, q + 1 + 1, q + 1 + 1 + 1, q + 1 + 1 + 1 + 1, q + 1 + 1 + 1 + 1 + 1], [])) xs' us := by
  have h0 := OwM.setNum (t := 0) h (by decide) (by decide) hg (by simpa using hj) (by decide) (q)
  rw [hx] at h0
  simp only [List.set_cons_zero] at h0
  have h1 := OwM.setNum (t := 1) h0 (by decide) (by decide) hg (by simpa using hj) (by decide) (q + 1)
  rw [kd_getD_set hj, if_pos rfl] at h1
  simp only [List.set_cons_zero, List.set_cons_succ, List.set_set] at h1
  have h2 := OwM.setNum (t := 2) h1 (by decide) (by decide) hg (by simpa using hj) (by decide) (q + 1 + 1)
  rw [kd_getD_set hj, if_pos rfl] at h2
  simp only [List.set_cons_zero, List.set_cons_succ, List.set_set] at h2
  have h3 := OwM.setNum (t := 3) h2 (by decide) (by decide) hg (by simpa using hj) (by decide) (q + 1 + 1 + 1)
  rw [kd_getD_set hj, if_pos rfl] at h3
  simp only [List.set_cons_zero, List.set_cons_succ, List.set_set] at h3
  have h4 := OwM.setNum (t := 4) h3 (by decide) (by decide) hg (by simpa using hj) (by decide) (q + 1 + 1 + 1 + 1)
  rw [kd_getD_set hj, if_pos rfl] at h4
  simp only [List.set_cons_zero, List.set_cons_succ, List.set_set] at h4
  have h5 := OwM.setNum (t := 5) h4 (by decide) (by decide) hg (by simpa using hj) (by decide) (q + 1 + 1 + 1 + 1 + 1)
  rw [kd_getD_set hj, if_pos rfl] at h5
  simp only [List.set_cons_zero, List.set_cons_succ, List.set_set] at h5
  exact ⟨_, h5⟩
theorem atK_5n {w : World} {b p : Nat} {x : KD} (h : AtK 5 false w b p x) : ∃ a0 a1 a2 a3 a4, x = ([a0, a1, a2, a3, a4], []) ∧ w.cell? ⟨b, p, none⟩ = some (.int .i64 a0) ∧ w.cell? ⟨b, p + 1, none⟩ = some (.int .i64 a1) ∧ w.cell? ⟨b, p + 2, none⟩ = some (.int .i64 a2) ∧ w.cell? ⟨b, p + 3, none⟩ = some (.int .i64 a3) ∧ w.cell? ⟨b, p + 4, none⟩ = some (.int .i64 a4) := by
  obtain ⟨xs, l⟩ := x
  have hl := h.len
  match xs, hl, h with
  | [a0, a1, a2, a3, a4], _, h =>
    have hz := h.non rfl
    simp only at hz
    subst hz
    exact ⟨a0, a1, a2, a3, a4, rfl, h.num 0 (by decide), h.num 1 (by decide), h.num 2 (by decide), h.num 3 (by decide), h.num 4 (by decide)⟩
theorem kd_5n {x : KD} (h : x.1.length = 5) (hz : x.2 = []) : ∃ a0 a1 a2 a3 a4, x = ([a0, a1, a2, a3, a4], []) := by
  obtain ⟨xs, l⟩ := x
  simp only at hz
  subst hz
  match xs, h with
  | [a0, a1, a2, a3, a4], _ => exact ⟨a0, a1, a2, a3, a4, rfl⟩
theorem relK_5n (q : Int) (a0 a1 a2 a3 a4 : Int) : relK 5 q ([a0, a1, a2, a3, a4], []) = ([q, q + 1, q + 1 + 1, q + 1 + 1 + 1, q + 1 + 1 + 1 + 1], []) := by
  have e : (List.range 5).map (fun j : Nat => q + (j : Int)) = [q, q + 1, q + 1 + 1, q + 1 + 1 + 1, q + 1 + 1 + 1 + 1] := by simp [List.range, List.range.loop] <;> omega
  simp only [relK, e]
  simp [markL]
theorem OwM.mark_5n {e : TypeId} {w : World} {F : Nat → Prop} {v : Value} {M : List KD} {xs : List Value} {us : Nat → Value} {g j : Nat} {a0 a1 a2 a3 a4 : Int} (h : OwM e 5 5 false w F v M xs us) (hj : j < M.length) (hx : M.getD j kd0 = ([a0, a1, a2, a3, a4], [])) (hg : v.ownBlock = some g) (q : Int) :
    ∃ xs', OwM e 5 5 false (((((w.setCell ⟨g, j * 5, none⟩ (.int .i64 (q))).setCell ⟨g, j * 5 + 1, none⟩ (.int .i64 (q + 1))).setCell ⟨g, j * 5 + 2, none⟩ (.int .i64 (q + 1 + 1))).setCell ⟨g, j * 5 + 3, none⟩ (.int .i64 (q + 1 + 1 + 1))).setCell ⟨g, j * 5 + 4, none⟩ (.int .i64 (q + 1 + 1 + 1 + 1))) F v (M.set j ([q, q + 1, q + 1 + 1, q + 1 + 1 + 1, q + 1 + 1 + 1 + 1], [])) xs' us := by
  have h0 := OwM.setNum (t := 0) h (by decide) (by decide) hg (by simpa using hj) (by decide) (q)
  rw [hx] at h0
  simp only [List.set_cons_zero] at h0
  have h1 := OwM.setNum (t := 1) h0 (by decide) (by decide) hg (by simpa using hj) (by decide) (q + 1)
  rw [kd_getD_set hj, if_pos rfl] at h1
  simp only [List.set_cons_zero, List.set_cons_succ, List.set_set] at h1
  have h2 := OwM.setNum (t := 2) h1 (by decide) (by decide) hg (by simpa using hj) (by decide) (q + 1 + 1)
  rw [kd_getD_set hj, if_pos rfl] at h2
  simp only [List.set_cons_zero, List.set_cons_succ, List.set_set] at h2
  have h3 := OwM.setNum (t := 3) h2 (by decide) (by decide) hg (by simpa using hj) (by decide) (q + 1 + 1 + 1)
  rw [kd_getD_set hj, if_pos rfl] at h3
  simp only [List.set_cons_zero, List.set_cons_succ, List.set_set] at h3
  have h4 := OwM.setNum (t := 4) h3 (by decide) (by decide) hg (by simpa using hj) (by decide) (q + 1 + 1 + 1 + 1)
  rw [kd_getD_set hj, if_pos rfl] at h4
  simp only [List.set_cons_zero, List.set_cons_succ, List.set_set] at h4
  exact ⟨_, h4⟩
theorem atK_3n {w : World} {b p : Nat} {x : KD} (h : AtK 3 false w b p x) : ∃ a0 a1 a2, x = ([a0, a1, a2], []) ∧ w.cell? ⟨b, p, none⟩ = some (.int .i64 a0) ∧ w.cell? ⟨b, p + 1, none⟩ = some (.int .i64 a1) ∧ w.cell? ⟨b, p + 2, none⟩ = some (.int .i64 a2) := by
  obtain ⟨xs, l⟩ := x
  have hl := h.len
  match xs, hl, h with
  | [a0, a1, a2], _, h =>
    have hz := h.non rfl
    simp only at hz
    subst hz
    exact ⟨a0, a1, a2, rfl, h.num 0 (by decide), h.num 1 (by decide), h.num 2 (by decide)⟩
theorem kd_3n {x : KD} (h : x.1.length = 3) (hz : x.2 = []) : ∃ a0 a1 a2, x = ([a0, a1, a2], []) := by
  obtain ⟨xs, l⟩ := x
  simp only at hz
  subst hz
  match xs, h with
  | [a0, a1, a2], _ => exact ⟨a0, a1, a2, rfl⟩
theorem relK_3n (q : Int) (a0 a1 a2 : Int) : relK 3 q ([a0, a1, a2], []) = ([q, q + 1, q + 1 + 1], []) := by
  have e : (List.range 3).map (fun j : Nat => q + (j : Int)) = [q, q + 1, q + 1 + 1] := by simp [List.range, List.range.loop] <;> omega
  simp only [relK, e]
  simp [markL]
theorem OwM.mark_3n {e : TypeId} {w : World} {F : Nat → Prop} {v : Value} {M : List KD} {xs : List Value} {us : Nat → Value} {g j : Nat} {a0 a1 a2 : Int} (h : OwM e 3 3 false w F v M xs us) (hj : j < M.length) (hx : M.getD j kd0 = ([a0, a1, a2], [])) (hg : v.ownBlock = some g) (q : Int) :
    ∃ xs', OwM e 3 3 false (((w.setCell ⟨g, j * 3, none⟩ (.int .i64 (q))).setCell ⟨g, j * 3 + 1, none⟩ (.int .i64 (q + 1))).setCell ⟨g, j * 3 + 2, none⟩ (.int .i64 (q + 1 + 1))) F v (M.set j ([q, q + 1, q + 1 + 1], [])) xs' us := by
  have h0 := OwM.setNum (t := 0) h (by decide) (by decide) hg (by simpa using hj) (by decide) (q)
  rw [hx] at h0
  simp only [List.set_cons_zero] at h0
  have h1 := OwM.setNum (t := 1) h0 (by decide) (by decide) hg (by simpa using hj) (by decide) (q + 1)
  rw [kd_getD_set hj, if_pos rfl] at h1
  simp only [List.set_cons_zero, List.set_cons_succ, List.set_set] at h1
  have h2 := OwM.setNum (t := 2) h1 (by decide) (by decide) hg (by simpa using hj) (by decide) (q + 1 + 1)
  rw [kd_getD_set hj, if_pos rfl] at h2
  simp only [List.set_cons_zero, List.set_cons_succ, List.set_set] at h2
  exact ⟨_, h2⟩
theorem atK_1n {w : World} {b p : Nat} {x : KD} (h : AtK 1 false w b p x) : ∃ a0, x = ([a0], []) ∧ w.cell? ⟨b, p, none⟩ = some (.int .i64 a0) := by
  obtain ⟨xs, l⟩ := x
  have hl := h.len
  match xs, hl, h with
  | [a0], _, h =>
    have hz := h.non rfl
    simp only at hz
    subst hz
    exact ⟨a0, rfl, h.num 0 (by decide)⟩
theorem kd_1n {x : KD} (h : x.1.length = 1) (hz : x.2 = []) : ∃ a0, x = ([a0], []) := by
  obtain ⟨xs, l⟩ := x
  simp only at hz
  subst hz
  match xs, h with
  | [a0], _ => exact ⟨a0, rfl⟩
theorem relK_1n (q : Int) (a0 : Int) : relK 1 q ([a0], []) = ([q], []) := by
  have e : (List.range 1).map (fun j : Nat => q + (j : Int)) = [q] := by simp [List.range, List.range.loop]
  simp only [relK, e]
  simp [markL]
theorem OwM.mark_1n {e : TypeId} {w : World} {F : Nat → Prop} {v : Value} {M : List KD} {xs : List Value} {us : Nat → Value} {g j : Nat} {a0 : Int} (h : OwM e 1 1 false w F v M xs us) (hj : j < M.length) (hx : M.getD j kd0 = ([a0], [])) (hg : v.ownBlock = some g) (q : Int) :
    ∃ xs', OwM e 1 1 false (w.setCell ⟨g, j * 1, none⟩ (.int .i64 (q))) F v (M.set j ([q], [])) xs' us := by
  have h0 := OwM.setNum (t := 0) h (by decide) (by decide) hg (by simpa using hj) (by decide) (q)
  rw [hx] at h0
  simp only [List.set_cons_zero] at h0
  exact ⟨_, h0⟩
end Go.Proofs.Ytnenlnadmdlcfaa
