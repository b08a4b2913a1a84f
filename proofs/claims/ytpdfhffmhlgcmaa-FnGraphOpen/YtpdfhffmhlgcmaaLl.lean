/- The draw of a list: contract. -/
import Derived.Test.YtpdfhffmhlgcmaaNm
import Derived.Test.YtpdfhffmhlgcmaaDk
import Derived.Test.YtpdfhffmhlgcmaaAdS
import Derived.Test.YtpdfhffmhlgcmaaAdQ
namespace Go.Proofs.Ytpdfhffmhlgcmaa
open Go.RowKit
attribute [local go_sem ↓] Go.wp_at_zero Go.wp_at_succ

theorem grown_wide {w w' : World} {row : Option Nat} (h : w.grownBy w' none) : w.grownBy w' row := ⟨h.os, h.tape, h.output, h.size, fun k hk _ => h.block k hk (by simp)⟩

/-- The list that is drawn, and the reader, since world w0. -/
def Ls (w0 wr : World) (B g p : Nat) (v : Value) (l : List (Int × Int)) : Prop := Own wr w0.heap.size v l ∧ Rdr wr B g p ∧ w0.grownBy wr (some g) ∧ g < w0.heap.size
theorem Ls.ne {w0 wr : World} {B g p : Nat} {v : Value} {l : List (Int × Int)} (h : Ls w0 wr B g p v l) : v.ownBlock = none ∨ v.ownBlock ≠ some g := by
  cases e : v.ownBlock with
  | none => exact .inl rfl
  | some k =>
    refine .inr fun e' => ?_
    have h1 := (h.1.block k e).1
    have h2 := h.2.2.2
    have : k = g := Option.some.inj e'
    omega
theorem Ls.kept {w0 wr w' : World} {B g p q : Nat} {v : Value} {l : List (Int × Int)} (h : Ls w0 wr B g p v l) (hR : Rdr w' B g q) (hg : wr.grownBy w' (some g)) : Ls w0 w' B g q v l :=
  ⟨World.ownsRow.kept h.1 hg h.ne, hR, grown_trans h.2.2.1 hg, h.2.2.2⟩
theorem Ls.below {w0 wr w' : World} {B g p : Nat} {v : Value} {l : List (Int × Int)} (h : Ls w0 wr B g p v l) (hb : Below wr.heap.size wr w') : Ls w0 w' B g p v l :=
  ⟨h.1.later hb, h.2.1.later hb, grown_trans h.2.2.1 (grown_wide (grownBelowR hb)), h.2.2.2⟩
theorem Ls.other {w0 wr w' : World} {B g p : Nat} {v v' : Value} {l l' : List (Int × Int)} (h : Ls w0 wr B g p v l) (hb : Below wr.heap.size wr w') (ho : Own w' wr.heap.size v' l') : Ls w0 w' B g p v' l' :=
  ⟨ho.mono h.2.2.1.size, (h.below hb).2⟩

theorem grown_set_new {w0 wr : World} {row : Option Nat} (h : w0.grownBy wr row) {a : Addr} (ha : w0.heap.size ≤ a.block) (v : Value) : w0.grownBy (wr.setCell a v) row :=
  ⟨h.os, h.tape, h.output, by simpa using h.size, fun k hk hne => (Below.heap_setCell wr a v k (by omega)).trans (h.block k hk hne)⟩
theorem ecells_set2 (l : List (Int × Int)) (k : Nat) (z : Int) : (ecells l).set (k * 2 + 1) (.int .i64 z) = ecells (l.set k ((l.getD k (0, 0)).1, z)) := by
  induction l generalizing k with
  | nil => simp [ecells]
  | cons e r ih =>
    cases k with
    | zero => simp [ecells]
    | succ k =>
      rw [show (k + 1) * 2 + 1 = (k * 2 + 1) + 1 + 1 from by omega]
      simpa [ecells] using ih k
theorem ecells_set1 (l : List (Int × Int)) (k : Nat) (z : Int) : (ecells l).set (k * 2) (.int .i64 z) = ecells (l.set k (z, (l.getD k (0, 0)).2)) := by
  induction l generalizing k with
  | nil => simp [ecells]
  | cons e r ih =>
    cases k with
    | zero => simp [ecells]
    | succ k =>
      rw [show (k + 1) * 2 = k * 2 + 1 + 1 from by omega]
      simpa [ecells] using ih k
theorem Ls.set2 {w0 wr : World} {B g p gg cap : Nat} {l : List (Int × Int)} (h : Ls w0 wr B g p (.slice (some ⟨gg, 0, none⟩) l.length cap) l) (k : Nat) (z : Int) :
    Ls w0 (wr.setCell ⟨gg, k * 2 + 1, none⟩ (.int .i64 z)) B g p (.slice (some ⟨gg, 0, none⟩) l.length cap) (l.set k ((l.getD k (0, 0)).1, z)) := by
  have hgg := (h.1.block gg rfl).1
  have hg := h.2.2.2
  refine ⟨?_, h.2.1.kept (grown_set wr ⟨gg, k * 2 + 1, none⟩ _) (fun j e => by cases e; have := h.2.1.1; show B ≤ gg; omega) (fun e => by have : gg = g := Option.some.inj e; omega), grown_set_new h.2.2.1 hgg _, hg⟩
  have := (World.ownsRow.stored h.1 (k * 2 + 1) (.int .i64 z)).1
  unfold Own
  rw [ecells_set2] at this
  rw [List.length_set]; exact this
theorem Ls.set1 {w0 wr : World} {B g p gg cap : Nat} {l : List (Int × Int)} (h : Ls w0 wr B g p (.slice (some ⟨gg, 0, none⟩) l.length cap) l) (k : Nat) (z : Int) :
    Ls w0 (wr.setCell ⟨gg, k * 2, none⟩ (.int .i64 z)) B g p (.slice (some ⟨gg, 0, none⟩) l.length cap) (l.set k (z, (l.getD k (0, 0)).2)) := by
  have hgg := (h.1.block gg rfl).1
  have hg := h.2.2.2
  refine ⟨?_, h.2.1.kept (grown_set wr ⟨gg, k * 2, none⟩ _) (fun j e => by cases e; have := h.2.1.1; show B ≤ gg; omega) (fun e => by have : gg = g := Option.some.inj e; omega), grown_set_new h.2.2.1 hgg _, hg⟩
  have := (World.ownsRow.stored h.1 (k * 2) (.int .i64 z)).1
  unfold Own
  rw [ecells_set1] at this
  rw [List.length_set]; exact this

/-- The numbers of a drawn list are small. -/
def BdL (l : List (Int × Int)) : Prop := ∀ x ∈ l, (-1 ≤ x.1 ∧ x.1 ≤ 8) ∧ (-1 ≤ x.2 ∧ x.2 ≤ 1001)
theorem bd_of_ok {l : List (Int × Int)} (h : okL l = true) : BdL l := by
  induction l with
  | nil => intro x hx; cases hx
  | cons e r ih =>
    obtain ⟨he, _, hr⟩ := okL_cons.1 h
    intro x hx
    rcases List.mem_cons.1 hx with rfl | hx
    · have := rightB_iff.1 he; omega
    · exact ih hr x hx
theorem BdL.at {l : List (Int × Int)} (h : BdL l) {k : Nat} (hk : k < l.length) : (-1 ≤ (l.getD k (0, 0)).1 ∧ (l.getD k (0, 0)).1 ≤ 8) ∧ (-1 ≤ (l.getD k (0, 0)).2 ∧ (l.getD k (0, 0)).2 ≤ 1001) := by
  rw [List.getD_eq_getElem?_getD, List.getElem?_eq_getElem hk]
  exact h _ (List.getElem_mem hk)
theorem BdL.set {l : List (Int × Int)} (h : BdL l) (k : Nat) (a : Int × Int) (ha : (-1 ≤ a.1 ∧ a.1 ≤ 8) ∧ (-1 ≤ a.2 ∧ a.2 ≤ 1001)) : BdL (l.set k a) := fun x hx => by
  rcases List.mem_or_eq_of_mem_set hx with hx | rfl
  · exact h x hx
  · exact ha

theorem nums_six (w : World) : Nums (w.alloc (.cells #[.int .i64 0, .int .i64 1, .int .i64 2, .int .i64 5, .int .i64 5, .int .i64 1000] 3)) w.heap.size 6 (fun z => 0 ≤ z ∧ z ≤ 1000) := by
  refine ⟨by simp, fun i hi => ?_⟩
  rcases i with _ | _ | _ | _ | _ | _ | i
  · exact ⟨0, by go_cell, by omega⟩
  · exact ⟨1, by go_cell, by omega⟩
  · exact ⟨2, by go_cell, by omega⟩
  · exact ⟨5, by go_cell, by omega⟩
  · exact ⟨5, by go_cell, by omega⟩
  · exact ⟨1000, by go_cell, by omega⟩
  · omega
theorem nums_three (w : World) (a b c : Int) : Nums (w.alloc (.cells #[.int .i64 a, .int .i64 b, .int .i64 c] 3)) w.heap.size 3 (fun z => z = a ∨ z = b ∨ z = c) := by
  refine ⟨by simp, fun i hi => ?_⟩
  rcases i with _ | _ | _ | i
  · exact ⟨a, by go_cell, by omega⟩
  · exact ⟨b, by go_cell, by omega⟩
  · exact ⟨c, by go_cell, by omega⟩
  · omega

/-- What a law is handed, drawn since world w0 out of bytes below its end: a list. -/
theorem Ls.facts {w0 wr : World} {B g p : Nat} {v : Value} {l : List (Int × Int)} (h : Ls w0 wr B g p v l) (hB : B ≤ w0.heap.size) : Own wr B v l := h.1.mono hB

end Go.Proofs.Ytpdfhffmhlgcmaa
