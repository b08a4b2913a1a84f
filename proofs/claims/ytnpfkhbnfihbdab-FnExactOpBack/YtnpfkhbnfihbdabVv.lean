/- Struct variables that a statement lays whose order is open: plain facts. -/
import Derived.Test.YtnpfkhbnfihbdabMark
import Derived.Test.YtnpfkhbnfihbdabVm
namespace Go.Proofs.Ytnpfkhbnfihbdab
open Go.RowKit

/-- A struct variable of the call's own, laid since world w0, that holds a value with kin of their own. -/
def VarV (w0 : World) (B0 : Nat) (s : Value) (n : Int) (l : List (Int × Int)) (wx : World) : Prop :=
  ∃ (B : Nat) (v : Value), s = .pointer (some ⟨B, 0, none⟩) ∧ B0 ≤ B ∧ B < wx.heap.size ∧ wx.cell? ⟨B, 0, none⟩ = some (.int .i64 n) ∧ wx.cell? ⟨B, 1, none⟩ = some v ∧ Own wx B0 v l ∧ v.ownBlock ≠ some B ∧ Below B0 w0 wx

/-- A struct variable of two cells, laid and not yet written. -/
structure VarZ (w : World) (B : Nat) : Prop where
  c0 : w.cell? ⟨B, 0, none⟩ = some (.int .i64 0)
  c1 : w.cell? ⟨B, 1, none⟩ = some (.slice none 0 0)
  f0 : w.frozen? ⟨B, 0, none⟩ = false
  f1 : w.frozen? ⟨B, 1, none⟩ = false
  lt : B < w.heap.size
theorem VarZ.later {w w' : World} {B : Nat} (h : VarZ w B) (hb : Below w.heap.size w w') : VarZ w' B :=
  ⟨(hb.cell (p := ⟨B, 0, none⟩) h.lt).trans h.c0, (hb.cell (p := ⟨B, 1, none⟩) h.lt).trans h.c1, (hb.frozen (p := ⟨B, 0, none⟩) h.lt).trans h.f0, (hb.frozen (p := ⟨B, 1, none⟩) h.lt).trans h.f1, Nat.lt_of_lt_of_le h.lt hb.size⟩
theorem VarZ.new (w : World) (t : TypeId) : VarZ (w.alloc (.cells #[.int .i64 0, .slice none 0 0] t)) w.heap.size := ⟨by go_cell, by go_cell, by (first | go_cell | (simp [World.frozen?, World.alloc]; done) | rfl), by (first | go_cell | (simp [World.frozen?, World.alloc]; done) | rfl), by simp⟩
theorem VarZ.drawn {w w' : World} {t : TypeId} (h : Below ((w.alloc (.cells #[.int .i64 0, .slice none 0 0] t)).drew).heap.size ((w.alloc (.cells #[.int .i64 0, .slice none 0 0] t)).drew) w') : VarZ w' w.heap.size :=
  (VarZ.new w t).later (show Below (w.alloc (.cells #[.int .i64 0, .slice none 0 0] t)).heap.size (w.alloc (.cells #[.int .i64 0, .slice none 0 0] t)) w' from (Below.refl _ _).drew.trans h)
theorem VarZ.past {w w' : World} {t : TypeId} (h : Below (w.alloc (.cells #[.int .i64 0, .slice none 0 0] t)).heap.size (w.alloc (.cells #[.int .i64 0, .slice none 0 0] t)) w') : VarZ w' w.heap.size := (VarZ.new w t).later h
theorem Own.set_ne {w : World} {B : Nat} {v : Value} {l : List (Int × Int)} {p : Addr} (h : Own w B v l) (hp : v.ownBlock ≠ some p.block) (u : Value) : Own (w.setCell p u) B v l := by
  refine ⟨h.1, ?_⟩
  rcases h.2 with hn | ⟨g, cap, cur, rfl, hbg, hgg, rest⟩
  · exact .inl hn
  · exact .inr ⟨g, cap, cur, rfl, hbg, (Below.heap_setCell w p u g (fun e => hp (by rw [← e]; rfl))).trans hgg, rest⟩

theorem VarV.of_new {w0 w : World} {B0 B4 : Nat} {v : Value} {n : Int} {l : List (Int × Int)} {t : TypeId} (h : Own w B4 v l) (h4 : B0 ≤ B4) (hs : B0 ≤ w.heap.size) (hb : Below B0 w0 w) :
    VarV w0 B0 (.pointer (some ⟨w.heap.size, 0, none⟩)) n l (w.alloc (.cells #[.int .i64 n, v] t)) :=
  ⟨_, v, rfl, hs, by simp, by go_cell, by go_cell, Own.mono (row_later h ((Below.refl _ w).alloc (Nat.le_refl _) _)) h4, fun e => by have := (h.block _ e).2; omega, hb.alloc hs _⟩
theorem VarV.of_set {w0 w : World} {B0 B4 B : Nat} {v : Value} {n : Int} {l : List (Int × Int)} (z : VarZ w B) (h : Own w B4 v l) (h4 : B0 ≤ B4) (hB : B0 ≤ B) (hBB : B < B4) (hb : Below B0 w0 w) :
    VarV w0 B0 (.pointer (some ⟨B, 0, none⟩)) n l ((w.setCell ⟨B, 0, none⟩ (.int .i64 n)).setCell ⟨B, 1, none⟩ v) := by
  have hne : v.ownBlock ≠ some B := fun e => by have := (h.block _ e).1; omega
  have z0 := z.c0
  have z1 := z.c1
  have zl := z.lt
  exact ⟨_, v, rfl, hB, by simpa using zl, by go_cell, by go_cell, Own.mono ((Own.set_ne h (p := ⟨B, 0, none⟩) hne _).set_ne (p := ⟨B, 1, none⟩) hne _) h4, hne, (hb.setCell (p := ⟨B, 0, none⟩) hB _).setCell (p := ⟨B, 1, none⟩) hB _⟩

end Go.Proofs.Ytnpfkhbnfihbdab
