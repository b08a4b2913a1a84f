/- CachePut's law: what a region of open order leaves behind. Written by a program (glcp.py). -/
import Derived.Test.YtilbaiohcfhcaaaXu
import Derived.Test.YtilbaiohcfhcaaaXy
namespace Go.Proofs.Ytilbaiohcfhcaaa
open Go.RowKit

/-- Kin that are owned (a structure, so that it is carried as the others are). -/
structure OwnB (w : World) (B : Nat) (v : Value) (l : List (Int × Int)) : Prop where
  own : Own w B v l
theorem OwnB.later {w w' : World} {B : Nat} {v : Value} {l : List (Int × Int)} (h : OwnB w B v l) (hb : Below w.heap.size w w') : OwnB w' B v l := ⟨row_later h.own hb⟩
/-- A cache's variable, laid and not yet written. -/
structure VarC (w : World) (B : Nat) : Prop where
  c0 : w.cell? ⟨B, 0, none⟩ = some (.slice none 0 0)
  c1 : w.cell? ⟨B, 1, none⟩ = some (.slice none 0 0)
  f0 : w.frozen? ⟨B, 0, none⟩ = false
  f1 : w.frozen? ⟨B, 1, none⟩ = false
  lt : B < w.heap.size
theorem VarC.new (w : World) : VarC (w.alloc (.cells #[.slice none 0 0, .slice none 0 0] 26)) w.heap.size := ⟨by go_cell, by go_cell, by (first | go_cell | (simp [World.frozen?, World.alloc]; done) | rfl), by (first | go_cell | (simp [World.frozen?, World.alloc]; done) | rfl), by simp⟩
theorem VarC.later {w w' : World} {B : Nat} (h : VarC w B) (hb : Below w.heap.size w w') : VarC w' B :=
  ⟨(hb.cell (p := ⟨B, 0, none⟩) h.lt).trans h.c0, (hb.cell (p := ⟨B, 1, none⟩) h.lt).trans h.c1, (hb.frozen (p := ⟨B, 0, none⟩) h.lt).trans h.f0, (hb.frozen (p := ⟨B, 1, none⟩) h.lt).trans h.f1, Nat.lt_of_lt_of_le h.lt hb.size⟩
theorem VarC.drawn {w w' : World} (h : Below ((w.alloc (.cells #[.slice none 0 0, .slice none 0 0] 26)).drew).heap.size ((w.alloc (.cells #[.slice none 0 0, .slice none 0 0] 26)).drew) w') : VarC w' w.heap.size :=
  (VarC.new w).later (show Below (w.alloc (.cells #[.slice none 0 0, .slice none 0 0] 26)).heap.size (w.alloc (.cells #[.slice none 0 0, .slice none 0 0] 26)) w' from (Below.refl _ _).drew.trans h)
theorem VarC.past {w w' : World} (h : Below (w.alloc (.cells #[.slice none 0 0, .slice none 0 0] 26)).heap.size (w.alloc (.cells #[.slice none 0 0, .slice none 0 0] 26)) w') : VarC w' w.heap.size := (VarC.new w).later h
/-- Behind a statement that lays a cache's variable and a Boolean: what they hold. -/
def CutS (w0 : World) (L0 L1 : List KD) (c : Bool) (s1 s2 : Value) (wx : World) : Prop :=
  ∃ (bx : Nat) (o0 o1 : Option Addr) (c0 c1 : Nat), s1 = .pointer (some ⟨bx, 0, none⟩) ∧ s2 = .bool c ∧ w0.heap.size ≤ bx ∧ bx < wx.heap.size ∧ wx.cell? ⟨bx, 0, none⟩ = some (.slice o0 L0.length c0) ∧ wx.cell? ⟨bx, 1, none⟩ = some (.slice o1 L1.length c1) ∧ RSCache wx (.slice o0 L0.length c0) (.slice o1 L1.length c1) L0 L1 ∧ Below w0.heap.size w0 wx
theorem CutS.of_new {w0 wx : World} {L0 L1 : List KD} {c : Bool} {B : Nat} {o0 o1 : Option Addr} {c0 c1 : Nat} (h : Apart B wx (.slice o0 L0.length c0) (.slice o1 L1.length c1) L0 L1) (hb : Below w0.heap.size w0 wx) :
    CutS w0 L0 L1 c (.pointer (some ⟨wx.heap.size, 0, none⟩)) (.bool c) (wx.alloc (.cells #[.slice o0 L0.length c0, .slice o1 L1.length c1] 26)) :=
  ⟨_, o0, o1, c0, c1, rfl, rfl, hb.size, by simp, by go_cell, by go_cell, h.self.later ((Below.refl _ wx).alloc (Nat.le_refl _) _), hb.alloc hb.size _⟩
theorem CutS.of_set {w0 wx : World} {L0 L1 : List KD} {c : Bool} {B bx : Nat} {o0 o1 : Option Addr} {c0 c1 : Nat} (z : VarC wx bx) (h : Apart B wx (.slice o0 L0.length c0) (.slice o1 L1.length c1) L0 L1) (hb : Below w0.heap.size w0 wx) (hx : bx < B) (h0 : w0.heap.size ≤ bx) :
    CutS w0 L0 L1 c (.pointer (some ⟨bx, 0, none⟩)) (.bool c) ((wx.setCell ⟨bx, 0, none⟩ (.slice o0 L0.length c0)).setCell ⟨bx, 1, none⟩ (.slice o1 L1.length c1)) := by
  have z0 := z.c0
  have z1 := z.c1
  exact ⟨_, o0, o1, c0, c1, rfl, rfl, h0, by simpa using z.lt, by go_cell, by go_cell, h _ ((Only.set (F := fun q => q < B) _ (p := ⟨bx, 0, none⟩) hx _).trans (Only.set (F := fun q => q < B) _ (p := ⟨bx, 1, none⟩) hx _)), (hb.setCell (p := ⟨bx, 0, none⟩) h0 _).setCell (p := ⟨bx, 1, none⟩) h0 _⟩
theorem ansP_small {w : World} {v : Value} (I F : List KD) (k p n : Int) (l : List (Int × Int)) (h1 : RdM 1 1 false w v F) : 1 + cntM 3 (ansP I F k p n l).1.1 + cntM 1 (ansP I F k p n l).1.2 ≤ 1099511627776 := by
  unfold ansP
  split
  · rename_i hok
    have hs := okC_small hok
    have hfl := floF_of h1 (okC_iff.1 hok).1
    split
    · rename_i hp
      have hf := (okC_putF hfl hp).all
      have hlen : (putI k p n l I).length ≤ 4 := by unfold putI; rw [List.length_take]; omega
      have h3 := cntM_le19 (putI k p n l I) (fun x hx => by
        rcases List.mem_cons.1 (List.mem_of_mem_take hx) with rfl | hm
        · have hq := hp
          unfold putB itR at hq
          simp only [Bool.and_eq_true] at hq
          exact okV_le hq.1.2
        · exact hs.2 x (List.mem_filter.1 hm).1)
      simp only
      rw [hf]
      omega
    · have h3 := cntM_le19 I hs.2
      simp only
      rw [hfl.all]
      omega
  · simp [cntM]
theorem EndC.apart {B : Nat} {w' : World} {I F : List KD} {r : Value} (h : EndC B w' I F (.returned r)) : ∃ v0 v1, r = .agg #[v0, v1] ∧ Apart B w' v0 v1 I F := by
  obtain ⟨a, c, fv, g, he, hB, hg, ho, hf⟩ := h
  injection he with he
  exact ⟨_, fv, he, fun w2 h2 => ⟨(ho.agree (G := fun _ => True) (fun b hb hl => h2.block b hl (by have := hb.1; omega)) (fun _ _ _ => trivial)).rd (by decide) (by decide), (hf.agree (fun hl => h2.block g hl (by omega))).rd⟩⟩
end Go.Proofs.Ytilbaiohcfhcaaa
