/- Draws of a cache with a key, an item, a floor: contracts. Written by a program (gyf.py). -/
import Derived.Test.YtilbaiohcfhcaaaYe
import Derived.Test.YtilbaiohcfhcaaaGrF
import Derived.Deep.Cut
namespace Go.Proofs.Ytilbaiohcfhcaaa
open Go.RowKit
attribute [local go_sem ↓] Go.wp_at_zero Go.wp_at_succ

/-- A cache that reads so whatever becomes of the blocks below N and from M on. -/
def ApC (N M : Nat) (w : World) (v0 v1 : Value) (I F : List KD) : Prop := ∀ w2, Only (fun q => q < N ∨ M ≤ q) w w2 → RSCache w2 v0 v1 I F
theorem Apart.apC {N : Nat} {w : World} {v0 v1 : Value} {I F : List KD} (h : Apart N w v0 v1 I F) : ApC N w.heap.size w v0 v1 I F := fun w2 h2 => h w2 ⟨h2.os, h2.tape, h2.output, h2.size, fun k hk hn => h2.block k hk (fun e => e.elim hn (fun e => by omega))⟩
theorem ApC.only {N M : Nat} {w w' : World} {v0 v1 : Value} {I F : List KD} (h : ApC N M w v0 v1 I F) (ho : Only (fun q => q < N ∨ M ≤ q) w w') : ApC N M w' v0 v1 I F := fun w2 h2 => h w2 (ho.trans h2)
theorem ApC.kept {N M g : Nat} {w w' : World} {v0 v1 : Value} {I F : List KD} (h : ApC N M w v0 v1 I F) (hg : w.grownBy w' (some g)) (hB : g < N) : ApC N M w' v0 v1 I F := h.only (Only.of_grown hg (fun k e => by have := Option.some.inj e; show k < N ∨ M ≤ k; omega))
theorem ApC.later {N M : Nat} {w w' : World} {v0 v1 : Value} {I F : List KD} (h : ApC N M w v0 v1 I F) (hb : Below w.heap.size w w') : ApC N M w' v0 v1 I F := h.only (Only.later hb)
theorem ApC.set {N M : Nat} {w : World} {v0 v1 : Value} {I F : List KD} (h : ApC N M w v0 v1 I F) {p : Addr} (hp : p.block < N ∨ M ≤ p.block) (u : Value) : ApC N M (w.setCell p u) v0 v1 I F := h.only (Only.set (F := fun q => q < N ∨ M ≤ q) w hp u)
theorem ApC.self {N M : Nat} {w : World} {v0 v1 : Value} {I F : List KD} (h : ApC N M w v0 v1 I F) : RSCache w v0 v1 I F := h w (Only.refl _ _)
/-- The key of an item. -/
theorem key_cell {w : World} {b off n c : Nat} {I : List KD} (h : RdM 4 3 true w (.slice (some ⟨b, off, none⟩) n c) I) (k : Nat) (hk : k < I.length) : w.cell? ⟨b, off + k * 4, none⟩ = some (.int .i64 (keyK (I.getD k kd0))) := by
  obtain ⟨ao, cap, hv, _, hc⟩ := h
  injection hv with h1 _ _
  obtain ⟨b', o', ha, _, hcc⟩ := hc (by omega)
  rw [← h1] at ha
  injection ha with ha
  injection ha with hb ho _
  subst hb ho
  exact (hcc k hk).num 0 (by omega)
theorem flo_cell {w : World} {b off n c : Nat} {F : List KD} (h : RdM 1 1 false w (.slice (some ⟨b, off, none⟩) n c) F) (k : Nat) (hk : k < F.length) : w.cell? ⟨b, off + k, none⟩ = some (.int .i64 (flr F k)) := by
  obtain ⟨ao, cap, hv, _, hc⟩ := h
  injection hv with h1 _ _
  obtain ⟨b', o', ha, _, hcc⟩ := hc (by omega)
  rw [← h1] at ha
  injection ha with ha
  injection ha with hb ho _
  subst hb ho
  have := (hcc k hk).num 0 (by omega)
  rwa [Nat.mul_one] at this
theorem rdm_some {sz m : Nat} {kn : Bool} {w : World} {ao : Option Addr} {n c : Nat} {I : List KD} (h : RdM sz m kn w (.slice ao n c) I) (h0 : 0 < I.length) : ∃ b off, ao = some ⟨b, off, none⟩ := by
  obtain ⟨ao', cap, hv, _, hc⟩ := h
  injection hv with h1 _ _
  obtain ⟨b', o', ha, _⟩ := hc h0
  exact ⟨b', o', h1.trans ha⟩
theorem rdm_lt {sz m : Nat} {kn : Bool} {w : World} {b off n c : Nat} {I : List KD} (h : RdM sz m kn w (.slice (some ⟨b, off, none⟩) n c) I) (h0 : 0 < I.length) : b < w.heap.size := by
  obtain ⟨ao', cap, hv, _, hc⟩ := h
  injection hv with h1 _ _
  obtain ⟨b', o', ha, hb, _⟩ := hc h0
  rw [← h1] at ha
  injection ha with ha
  injection ha with hb' _ _
  omega
theorem ApC.item_far {N M : Nat} {w : World} {b o n c : Nat} {v1 : Value} {I F : List KD} (h : ApC N M w (.slice (some ⟨b, o, none⟩) n c) v1 I F) (h0 : 0 < I.length) : N ≤ b ∧ b < M := by
  by_cases hb : b < N ∨ M ≤ b
  · have hc := key_cell h.self.h0 0 h0
    have h2 := key_cell (h (w.setCell ⟨b, o + 0 * 4, none⟩ (.bool false)) (Only.set (F := fun q => q < N ∨ M ≤ q) w (p := ⟨b, o + 0 * 4, none⟩) hb _)).h0 0 h0
    rw [World.cell?_setCell_same _ _ _ hc] at h2
    cases h2
  · omega
theorem ApC.flo_far {N M : Nat} {w : World} {b o n c : Nat} {v0 : Value} {I F : List KD} (h : ApC N M w v0 (.slice (some ⟨b, o, none⟩) n c) I F) (h0 : 0 < F.length) : N ≤ b ∧ b < M := by
  by_cases hb : b < N ∨ M ≤ b
  · have hc := flo_cell h.self.h1 0 h0
    have h2 := flo_cell (h (w.setCell ⟨b, o + 0, none⟩ (.bool false)) (Only.set (F := fun q => q < N ∨ M ≤ q) w (p := ⟨b, o + 0, none⟩) hb _)).h1 0 h0
    rw [World.cell?_setCell_same _ _ _ hc] at h2
    cases h2
  · omega
/-- Behind the statement that answers a cache and a key. -/
def CutG (w : World) (v0 v1 : Value) (I F : List KD) (s : Value) (wx : World) : Prop := ∃ key : Int, s = .int .i64 key ∧ VarAt wx w.heap.size [v0, v1] ∧ RSCache wx v0 v1 I F ∧ Below w.heap.size w wx
theorem cutG_of {w w5 : World} {B M : Nat} {v0 v1 a b : Value} {I F : List KD} {key : Int} (hv : VarAt w5 w.heap.size [a, b]) (hap : ApC B M w5 v0 v1 I F) (hb : Below w.heap.size w w5) (hB : w.heap.size < B) :
    CutG w v0 v1 I F (.int .i64 key) ((w5.setCell ⟨w.heap.size, 0, none⟩ v0).setCell ⟨w.heap.size, 1, none⟩ v1) :=
  ⟨key, rfl, (hv.set 0 (by simp) v0).set 1 (by simp) v1, ((hap.set (p := ⟨w.heap.size, 0, none⟩) (Or.inl hB) v0).set (p := ⟨w.heap.size, 1, none⟩) (Or.inl hB) v1).self, (hb.setCell (p := ⟨w.heap.size, 0, none⟩) (Nat.le_refl _) v0).setCell (p := ⟨w.heap.size, 1, none⟩) (Nat.le_refl _) v1⟩
theorem nums_eight (w : World) : Nums (w.alloc (.cells #[.int .i64 0, .int .i64 1, .int .i64 2, .int .i64 4, .int .i64 6, .int .i64 60, .int .i64 61, .int .i64 (-1)] 3)) w.heap.size 8 (fun z => -1 ≤ z ∧ z ≤ 61) := by
  refine ⟨by simp, fun i hi => ?_⟩
  rcases i with _ | _ | _ | _ | _ | _ | _ | _ | i
  · exact ⟨0, by go_cell, by omega⟩
  · exact ⟨1, by go_cell, by omega⟩
  · exact ⟨2, by go_cell, by omega⟩
  · exact ⟨4, by go_cell, by omega⟩
  · exact ⟨6, by go_cell, by omega⟩
  · exact ⟨60, by go_cell, by omega⟩
  · exact ⟨61, by go_cell, by omega⟩
  · exact ⟨-1, by go_cell, by omega⟩
  · omega
end Go.Proofs.Ytilbaiohcfhcaaa
