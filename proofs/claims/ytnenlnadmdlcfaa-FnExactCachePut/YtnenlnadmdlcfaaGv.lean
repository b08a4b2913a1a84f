/- Lists of values (a number and kin each): what it means that a slice reads as one. -/
import Derived.Test.YtnenlnadmdlcfaaPl
import Derived.BigQuiet
namespace Go.Proofs.Ytnenlnadmdlcfaa
open Go.RowKit

abbrev ValD := Int × List (Int × Int)
def valD0 : ValD := (0, [])
/-- A slice value that reads as a list of values. -/
def RdG (w : World) (v : Value) (L : List ValD) : Prop :=
  ∃ (ao : Option Addr) (cap : Nat), v = .slice ao L.length cap ∧ L.length ≤ maxLen ∧
    (0 < L.length → ∃ b off, ao = some ⟨b, off, none⟩ ∧ b < w.heap.size ∧
      ∀ i, i < L.length → w.cell? ⟨b, off + i * 2, none⟩ = some (.int .i64 (L.getD i valD0).1) ∧ ∃ u, w.cell? ⟨b, off + i * 2 + 1, none⟩ = some u ∧ Rd w u (L.getD i valD0).2)
theorem RdG.nil (w : World) (ao : Option Addr) (cap : Nat) : RdG w (.slice ao 0 cap) [] := ⟨ao, cap, rfl, Nat.zero_le _, fun h => absurd h (Nat.lt_irrefl 0)⟩
theorem RdG.later {w w' : World} {v : Value} {L : List ValD} (h : RdG w v L) (hb : Below w.heap.size w w') : RdG w' v L := by
  obtain ⟨ao, cap, hv, hl, hc⟩ := h
  refine ⟨ao, cap, hv, hl, fun h0 => ?_⟩
  obtain ⟨b, off, ha, hlt, hcc⟩ := hc h0
  refine ⟨b, off, ha, Nat.lt_of_lt_of_le hlt hb.size, fun i hi => ?_⟩
  obtain ⟨c0, u, c1, hu⟩ := hcc i hi
  exact ⟨(hb.cell (p := ⟨b, off + i * 2, none⟩) hlt).trans c0, u, (hb.cell (p := ⟨b, off + i * 2 + 1, none⟩) hlt).trans c1, hu.later hb⟩

/-- Are two lists of values one? (Names that the walk does not take apart.) -/
def eqG (x y : List ValD) : Bool := decide (x = y)
theorem eqG_yes {x y : List ValD} (h : x = y) : eqG x y = true := by simp [eqG, h]
theorem eqG_no {x y : List ValD} (h : ¬ x = y) : eqG x y = false := by simp [eqG, h]
theorem eqG_refl (x : List ValD) : eqG x x = true := eqG_yes rfl
def eqD (x y : ValD) : Bool := x.1 == y.1 && eqL x.2 y.2
theorem eqD_iff {x y : ValD} : eqD x y = true ↔ x = y := by
  obtain ⟨a, l⟩ := x
  obtain ⟨b, m⟩ := y
  simp [eqD, eqL]
theorem eqD_not {x y : ValD} (h : ¬ x = y) : eqD x y = false := by
  rw [Bool.eq_false_iff]
  exact fun e => h (eqD_iff.1 e)
end Go.Proofs.Ytnenlnadmdlcfaa
