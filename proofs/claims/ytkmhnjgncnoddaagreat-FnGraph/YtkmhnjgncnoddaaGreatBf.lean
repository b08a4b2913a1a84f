/- What the draw of a graph wants: rows that survive the reader, and read from their own memory alone. -/
import Derived.Test.YtkmhnjgncnoddaaGreatBe
namespace Go.Proofs.YtkmhnjgncnoddaaGreat
open Go.RowKit

theorem row_grownOff {w w' : World} {B : Nat} {e : TypeId} {size n : Nat} {v : Value} {xs : List Value} {g : Nat} (h : w.ownsRow B e size v n xs) (hg : w.grownBy w' (some g)) (hB : g < B) : w'.ownsRow B e size v n xs := by
  refine ⟨h.1, ?_⟩
  rcases h.2 with hn | ⟨g', cap, cur, rfl, hbg, hgg, rest⟩
  · exact .inl hn
  · exact .inr ⟨g', cap, cur, rfl, hbg, (hg.block g' (Array.getElem?_eq_some_iff.1 hgg).1 (fun e => by have := Option.some.inj e; omega)).trans hgg, rest⟩
/-- A row survives what turns the reader's block alone. -/
theorem RowN.grown {w w' : World} {B g : Nat} {v : Value} {L : List ValD} {n : Nat} {xs : List Value} (h : RowN w B v L n xs) (hg : w.grownBy w' (some g)) (hB : g < B) : RowN w' B v L n xs :=
  ⟨row_grownOff h.1 hg hB, fun i hi => by
    obtain ⟨h0, u, h1, h2⟩ := h.2 i hi
    exact ⟨h0, u, h1, row_grownOff h2 hg hB⟩, h.3⟩
theorem FromG.grown {w w' : World} {B g : Nat} {v : Value} {L : List ValD} (h : FromG B w v L) (hg : w.grownBy w' (some g)) (hB : g < B) : FromG B w' v L := fun w'' hz hs =>
  h w'' (Nat.le_trans hg.size hz) (fun k hk hl => (hs k hk (Nat.lt_of_lt_of_le hl hg.size)).trans (hg.block k hl (fun e => by have := Option.some.inj e; omega)))
/-- A row of 24 reads from its own memory alone; so do its first rows. -/
theorem RowN.fromTake {w : World} {B g cap m : Nat} {L : List ValD} {xs : List Value} (h : RowN w B (.slice (some ⟨g, 0, none⟩) 24 cap) L 24 xs) (hl : L.length = 24) (hm : m ≤ 24) (cap' : Nat) :
    FromG B w (.slice (some ⟨g, 0, none⟩) m cap') (L.take m) := fun w' hz hs => by
  have hr : RowN w' B (.slice (some ⟨g, 0, none⟩) 24 cap) L 24 xs := ⟨row_same h.1 hs, fun i hi => by
    obtain ⟨h0, u, h1, h2⟩ := h.2 i hi
    exact ⟨h0, u, h1, row_same h2 hs⟩, h.3⟩
  have hlen : (L.take m).length = m := by rw [List.length_take, hl]; omega
  refine ⟨some ⟨g, 0, none⟩, cap', by rw [hlen], by rw [hlen]; unfold maxLen; omega, fun _ => ⟨g, 0, rfl, (hr.1.lt g rfl).2, fun i hi => ?_⟩⟩
  have hi : i < m := by rw [hlen] at hi; exact hi
  have hg : (L.take m).getD i valD0 = L.getD i valD0 := by rw [List.getD_eq_getElem?_getD, List.getD_eq_getElem?_getD, List.getElem?_take, if_pos hi]
  rw [hg, Nat.zero_add]
  obtain ⟨u, h1, h2⟩ := hr.c1 (k := i) (by omega)
  exact ⟨hr.c0 (by omega), u, h1, h2.rd⟩
theorem RowN.from {w : World} {B g cap : Nat} {L : List ValD} {xs : List Value} (h : RowN w B (.slice (some ⟨g, 0, none⟩) 24 cap) L 24 xs) (hl : L.length = 24) : FromG B w (.slice (some ⟨g, 0, none⟩) 24 cap) L := by
  have := h.fromTake hl (Nat.le_refl 24) cap
  rwa [List.take_of_length_le (by rw [hl]; exact Nat.le_refl _)] at this
end Go.Proofs.YtkmhnjgncnoddaaGreat
