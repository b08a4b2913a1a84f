/- slices.Insert of one edge into a list that is owned: contract. -/
import Derived.Test.YtnenlnadmdlcfaaAdP
import Derived.Test.YtnenlnadmdlcfaaCp
import Derived.Test.YtnenlnadmdlcfaaGa
import Derived.Test.YtnenlnadmdlcfaaMark
import Derived.Lib.AppendZerosOnto
import Derived.Lib.Overlaps
import Derived.BigQuiet
import Derived.Deep.RegionLaw
import Derived.Deep.RegionWith
import Derived.Lib.QuietBelow
namespace Go.Proofs.Ytnenlnadmdlcfaa
open Go.RowKit Go.Shelf

/-- What insert leaves in a row: two copies. -/
theorem splice_two (A X1 X2 Y Z : List Value) (hA : A = X1 ++ X2 ++ Z) (hZ : Y.length ≤ Z.length) :
    ∃ R, splice (splice A (X1.length + Y.length) X2) X1.length Y = X1 ++ Y ++ X2 ++ R := by
  subst hA
  have hP : ((X2 ++ Z).take Y.length).length = Y.length := by simp; omega
  have h1 : splice (X1 ++ X2 ++ Z) (X1.length + Y.length) X2 = X1 ++ ((X2 ++ Z).take Y.length ++ (X2 ++ (X1 ++ X2 ++ Z).drop (X1.length + Y.length + X2.length))) := by
    unfold splice
    rw [List.append_assoc X1 X2 Z, List.take_length_add_append, List.append_assoc X1]
  refine ⟨(X1 ++ X2 ++ Z).drop (X1.length + Y.length + X2.length), ?_⟩
  rw [h1]
  generalize (X1 ++ X2 ++ Z).drop (X1.length + Y.length + X2.length) = R
  generalize (X2 ++ Z).take Y.length = P at hP
  unfold splice
  rw [List.take_left', List.drop_append, List.drop_of_length_le (by omega), Nat.add_sub_cancel_left, List.nil_append, ← hP, List.drop_left]
  · simp only [List.append_assoc]
  · rfl
theorem splice_two' (A X1 X2 Y Z : List Value) (hA : A = X1 ++ Z) :
    ∃ R, splice (splice A X1.length Y) (X1.length + Y.length) X2 = X1 ++ Y ++ X2 ++ R := by
  subst hA
  have h1 : splice (X1 ++ Z) X1.length Y = (X1 ++ Y) ++ Z.drop Y.length := by
    unfold splice
    rw [List.take_left, List.drop_length_add_append, List.append_assoc]
  refine ⟨((X1 ++ Y) ++ Z.drop Y.length).drop (X1.length + Y.length + X2.length), ?_⟩
  rw [h1]
  generalize Z.drop Y.length = R
  unfold splice
  rw [List.take_left' (by simp)]
  simp only [List.append_assoc]

theorem pair_cells {w : World} {vb : Nat} {e : Int × Int} (hv2 : PairAt w vb e) : ∀ j u, [Value.int .i64 e.1, Value.int .i64 e.2][j]? = some u → w.cell? ((⟨vb, 0, none⟩ : Addr).add j) = some u := by
  intro j u h
  match j, h with
  | 0, h => simp at h; subst h; simp [Addr.add, hv2.c0]
  | 1, h => simp at h; subst h; simp [Addr.add, hv2.c1]
  | j + 2, h => simp at h
theorem copy_one {a b : Value} {n s : Nat} (hn : 1 ≤ n) (hs : s = 2) : [a, b].length = Nat.min 1 n * s := by
  rw [hs, show Nat.min 1 n = 1 from Nat.min_eq_left hn]; rfl

/-- A row that begins with the cells of what insert asks for owns it. -/
theorem own_insert {w : World} {B g cap k : Nat} {l : List (Int × Int)} {e : Int × Int} {X1 X2 L : List Value} (h1 : X1 = ecells (l.take k)) (h2 : X2 = ecells (l.drop k)) (l1 : X1.length = k * 2) (hk : k ≤ l.length)
    (hg : w.heap[g]? = some (.cells (splice (splice L ((k + 1) * 2) X2) (k * 2) [.int .i64 e.1, .int .i64 e.2]).toArray 62 (0, 0)))
    (hsp : ∃ R, splice (splice L (X1.length + 2) X2) X1.length [.int .i64 e.1, .int .i64 e.2] = X1 ++ [.int .i64 e.1, .int .i64 e.2] ++ X2 ++ R)
    (hb : B ≤ g) (hc : l.length + 1 ≤ cap) (hm : cap ≤ maxLen) (lL : L.length = cap * 2) : Own w B (.slice (some ⟨g, 0, none⟩) (l.length + 1) cap) (insAt l k e) := by
  obtain ⟨R, hR⟩ := hsp
  have l2 : X2.length = (l.length - k) * 2 := by rw [h2, ecells_length, List.length_drop]
  have hlen : (insAt l k e).length = l.length + 1 := by simp [insAt]; omega
  have hcells : ecells (insAt l k e) = X1 ++ [.int .i64 e.1, .int .i64 e.2] ++ X2 := by
    rw [insAt, ecells_append, h1, h2]
    simp [ecells]
  have hle : (splice (splice L ((k + 1) * 2) X2) (k * 2) [Value.int .i64 e.1, Value.int .i64 e.2]).length = cap * 2 := by
    have a1 : (splice L ((k + 1) * 2) X2).length = cap * 2 := (length_splice _ _ _ (by omega)).trans lL
    rw [length_splice _ _ _ (by rw [a1]; simp; omega), a1]
  rw [l1, show k * 2 + 2 = (k + 1) * 2 by omega] at hR
  refine ⟨by rw [ecells_length], .inr ⟨g, cap, _, by rw [hlen], hb, hg, by omega, hm, by simpa using hle, ?_⟩⟩
  rw [hlen, hcells]
  show List.take _ (splice _ _ _) = _
  rw [hR, List.take_left' (by simp [l1, l2]; omega)]

theorem own_grown {w : World} {B g cap k : Nat} {l : List (Int × Int)} {e : Int × Int} {X1 X2 L Z : List Value} (h1 : X1 = ecells (l.take k)) (h2 : X2 = ecells (l.drop k)) (l1 : X1.length = k * 2) (hk : k ≤ l.length)
    (hg : w.heap[g]? = some (.cells (splice (splice L (k * 2) [.int .i64 e.1, .int .i64 e.2]) ((k + 1) * 2) X2).toArray 62 (0, 0)))
    (hL : L = X1 ++ Z) (hb : B ≤ g) (hc : l.length + 1 ≤ cap) (hm : cap ≤ maxLen) (lL : L.length = cap * 2) : Own w B (.slice (some ⟨g, 0, none⟩) (l.length + 1) cap) (insAt l k e) := by
  have l2 : X2.length = (l.length - k) * 2 := by rw [h2, ecells_length, List.length_drop]
  obtain ⟨R, hR⟩ := splice_two' L X1 X2 [.int .i64 e.1, .int .i64 e.2] Z hL
  have hlen : (insAt l k e).length = l.length + 1 := by simp [insAt]; omega
  have hcells : ecells (insAt l k e) = X1 ++ [.int .i64 e.1, .int .i64 e.2] ++ X2 := by
    rw [insAt, ecells_append, h1, h2]
    simp [ecells]
  have hle : (splice (splice L (k * 2) [Value.int .i64 e.1, Value.int .i64 e.2]) ((k + 1) * 2) X2).length = cap * 2 := by
    have a1 : (splice L (k * 2) [Value.int .i64 e.1, Value.int .i64 e.2]).length = cap * 2 := (length_splice _ _ _ (by simp; omega)).trans lL
    rw [length_splice _ _ _ (by rw [a1]; omega), a1]
  rw [l1, show k * 2 + [Value.int .i64 e.1, Value.int .i64 e.2].length = (k + 1) * 2 by simp; omega] at hR
  refine ⟨by rw [ecells_length], .inr ⟨g, cap, _, by rw [hlen], hb, hg, by omega, hm, by simpa using hle, ?_⟩⟩
  rw [hlen, hcells]
  show List.take _ (splice _ _ _) = _
  rw [hR, List.take_left' (by simp [l1, l2]; omega)]

end Go.Proofs.Ytnenlnadmdlcfaa
