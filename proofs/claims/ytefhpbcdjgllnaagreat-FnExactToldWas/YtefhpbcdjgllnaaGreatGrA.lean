/- Contracts and plain facts, several texts in one. -/
import Derived.Test.YtefhpbcdjgllnaaGreatRows
import Derived.WalkKit
import Derived.WalkSpells
import Derived.WalkLawsBesides
import Derived.Handy
import Derived.Deep.SlicePairs
import Derived.BigQuiet
import Derived.Deep.RegionHeld3
import Derived.Deep.DrawnRows
import Derived.Lib.QuietBelow
/- Part: Plain facts: what it means that a slice value reads as a list of edges (pairs of numbers), or owns such a list in new memory. No walk stands here. -/
namespace Go.Proofs.YtefhpbcdjgllnaaGreat
open Go.RowKit

theorem hid {p : Prop} (h : p) : Hid p := h

/-- A slice value that reads as a list of pairs of numbers. -/
def Rd (w : World) (v : Value) (l : List (Int × Int)) : Prop :=
  ∃ (ao : Option Addr) (cap : Nat), v = .slice ao l.length cap ∧ l.length ≤ maxLen ∧
    (0 < l.length → ∃ b off, ao = some ⟨b, off, none⟩ ∧ b < w.heap.size ∧
      ∀ i, i < l.length → w.cell? ⟨b, off + i * 2, none⟩ = some (.int .i64 (l.getD i (0, 0)).1) ∧ w.cell? ⟨b, off + i * 2 + 1, none⟩ = some (.int .i64 (l.getD i (0, 0)).2))

/-- ... which lies below block B. -/
def RdB (B : Nat) (w : World) (v : Value) (l : List (Int × Int)) : Prop := Rd w v l ∧ (0 < l.length → ∃ b, v.ownBlock = some b ∧ b < B)

theorem Rd.below {B : Nat} {w w' : World} {v : Value} {l : List (Int × Int)} (h : Rd w v l) (hl' : ∀ b, v.ownBlock = some b → b < B) (hb : Below B w w') : Rd w' v l := by
  obtain ⟨ao, cap, hv, hl, hc⟩ := h
  refine ⟨ao, cap, hv, hl, fun h0 => ?_⟩
  obtain ⟨b, off, ha, hlt, hcc⟩ := hc h0
  have hbB : b < B := hl' b (by rw [hv, ha]; rfl)
  refine ⟨b, off, ha, Nat.lt_of_lt_of_le hlt hb.size, fun i hi => ?_⟩
  obtain ⟨c0, c1⟩ := hcc i hi
  exact ⟨(hb.cell (p := ⟨b, off + i * 2, none⟩) hbB).trans c0, (hb.cell (p := ⟨b, off + i * 2 + 1, none⟩) hbB).trans c1⟩

theorem Rd.nil (w : World) (ao : Option Addr) (cap : Nat) : Rd w (.slice ao 0 cap) [] := ⟨ao, cap, rfl, Nat.zero_le _, fun h => absurd h (Nat.lt_irrefl 0)⟩

theorem Rd.later {w w' : World} {v : Value} {l : List (Int × Int)} (h : Rd w v l) (hb : Below w.heap.size w w') : Rd w' v l := by
  obtain ⟨ao, cap, hv, hl, hc⟩ := h
  refine ⟨ao, cap, hv, hl, fun h0 => ?_⟩
  obtain ⟨b, off, ha, hlt, hcc⟩ := hc h0
  refine ⟨b, off, ha, Nat.lt_of_lt_of_le hlt hb.size, fun i hi => ?_⟩
  obtain ⟨c0, c1⟩ := hcc i hi
  exact ⟨(hb.cell (p := ⟨b, off + i * 2, none⟩) hlt).trans c0, (hb.cell (p := ⟨b, off + i * 2 + 1, none⟩) hlt).trans c1⟩

/-- Are two pairs one? Two lists? (Names that the walk does not take apart.) -/
def eqB (x y : Int × Int) : Bool := decide (x = y)
def eqL (x y : List (Int × Int)) : Bool := decide (x = y)
theorem eqB_yes {x y : Int × Int} (h : x = y) : eqB x y = true := by simp [eqB, h]
theorem eqB_no {x y : Int × Int} (h : ¬ x = y) : eqB x y = false := by simp [eqB, h]
theorem eqL_yes {x y : List (Int × Int)} (h : x = y) : eqL x y = true := by simp [eqL, h]
theorem eqL_no {x y : List (Int × Int)} (h : ¬ x = y) : eqL x y = false := by simp [eqL, h]
theorem eqL_refl (x : List (Int × Int)) : eqL x x = true := eqL_yes rfl

theorem take_more {α : Type} (la lb : List α) (d : α) (k : Nat) (h : k < la.length) (h' : k < lb.length) (hp : la.take k = lb.take k) (hx : la.getD k d = lb.getD k d) : la.take (k + 1) = lb.take (k + 1) := by
  rw [List.take_succ_eq_append_getElem h, List.take_succ_eq_append_getElem h', hp]
  simp [List.getD_eq_getElem?_getD, h, h'] at hx
  rw [hx]

/-! ### New memory -/
/-- The cells of a list. -/
def ecells : List (Int × Int) → List Value
  | [] => []
  | e :: r => .int .i64 e.1 :: .int .i64 e.2 :: ecells r
theorem ecells_length (l : List (Int × Int)) : (ecells l).length = l.length * 2 := by
  induction l with
  | nil => rfl
  | cons e r ih => simp [ecells, ih]; omega
theorem ecells_append (l m : List (Int × Int)) : ecells (l ++ m) = ecells l ++ ecells m := by
  induction l with
  | nil => rfl
  | cons e r ih => simp [ecells, ih]
theorem ecells_get (l : List (Int × Int)) : ∀ i, i < l.length → (ecells l)[i * 2]? = some (.int .i64 (l.getD i (0, 0)).1) ∧ (ecells l)[i * 2 + 1]? = some (.int .i64 (l.getD i (0, 0)).2) := by
  induction l with
  | nil => intro i h; exact absurd h (Nat.not_lt_zero _)
  | cons e r ih =>
    intro i h
    cases i with
    | zero => simp [ecells]
    | succ j =>
      have := ih j (by simpa using h)
      rw [show (j + 1) * 2 = j * 2 + 1 + 1 from by omega]
      simpa [ecells] using this
theorem ecells_one (l : List (Int × Int)) : ∀ u ∈ ecells l, u.oneCell' = true := by
  induction l with
  | nil => intro u hu; cases hu
  | cons e r ih =>
    intro u hu
    simp only [ecells, List.mem_cons] at hu
    rcases hu with rfl | rfl | hu
    · rfl
    · rfl
    · exact ih u hu

/-- A slice value that owns a list in memory from block B on: nobody else's, may be written. -/
def Own (w : World) (B : Nat) (v : Value) (l : List (Int × Int)) : Prop := w.ownsRow B 124 2 v l.length (ecells l)

theorem Own.rd {w : World} {B : Nat} {v : Value} {l : List (Int × Int)} (h : Own w B v l) : Rd w v l := by
  have h0 := h
  rcases h.2 with ⟨rfl, hn⟩ | ⟨g, cap, cur, rfl, hb, hg, hnc, hcm, hcs, htake⟩
  · have : l = [] := List.eq_nil_of_length_eq_zero hn
    subst this
    exact Rd.nil w none 0
  · refine ⟨some ⟨g, 0, none⟩, cap, rfl, Nat.le_trans hnc hcm, fun _ => ⟨g, 0, rfl, (Array.getElem?_eq_some_iff.1 hg).1, fun i hi => ?_⟩⟩
    have hc := fun j hj => World.ownsRow.cellAt h0 j hj
    have he := ecells_get l i hi
    rw [Nat.zero_add, hc (i * 2) (by omega), hc (i * 2 + 1) (by omega)]
    exact he

theorem Own.block {w : World} {B : Nat} {v : Value} {l : List (Int × Int)} (h : Own w B v l) : ∀ k, v.ownBlock = some k → B ≤ k ∧ k < w.heap.size := World.ownsRow.lt h

/-- What is owned stays owned while blocks below a bound that lies above it stay as they were. -/
theorem Own.below {w w' : World} {B C : Nat} {v : Value} {l : List (Int × Int)} (h : Own w B v l) (hC : ∀ k, v.ownBlock = some k → k < C) (hb : Below C w w') : Own w' B v l := by
  refine ⟨h.1, ?_⟩
  rcases h.2 with hn | ⟨g, cap, cur, rfl, hbg, hgg, rest⟩
  · exact .inl hn
  · exact .inr ⟨g, cap, cur, rfl, hbg, (hb.block g (hC g rfl)).trans hgg, rest⟩
theorem Own.later {w w' : World} {B : Nat} {v : Value} {l : List (Int × Int)} (h : Own w B v l) (hb : Below w.heap.size w w') : Own w' B v l := h.below (fun k hk => (h.block k hk).2) hb
theorem Own.mono {w : World} {B B' : Nat} {v : Value} {l : List (Int × Int)} (h : Own w B v l) (hB : B' ≤ B) : Own w B' v l := by
  refine ⟨h.1, ?_⟩
  rcases h.2 with hn | ⟨g, cap, cur, rfl, hbg, rest⟩
  · exact .inl hn
  · exact .inr ⟨g, cap, cur, rfl, Nat.le_trans hB hbg, rest⟩

theorem row_later {w w' : World} {B : Nat} {e : TypeId} {size : Nat} {v : Value} {n : Nat} {xs : List Value} (h : w.ownsRow B e size v n xs) (hb : Below w.heap.size w w') : w'.ownsRow B e size v n xs := by
  refine ⟨h.1, ?_⟩
  rcases h.2 with hn | ⟨g, cap, cur, rfl, hbg, hgg, rest⟩
  · exact .inl hn
  · exact .inr ⟨g, cap, cur, rfl, hbg, (hb.block g (Array.getElem?_eq_some_iff.1 hgg).1).trans hgg, rest⟩
theorem row_cell {w : World} {B : Nat} {e : TypeId} {size : Nat} {g n cap : Nat} {xs : List Value} (h : w.ownsRow B e size (.slice (some ⟨g, 0, none⟩) n cap) n xs) (j : Nat) (hj : j < n * size) : ∃ u, w.cell? ⟨g, j, none⟩ = some u := by
  rw [h.cellAt j hj]
  exact ⟨xs[j]'(by rw [h.1]; exact hj), List.getElem?_eq_getElem _⟩
theorem row_two {w : World} {B : Nat} {e : TypeId} {size : Nat} {g n cap : Nat} {xs : List Value} (h : w.ownsRow B e size (.slice (some ⟨g, 0, none⟩) n cap) n xs) (j : Nat) (a b : Value) :
    ((w.setCell ⟨g, j, none⟩ a).setCell ⟨g, j + 1, none⟩ b).ownsRow B e size (.slice (some ⟨g, 0, none⟩) n cap) n ((xs.set j a).set (j + 1) b) :=
  ((h.stored j a).1.stored (j + 1) b).1

/-- The first k elements' cells are those of l. -/
def Filled (xs : List Value) (l : List (Int × Int)) (k : Nat) : Prop :=
  ∀ i, i < k → xs[i * 2]? = some (.int .i64 (l.getD i (0, 0)).1) ∧ xs[i * 2 + 1]? = some (.int .i64 (l.getD i (0, 0)).2)
theorem Filled.zero (xs : List Value) (l : List (Int × Int)) : Filled xs l 0 := fun _ h => absurd h (Nat.not_lt_zero _)
theorem Filled.step {xs : List Value} {l : List (Int × Int)} {k : Nat} (h : Filled xs l k) (hk : k < l.length) (hx : xs.length = l.length * 2) :
    Filled ((xs.set (k * 2) (.int .i64 (l.getD k (0, 0)).1)).set (k * 2 + 1) (.int .i64 (l.getD k (0, 0)).2)) l (k + 1) := by
  intro i hi
  by_cases e : i = k
  · subst e
    rw [List.getElem?_set_ne (by omega), List.getElem?_set_self (by omega), List.getElem?_set_self (by rw [List.length_set]; omega)]
    exact ⟨rfl, rfl⟩
  · have hh := h i (by omega)
    rw [List.getElem?_set_ne (by omega), List.getElem?_set_ne (by omega), List.getElem?_set_ne (by omega), List.getElem?_set_ne (by omega)]
    exact hh
theorem Filled.all {xs : List Value} {l : List (Int × Int)} (h : Filled xs l l.length) (hx : xs.length = l.length * 2) : xs = ecells l := by
  apply List.ext_getElem?
  intro j
  by_cases hj : j < l.length * 2
  · have h1 := h (j / 2) (by omega)
    have h2 := ecells_get l (j / 2) (by omega)
    by_cases hp : j % 2 = 0
    · have e : j / 2 * 2 = j := by omega
      rw [e] at h1 h2
      exact h1.1.trans h2.1.symm
    · have e : j / 2 * 2 + 1 = j := by omega
      rw [e] at h1 h2
      exact h1.2.trans h2.2.symm
  · rw [List.getElem?_eq_none (by omega), List.getElem?_eq_none (by rw [ecells_length]; omega)]
end Go.Proofs.YtefhpbcdjgllnaaGreat

/- Part: The law's own helpers markEdgeS and heldEdgeS: contracts. -/
namespace Go.Proofs.YtefhpbcdjgllnaaGreat
open Go.RowKit

/-- What markEdgeS leaves in n edges. -/
def markL (k : Int) (n : Nat) : List (Int × Int) := (List.range n).map fun (i : Nat) => (k + 2 * (i : Int), k + 2 * (i : Int) + 1)
theorem markL_length (k : Int) (n : Nat) : (markL k n).length = n := by simp [markL]
theorem markL_get (k : Int) (n i : Nat) (h : i < n) : (markL k n).getD i (0, 0) = (k + 2 * (i : Int), k + 2 * (i : Int) + 1) := by simp [markL, h]

/-- What is owned stays so behind a store into another's row. -/
theorem Own.kept {w w' : World} {B : Nat} {v : Value} {l : List (Int × Int)} {row : Option Nat} (h : Own w B v l) (hg : w.grownBy w' row) (hne : v.ownBlock = none ∨ v.ownBlock ≠ row) : Own w' B v l := World.ownsRow.kept h hg hne
/-- What was made later lies elsewhere. -/
theorem Own.apart {w w0 : World} {B B0 : Nat} {v v0 : Value} {l l0 : List (Int × Int)} (h : Own w B v l) (h0 : Own w0 B0 v0 l0) (hB : w0.heap.size ≤ B) : v.ownBlock = none ∨ v.ownBlock ≠ v0.ownBlock := by
  cases e : v.ownBlock with
  | none => exact .inl rfl
  | some k =>
    refine .inr fun e0 => ?_
    have h1 := (h.block k e).1
    have h2 := (h0.block k (by rw [← e0])).2
    omega
theorem Own.apart' {w w0 : World} {B B0 : Nat} {v v0 : Value} {l l0 : List (Int × Int)} (h : Own w B v l) (h0 : Own w0 B0 v0 l0) (hB : w0.heap.size ≤ B) : v0.ownBlock = none ∨ v0.ownBlock ≠ v.ownBlock := by
  rcases h.apart h0 hB with e | e
  · rw [e]
    cases v0.ownBlock with
    | none => exact .inl rfl
    | some k => exact .inr (by simp)
  · exact .inr (Ne.symm e)
theorem Below.of_grown {B : Nat} {w w' : World} {row : Option Nat} (hg : w.grownBy w' row) (hB : B ≤ w.heap.size) (hr : ∀ k, row = some k → B ≤ k) : Below B w w' := (Below.refl B w).grown hg hB hr

end Go.Proofs.YtefhpbcdjgllnaaGreat

/- Part: Lists of values (a number and kin each): what it means that a slice reads as one. -/
namespace Go.Proofs.YtefhpbcdjgllnaaGreat
open Go.RowKit

abbrev ValD := Int × List (Int × Int)
def valD0 : ValD := (0, [])
/-- A slice value that reads as a list of values. -/
def RdG (w : World) (v : Value) (L : List ValD) : Prop :=
  ∃ (ao : Option Addr) (cap : Nat), v = .slice ao L.length cap ∧ L.length ≤ maxLen ∧
    (0 < L.length → ∃ b off, ao = some ⟨b, off, none⟩ ∧ b < w.heap.size ∧
      ∀ i, i < L.length → w.cell? ⟨b, off + i * 2, none⟩ = some (.int .i64 (L.getD i valD0).1) ∧ ∃ u, w.cell? ⟨b, off + i * 2 + 1, none⟩ = some u ∧ Rd w u (L.getD i valD0).2)
theorem RdG.nil (w : World) (ao : Option Addr) (cap : Nat) : RdG w (.slice ao 0 cap) [] := ⟨ao, cap, rfl, Nat.zero_le _, fun h => absurd h (Nat.lt_irrefl 0)⟩
theorem RdG.later {w w' : World} {v : Value} {L : List ValD} (h : RdG w v L) (hb : Below w.heap.size w w') : RdG w' v L := by
  obtain ⟨ao, cap, hv, hl, hc⟩ := h
  refine ⟨ao, cap, hv, hl, fun h0 => ?_⟩
  obtain ⟨b, off, ha, hlt, hcc⟩ := hc h0
  refine ⟨b, off, ha, Nat.lt_of_lt_of_le hlt hb.size, fun i hi => ?_⟩
  obtain ⟨c0, u, c1, hu⟩ := hcc i hi
  exact ⟨(hb.cell (p := ⟨b, off + i * 2, none⟩) hlt).trans c0, u, (hb.cell (p := ⟨b, off + i * 2 + 1, none⟩) hlt).trans c1, hu.later hb⟩

/-- Are two lists of values one? (Names that the walk does not take apart.) -/
def eqG (x y : List ValD) : Bool := decide (x = y)
theorem eqG_yes {x y : List ValD} (h : x = y) : eqG x y = true := by simp [eqG, h]
theorem eqG_no {x y : List ValD} (h : ¬ x = y) : eqG x y = false := by simp [eqG, h]
theorem eqG_refl (x : List ValD) : eqG x x = true := eqG_yes rfl
def eqD (x y : ValD) : Bool := x.1 == y.1 && eqL x.2 y.2
theorem eqD_iff {x y : ValD} : eqD x y = true ↔ x = y := by
  obtain ⟨a, l⟩ := x
  obtain ⟨b, m⟩ := y
  simp [eqD, eqL]
theorem eqD_not {x y : ValD} (h : ¬ x = y) : eqD x y = false := by
  rw [Bool.eq_false_iff]
  exact fun e => h (eqD_iff.1 e)
end Go.Proofs.YtefhpbcdjgllnaaGreat

/- Part: Rows of numbers, with kin behind them or without: what it means that a slice reads as a list of such, or owns it. No walk stands here. -/
namespace Go.Proofs.YtefhpbcdjgllnaaGreat
open Go.RowKit

/-! ### Blocks outside of F are as they were -/
structure Only (F : Nat → Prop) (w w' : World) : Prop where
  os : w'.os = w.os
  tape : w'.tape = w.tape
  output : w'.output = w.output
  size : w.heap.size ≤ w'.heap.size
  block : ∀ k, k < w.heap.size → ¬ F k → w'.heap[k]? = w.heap[k]?
theorem Only.refl (F : Nat → Prop) (w : World) : Only F w w := ⟨rfl, rfl, rfl, Nat.le_refl _, fun _ _ _ => rfl⟩
theorem Only.trans {F : Nat → Prop} {a b c : World} (h : Only F a b) (k : Only F b c) : Only F a c :=
  ⟨k.os.trans h.os, k.tape.trans h.tape, k.output.trans h.output, Nat.le_trans h.size k.size, fun i hi hn => (k.block i (Nat.lt_of_lt_of_le hi h.size) hn).trans (h.block i hi hn)⟩
theorem Only.mono {F G : Nat → Prop} {a b : World} (h : Only F a b) (hs : ∀ k, F k → G k) : Only G a b := ⟨h.os, h.tape, h.output, h.size, fun k hk hn => h.block k hk (fun hf => hn (hs k hf))⟩
theorem Only.of_below {F : Nat → Prop} {B : Nat} {w w' : World} (h : Below B w w') (hF : ∀ k, k < w.heap.size → B ≤ k → F k) : Only F w w' :=
  ⟨h.os, h.tape, h.output, h.size, fun k hk hn => h.block k (Nat.lt_of_not_le fun hle => hn (hF k hk hle))⟩
theorem Only.later {F : Nat → Prop} {w w' : World} (h : Below w.heap.size w w') : Only F w w' := Only.of_below h (fun _ hk hle => absurd hk (Nat.not_lt.2 hle))
theorem Only.of_grown {F : Nat → Prop} {w w' : World} {row : Option Nat} (h : w.grownBy w' row) (hF : ∀ k, row = some k → F k) : Only F w w' :=
  ⟨h.os, h.tape, h.output, h.size, fun k hk hn => h.block k hk (fun e => hn (hF k e.symm))⟩
theorem Only.set {F : Nat → Prop} (w : World) {p : Addr} (hp : F p.block) (u : Value) : Only F w (w.setCell p u) :=
  ⟨rfl, rfl, rfl, by simp [World.setCell], fun k _ hn => Below.heap_setCell _ _ _ _ (fun e => hn (by rw [e]; exact hp))⟩
theorem Only.below {F : Nat → Prop} {B : Nat} {w w' : World} (h : Only F w w') (hF : ∀ k, F k → B ≤ k) (hB : B ≤ w.heap.size) : Below B w w' :=
  ⟨h.os, h.tape, h.output, h.size, fun k hk => h.block k (Nat.lt_of_lt_of_le hk hB) (fun hf => Nat.lt_irrefl _ (Nat.lt_of_lt_of_le hk (hF k hf)))⟩
/-- Blocks from B on, below C. -/
def Span (B C : Nat) : Nat → Prop := fun b => B ≤ b ∧ b < C

theorem row_agree {w w' : World} {B : Nat} {e : TypeId} {size : Nat} {v : Value} {n : Nat} {xs : List Value} (h : w.ownsRow B e size v n xs) (hs : ∀ k, v.ownBlock = some k → w'.heap[k]? = w.heap[k]?) : w'.ownsRow B e size v n xs := by
  refine ⟨h.1, ?_⟩
  rcases h.2 with hn | ⟨g, cap, cur, rfl, hbg, hgg, rest⟩
  · exact .inl hn
  · exact .inr ⟨g, cap, cur, rfl, hbg, (hs g rfl).trans hgg, rest⟩
theorem Own.agree {w w' : World} {B : Nat} {v : Value} {l : List (Int × Int)} (h : Own w B v l) (hs : ∀ k, v.ownBlock = some k → w'.heap[k]? = w.heap[k]?) : Own w' B v l := row_agree h hs

/-! ### Elements -/
abbrev KD := List Int × List (Int × Int)
def kd0 : KD := ([], [])
/-- The m numbers of an element, and its kin, if such have any, lie from cell p of block b on. -/
structure AtK (m : Nat) (kn : Bool) (w : World) (b p : Nat) (x : KD) : Prop where
  len : x.1.length = m
  num : ∀ j, j < m → w.cell? ⟨b, p + j, none⟩ = some (.int .i64 (x.1.getD j 0))
  kin : kn = true → ∃ u, w.cell? ⟨b, p + m, none⟩ = some u ∧ Rd w u x.2
  non : kn = false → x.2 = []
theorem AtK.later {m : Nat} {kn : Bool} {w w' : World} {b p : Nat} {x : KD} (h : AtK m kn w b p x) (hb : b < w.heap.size) (hB : Below w.heap.size w w') : AtK m kn w' b p x :=
  ⟨h.len, fun j hj => (hB.cell (p := ⟨b, p + j, none⟩) hb).trans (h.num j hj), fun hk => by obtain ⟨u, h1, h2⟩ := h.kin hk; exact ⟨u, (hB.cell (p := ⟨b, p + m, none⟩) hb).trans h1, h2.later hB⟩, h.non⟩

/-- A slice value that reads as a list of such elements, each of sz cells. -/
def RdM (sz m : Nat) (kn : Bool) (w : World) (v : Value) (L : List KD) : Prop :=
  ∃ (ao : Option Addr) (cap : Nat), v = .slice ao L.length cap ∧ L.length ≤ maxLen ∧
    (0 < L.length → ∃ b off, ao = some ⟨b, off, none⟩ ∧ b < w.heap.size ∧ ∀ i, i < L.length → AtK m kn w b (off + i * sz) (L.getD i kd0))
theorem RdM.nil {sz m : Nat} {kn : Bool} (w : World) (ao : Option Addr) (cap : Nat) : RdM sz m kn w (.slice ao 0 cap) [] := ⟨ao, cap, rfl, Nat.zero_le _, fun h => absurd h (Nat.lt_irrefl 0)⟩
theorem RdM.later {sz m : Nat} {kn : Bool} {w w' : World} {v : Value} {L : List KD} (h : RdM sz m kn w v L) (hb : Below w.heap.size w w') : RdM sz m kn w' v L := by
  obtain ⟨ao, cap, hv, hl, hc⟩ := h
  refine ⟨ao, cap, hv, hl, fun h0 => ?_⟩
  obtain ⟨b, off, ha, hlt, hcc⟩ := hc h0
  exact ⟨b, off, ha, Nat.lt_of_lt_of_le hlt hb.size, fun i hi => (hcc i hi).later hlt hb⟩

/-- Are two elements one? Two lists? (Names that the walk does not take apart.) -/
def eqK (x y : KD) : Bool := decide (x = y)
def eqM (x y : List KD) : Bool := decide (x = y)
theorem eqK_iff {x y : KD} : eqK x y = true ↔ x = y := by simp [eqK]
theorem eqM_yes {x y : List KD} (h : x = y) : eqM x y = true := by simp [eqM, h]
theorem eqM_no {x y : List KD} (h : ¬ x = y) : eqM x y = false := by simp [eqM, h]
theorem eqM_refl (x : List KD) : eqM x x = true := eqM_yes rfl

/-! ### New memory -/
/-- The first k elements' cells are those of L; their kin lie in blocks of F, each in one of its own. -/
structure FilM (sz m : Nat) (kn : Bool) (w : World) (F : Nat → Prop) (gb : Option Nat) (xs : List Value) (us : Nat → Value) (L : List KD) (k : Nat) : Prop where
  len : ∀ i, i < k → (L.getD i kd0).1.length = m
  num : ∀ i, i < k → ∀ j, j < m → xs[i * sz + j]? = some (.int .i64 ((L.getD i kd0).1.getD j 0))
  kin : kn = true → ∀ i, i < k → xs[i * sz + m]? = some (us i) ∧ Own w 0 (us i) (L.getD i kd0).2 ∧ ∀ b, (us i).ownBlock = some b → F b ∧ gb ≠ some b
  non : kn = false → ∀ i, i < k → (L.getD i kd0).2 = []
  dis : kn = true → ∀ i j, i < k → j < k → i ≠ j → ∀ b, (us i).ownBlock = some b → (us j).ownBlock ≠ some b
theorem FilM.zero {sz m : Nat} {kn : Bool} (w : World) (F : Nat → Prop) (gb : Option Nat) (xs : List Value) (us : Nat → Value) (L : List KD) : FilM sz m kn w F gb xs us L 0 :=
  ⟨fun _ h => absurd h (Nat.not_lt_zero _), fun _ h => absurd h (Nat.not_lt_zero _), fun _ _ h => absurd h (Nat.not_lt_zero _), fun _ _ h => absurd h (Nat.not_lt_zero _), fun _ _ _ h => absurd h (Nat.not_lt_zero _)⟩
theorem FilM.agree {sz m : Nat} {kn : Bool} {w w' : World} {F G : Nat → Prop} {gb : Option Nat} {xs : List Value} {us : Nat → Value} {L : List KD} {k : Nat} (h : FilM sz m kn w F gb xs us L k)
    (hs : ∀ b, F b → gb ≠ some b → b < w.heap.size → w'.heap[b]? = w.heap[b]?) (hG : ∀ b, F b → b < w.heap.size → G b) : FilM sz m kn w' G gb xs us L k :=
  ⟨h.len, h.num, fun hk i hi => by
    obtain ⟨h1, h2, h3⟩ := h.kin hk i hi
    exact ⟨h1, h2.agree fun b hb => hs b (h3 b hb).1 (h3 b hb).2 (h2.block b hb).2, fun b hb => ⟨hG b (h3 b hb).1 (h2.block b hb).2, (h3 b hb).2⟩⟩, h.non, h.dis⟩
theorem flat_ne {sz i j s t : Nat} (hs : s < sz) (ht : t < sz) (h : i ≠ j) : i * sz + s ≠ j * sz + t := by
  rcases Nat.lt_or_gt_of_ne h with h | h
  · have := Nat.mul_le_mul_right sz (show i + 1 ≤ j from h)
    rw [Nat.add_mul] at this
    omega
  · have := Nat.mul_le_mul_right sz (show j + 1 ≤ i from h)
    rw [Nat.add_mul] at this
    omega
theorem flat_lt {sz i k s : Nat} (hs : s < sz) (h : i < k) : i * sz + s < k * sz := by
  have := Nat.mul_le_mul_right sz (show i + 1 ≤ k from h)
  rw [Nat.add_mul] at this
  omega
theorem FilM.step {sz m : Nat} {kn : Bool} {w w' : World} {F G : Nat → Prop} {gb : Option Nat} {xs xs' : List Value} {us : Nat → Value} {L : List KD} {k : Nat} (h : FilM sz m kn w F gb xs us L k) (u : Value)
    (hs : ∀ b, F b → gb ≠ some b → b < w.heap.size → w'.heap[b]? = w.heap[b]?) (hG : ∀ b, F b → b < w.heap.size → G b) (hm : m ≤ sz) (hm' : kn = true → m < sz)
    (hx : ∀ p, p < k * sz → xs'[p]? = xs[p]?) (hl : (L.getD k kd0).1.length = m) (hn : ∀ j, j < m → xs'[k * sz + j]? = some (.int .i64 ((L.getD k kd0).1.getD j 0)))
    (hk : kn = true → xs'[k * sz + m]? = some u ∧ Own w' 0 u (L.getD k kd0).2 ∧ ∀ b, u.ownBlock = some b → G b ∧ gb ≠ some b ∧ w.heap.size ≤ b)
    (hz : kn = false → (L.getD k kd0).2 = []) : FilM sz m kn w' G gb xs' (fun i => if i = k then u else us i) L (k + 1) := by
  have h' := h.agree hs hG
  refine ⟨fun i hi => ?_, fun i hi j hj => ?_, fun hkn i hi => ?_, fun hkn i hi => ?_, fun hkn i j hi hj hij b hb => ?_⟩
  · by_cases e : i = k
    · subst e; exact hl
    · exact h'.len i (by omega)
  · by_cases e : i = k
    · subst e; exact hn j hj
    · rw [hx _ (flat_lt (by omega) (by omega))]; exact h'.num i (by omega) j hj
  · by_cases e : i = k
    · subst e
      obtain ⟨h1, h2, h3⟩ := hk hkn
      simp only [if_true]
      exact ⟨h1, h2, fun b hb => ⟨(h3 b hb).1, (h3 b hb).2.1⟩⟩
    · simp only [e, if_false]
      rw [hx _ (flat_lt (hm' hkn) (by omega))]
      exact h'.kin hkn i (by omega)
  · by_cases e : i = k
    · subst e; exact hz hkn
    · exact h'.non hkn i (by omega)
  · have hold : ∀ t, t < k → ∀ b, (us t).ownBlock = some b → b < w.heap.size := fun t ht b hb => ((h.kin hkn t ht).2.1.block b hb).2
    obtain ⟨_, _, h3⟩ := hk hkn
    by_cases e : i = k
    · subst e
      simp only [if_true] at hb
      have hji : j ≠ i := fun q => hij q.symm
      simp only [hji, if_false]
      intro hc
      have := hold j (by omega) b hc
      have := (h3 b hb).2.2
      omega
    · simp only [e, if_false] at hb
      by_cases e' : j = k
      · simp only [e', if_true]
        intro hc
        have := hold i (by omega) b hb
        have := (h3 b hc).2.2
        omega
      · simp only [e', if_false]
        exact h'.dis hkn i j (by omega) (by omega) hij b hb

/-- A slice value that owns a list of such in blocks of F: nobody else's, may be written. -/
structure OwM (e : TypeId) (sz m : Nat) (kn : Bool) (w : World) (F : Nat → Prop) (v : Value) (L : List KD) (xs : List Value) (us : Nat → Value) : Prop where
  row : w.ownsRow 0 e sz v L.length xs
  inF : ∀ g, v.ownBlock = some g → F g
  fil : FilM sz m kn w F v.ownBlock xs us L L.length
def OwnM (e : TypeId) (sz m : Nat) (kn : Bool) (w : World) (F : Nat → Prop) (v : Value) (L : List KD) : Prop := ∃ xs us, OwM e sz m kn w F v L xs us
theorem OwnM.nil {e : TypeId} {sz m : Nat} {kn : Bool} (w : World) (F : Nat → Prop) : OwnM e sz m kn w F (.slice none 0 0) [] :=
  ⟨[], fun _ => .bool false, World.ownsRow_nil _ _ _ _, fun _ h => (by cases h), FilM.zero _ _ _ _ _ _⟩
theorem OwM.agree {e : TypeId} {sz m : Nat} {kn : Bool} {w w' : World} {F G : Nat → Prop} {v : Value} {L : List KD} {xs : List Value} {us : Nat → Value} (h : OwM e sz m kn w F v L xs us)
    (hs : ∀ b, F b → b < w.heap.size → w'.heap[b]? = w.heap[b]?) (hG : ∀ b, F b → b < w.heap.size → G b) : OwM e sz m kn w' G v L xs us :=
  ⟨row_agree h.row fun b hb => hs b (h.inF b hb) (World.ownsRow.lt h.row b hb).2, fun g hg => hG g (h.inF g hg) (World.ownsRow.lt h.row g hg).2, h.fil.agree (fun b hb _ hl => hs b hb hl) hG⟩
theorem OwnM.agree {e : TypeId} {sz m : Nat} {kn : Bool} {w w' : World} {F G : Nat → Prop} {v : Value} {L : List KD} (h : OwnM e sz m kn w F v L)
    (hs : ∀ b, F b → b < w.heap.size → w'.heap[b]? = w.heap[b]?) (hG : ∀ b, F b → b < w.heap.size → G b) : OwnM e sz m kn w' G v L := by
  obtain ⟨xs, us, h⟩ := h
  exact ⟨xs, us, h.agree hs hG⟩
theorem OwnM.later {e : TypeId} {sz m : Nat} {kn : Bool} {w w' : World} {F : Nat → Prop} {v : Value} {L : List KD} (h : OwnM e sz m kn w F v L) (hb : Below w.heap.size w w') : OwnM e sz m kn w' F v L :=
  h.agree (fun b _ hl => hb.block b hl) (fun _ hf _ => hf)
theorem OwnM.mono {e : TypeId} {sz m : Nat} {kn : Bool} {w : World} {F G : Nat → Prop} {v : Value} {L : List KD} (h : OwnM e sz m kn w F v L) (hG : ∀ b, F b → b < w.heap.size → G b) : OwnM e sz m kn w G v L :=
  h.agree (fun _ _ _ => rfl) hG
theorem OwnM.only {e : TypeId} {sz m : Nat} {kn : Bool} {w w' : World} {F G : Nat → Prop} {v : Value} {L : List KD} (h : OwnM e sz m kn w F v L) (ho : Only G w w') (hd : ∀ b, F b → b < w.heap.size → ¬ G b) : OwnM e sz m kn w' F v L :=
  h.agree (fun b hb hl => ho.block b hl (hd b hb hl)) (fun _ hb _ => hb)
theorem OwnM.set {e : TypeId} {sz m : Nat} {kn : Bool} {w : World} {F : Nat → Prop} {v : Value} {L : List KD} (h : OwnM e sz m kn w F v L) {p : Addr} (hp : ¬ F p.block) (u : Value) : OwnM e sz m kn (w.setCell p u) F v L :=
  h.agree (fun _ hb _ => Below.heap_setCell _ _ _ _ (fun q => hp (q ▸ hb))) (fun _ hb _ => hb)
theorem OwM.rd {e : TypeId} {sz m : Nat} {kn : Bool} {w : World} {F : Nat → Prop} {v : Value} {L : List KD} {xs : List Value} {us : Nat → Value} (h : OwM e sz m kn w F v L xs us) (hm : m ≤ sz) (hm' : kn = true → m < sz) : RdM sz m kn w v L := by
  have h0 := h.row
  rcases h.row.2 with ⟨rfl, hn⟩ | ⟨g, cap, cur, rfl, hb, hg, hnc, hcm, hcs, htake⟩
  · have : L = [] := List.eq_nil_of_length_eq_zero hn
    subst this
    exact RdM.nil w none 0
  · refine ⟨some ⟨g, 0, none⟩, cap, rfl, Nat.le_trans hnc hcm, fun _ => ⟨g, 0, rfl, (Array.getElem?_eq_some_iff.1 hg).1, fun i hi => ?_⟩⟩
    rw [Nat.zero_add]
    refine ⟨h.fil.len i hi, fun j hj => ?_, fun hk => ?_, fun hk => h.fil.non hk i hi⟩
    · rw [World.ownsRow.cellAt h0 _ (flat_lt (by omega) hi)]; exact h.fil.num i hi j hj
    · obtain ⟨h1, h2, _⟩ := h.fil.kin hk i hi
      exact ⟨us i, by rw [World.ownsRow.cellAt h0 _ (flat_lt (hm' hk) hi)]; exact h1, h2.rd⟩

/-- It is a slice of that length. -/
theorem OwnM.rd' {e : TypeId} {sz m : Nat} {kn : Bool} {w : World} {F : Nat → Prop} {v : Value} {L : List KD} (h : OwnM e sz m kn w F v L) : ∃ (ao : Option Addr) (cap : Nat), v = .slice ao L.length cap ∧ L.length ≤ maxLen := by
  obtain ⟨xs, us, h⟩ := h
  rcases h.row.2 with ⟨rfl, hn⟩ | ⟨g, cap, cur, rfl, hb, hg, hnc, hcm, hcs, htake⟩
  · exact ⟨none, 0, by rw [hn], by rw [hn]; exact Nat.zero_le _⟩
  · exact ⟨_, cap, rfl, Nat.le_trans hnc hcm⟩
theorem OwnM.rd {e : TypeId} {sz m : Nat} {kn : Bool} {w : World} {F : Nat → Prop} {v : Value} {L : List KD} (h : OwnM e sz m kn w F v L) (hm : m ≤ sz) (hm' : kn = true → m < sz) : RdM sz m kn w v L := by
  obtain ⟨xs, us, h⟩ := h
  exact h.rd hm hm'
theorem OwnM.len {e : TypeId} {sz m : Nat} {kn : Bool} {w : World} {F : Nat → Prop} {v : Value} {L : List KD} (h : OwnM e sz m kn w F v L) : ∀ i, i < L.length → (L.getD i kd0).1.length = m := by
  obtain ⟨xs, us, h⟩ := h
  exact h.fil.len
theorem OwnM.non {e : TypeId} {sz m : Nat} {w : World} {F : Nat → Prop} {v : Value} {L : List KD} (h : OwnM e sz m false w F v L) : ∀ i, i < L.length → (L.getD i kd0).1.length = m ∧ (L.getD i kd0).2 = [] := by
  obtain ⟨xs, us, h⟩ := h
  exact fun i hi => ⟨h.fil.len i hi, h.fil.non rfl i hi⟩

/-! ### Marks -/
def cntK (m : Nat) (x : KD) : Int := (m : Int) + 2 * (x.2.length : Int)
def cntM (m : Nat) (L : List KD) : Int := (L.map (cntK m)).sum
def relK (m : Nat) (k : Int) (x : KD) : KD := ((List.range m).map (fun (j : Nat) => k + (j : Int)), markL (k + (m : Int)) x.2.length)
def relM (m : Nat) : Int → List KD → List KD
  | _, [] => []
  | k, x :: r => relK m k x :: relM m (k + cntK m x) r
theorem relM_length (m : Nat) (L : List KD) : ∀ k, (relM m k L).length = L.length := by
  induction L with
  | nil => intro k; rfl
  | cons x r ih => intro k; simp [relM, ih]
theorem cntK_pos (m : Nat) (x : KD) : 0 ≤ cntK m x := by unfold cntK; omega
theorem cntM_pos (m : Nat) (L : List KD) : 0 ≤ cntM m L := by
  induction L with
  | nil => simp [cntM]
  | cons x r ih => have := cntK_pos m x; simp only [cntM, List.map_cons, List.sum_cons] at ih ⊢; omega
theorem cntM_cons (m : Nat) (x : KD) (r : List KD) : cntM m (x :: r) = cntK m x + cntM m r := by simp [cntM]
theorem cntM_step (m : Nat) (L : List KD) : ∀ i, i < L.length → cntM m (L.take (i + 1)) = cntM m (L.take i) + cntK m (L.getD i kd0) := by
  induction L with
  | nil => intro i h; exact absurd h (Nat.not_lt_zero _)
  | cons x r ih =>
    intro i h
    cases i with
    | zero => simp [cntM]
    | succ j =>
      have := ih j (by simpa using h)
      rw [List.take_succ_cons, List.take_succ_cons, cntM_cons, cntM_cons, this, List.getD_cons_succ]
      omega
theorem cntM_le (m : Nat) (L : List KD) (i : Nat) : cntM m (L.take i) ≤ cntM m L := by
  have h : cntM m L = cntM m (L.take i) + cntM m (L.drop i) := by
    rw [cntM, cntM, cntM, ← List.sum_append, ← List.map_append, List.take_append_drop]
  have := cntM_pos m (L.drop i)
  omega
theorem relM_get (m : Nat) (L : List KD) : ∀ k i, i < L.length → (relM m k L).getD i kd0 = relK m (k + cntM m (L.take i)) (L.getD i kd0) := by
  induction L with
  | nil => intro k i h; exact absurd h (Nat.not_lt_zero _)
  | cons x r ih =>
    intro k i h
    cases i with
    | zero => simp [relM, cntM]
    | succ j =>
      have := ih (k + cntK m x) j (by simpa using h)
      rw [relM, List.getD_cons_succ, this, List.take_succ_cons, cntM_cons, List.getD_cons_succ, Int.add_assoc]

/-- Between the marks of two elements: the first j are marked. -/
def MidM (m : Nat) (k : Int) (L M : List KD) (j : Nat) : Prop := M.length = L.length ∧ (∀ i, i < j → M.getD i kd0 = (relM m k L).getD i kd0) ∧ (∀ i, j ≤ i → i < L.length → M.getD i kd0 = L.getD i kd0)
theorem MidM.start (m : Nat) (k : Int) (L : List KD) : MidM m k L L 0 := ⟨rfl, fun _ h => absurd h (Nat.not_lt_zero _), fun _ _ _ => rfl⟩
theorem kd_getD_set {L : List KD} {j : Nat} (hj : j < L.length) (x : KD) (i : Nat) : (L.set j x).getD i kd0 = if i = j then x else L.getD i kd0 := by
  rw [List.getD_eq_getElem?_getD, List.getElem?_set]
  by_cases e : j = i
  · subst e; simp [hj]
  · rw [if_neg e, if_neg (fun q => e q.symm), List.getD_eq_getElem?_getD]
theorem MidM.step {m : Nat} {k : Int} {L M : List KD} {j : Nat} (h : MidM m k L M j) (hj : j < L.length) : MidM m k L (M.set j (relK m (k + cntM m (L.take j)) (L.getD j kd0))) (j + 1) := by
  obtain ⟨h0, h1, h2⟩ := h
  refine ⟨by simp [h0], fun i hi => ?_, fun i hi hl => ?_⟩
  · rw [kd_getD_set (by rw [h0]; exact hj)]
    by_cases e : i = j
    · subst e; rw [if_pos rfl, relM_get m L k i hj]
    · rw [if_neg e]; exact h1 i (by omega)
  · rw [kd_getD_set (by rw [h0]; exact hj), if_neg (by omega)]
    exact h2 i (by omega) hl
theorem MidM.all {m : Nat} {k : Int} {L M : List KD} (h : MidM m k L M L.length) : M = relM m k L := by
  obtain ⟨h0, h1, _⟩ := h
  apply List.ext_getElem?
  intro i
  by_cases hi : i < L.length
  · have := h1 i hi
    rw [List.getD_eq_getElem?_getD, List.getD_eq_getElem?_getD, List.getElem?_eq_getElem (by rw [h0]; exact hi), List.getElem?_eq_getElem (by rw [relM_length]; exact hi)] at this
    rw [List.getElem?_eq_getElem (by rw [h0]; exact hi), List.getElem?_eq_getElem (by rw [relM_length]; exact hi)]
    simpa using this
  · rw [List.getElem?_eq_none (by omega), List.getElem?_eq_none (by rw [relM_length]; omega)]

/-- A store of one number. -/
theorem OwM.setNum {e : TypeId} {sz m : Nat} {kn : Bool} {w : World} {F : Nat → Prop} {v : Value} {L : List KD} {xs : List Value} {us : Nat → Value} {g j t : Nat} (h : OwM e sz m kn w F v L xs us) (hm : m ≤ sz) (hm' : kn = true → m < sz)
    (hg : v.ownBlock = some g) (hj : j < L.length) (ht : t < m) (z : Int) :
    OwM e sz m kn (w.setCell ⟨g, j * sz + t, none⟩ (.int .i64 z)) F v (L.set j ((L.getD j kd0).1.set t z, (L.getD j kd0).2)) (xs.set (j * sz + t) (.int .i64 z)) us := by
  have hxl : xs.length = L.length * sz := h.row.1
  have hpos : j * sz + t < xs.length := by rw [hxl]; exact flat_lt (by omega) hj
  have hlen := h.fil.len j hj
  refine ⟨?_, h.inF, ?_⟩
  · rw [List.length_set]
    refine ⟨by rw [List.length_set]; exact hxl, ?_⟩
    rcases h.row.2 with ⟨rfl, _⟩ | ⟨g', cap, cur, rfl, hbg, hgg, hnc, hcm, hsz, htk⟩
    · cases hg
    · cases hg
      refine .inr ⟨g', cap, cur.setIfInBounds (j * sz + t) (.int .i64 z), rfl, hbg, ?_, hnc, hcm, by simpa using hsz, ?_⟩
      · simp only [World.setCell, Array.getElem?_modify, hgg]
        simp
      · rw [Array.toList_setIfInBounds, List.take_set, htk]
  · rw [List.length_set]
    refine ⟨fun i hi => ?_, fun i hi s hs => ?_, fun hk i hi => ?_, fun hk i hi => ?_, h.fil.dis⟩
    · rw [kd_getD_set hj]
      split
      · simp only [List.length_set]; exact hlen
      · exact h.fil.len i hi
    · rw [kd_getD_set hj]
      by_cases q : i = j
      · subst q
        rw [if_pos rfl]
        by_cases q' : s = t
        · subst q'
          rw [List.getElem?_set_self hpos]
          rw [List.getD_eq_getElem?_getD, List.getElem?_set_self (by rw [hlen]; exact ht)]; rfl
        · rw [List.getElem?_set_ne (by omega), h.fil.num i hi s hs]
          show _ = some (Value.int IntKind.i64 (((L.getD i kd0).1.set t z).getD s 0))
          rw [List.getD_eq_getElem?_getD (l := (L.getD i kd0).1.set t z), List.getElem?_set_ne (fun x => q' x.symm), ← List.getD_eq_getElem?_getD]
      · rw [if_neg q, List.getElem?_set_ne (flat_ne (by omega) (by omega) (fun x => q x.symm))]
        exact h.fil.num i hi s hs
    · obtain ⟨h1, h2, h3⟩ := h.fil.kin hk i hi
      have := hm' hk
      refine ⟨?_, ?_, h3⟩
      · by_cases q : i = j
        · subst q; rw [List.getElem?_set_ne (by omega)]; exact h1
        · rw [List.getElem?_set_ne (flat_ne (by omega) (by omega) (fun x => q x.symm))]; exact h1
      · rw [kd_getD_set hj]
        have h4 : Own (w.setCell ⟨g, j * sz + t, none⟩ (.int .i64 z)) 0 (us i) (L.getD i kd0).2 := h2.agree fun b hb => Below.heap_setCell _ _ _ _ (fun q => (h3 b hb).2 (by rw [hg, q]))
        split
        · next q => subst q; exact h4
        · exact h4
    · rw [kd_getD_set hj]
      split
      · next q => subst q; exact h.fil.non hk i hj
      · exact h.fil.non hk i hi
/-- A call that turns one element's kin in place. -/
theorem OwM.setKin {e : TypeId} {sz m : Nat} {w w' : World} {F : Nat → Prop} {v : Value} {L : List KD} {xs : List Value} {us : Nat → Value} {j : Nat} (h : OwM e sz m true w F v L xs us)
    (hj : j < L.length) {l : List (Int × Int)} (ho : Own w' 0 (us j) l) (hg : w.grownBy w' (us j).ownBlock) :
    OwM e sz m true w' F v (L.set j ((L.getD j kd0).1, l)) xs us := by
  have hne : ∀ b, v.ownBlock = some b → w'.heap[b]? = w.heap[b]? := fun b hb => hg.block b (World.ownsRow.lt h.row b hb).2 (fun q => ((h.fil.kin rfl j hj).2.2 b q.symm).2 hb)
  refine ⟨by rw [List.length_set]; exact row_agree h.row hne, h.inF, ?_⟩
  rw [List.length_set]
  refine ⟨fun i hi => ?_, fun i hi s hs => ?_, fun hk i hi => ?_, fun hk => (by cases hk), h.fil.dis⟩
  · rw [kd_getD_set hj]
    split
    · next q => subst q; exact h.fil.len i hi
    · exact h.fil.len i hi
  · rw [kd_getD_set hj]
    split
    · next q => subst q; exact h.fil.num i hi s hs
    · exact h.fil.num i hi s hs
  · obtain ⟨h1, h2, h3⟩ := h.fil.kin rfl i hi
    refine ⟨h1, ?_, h3⟩
    rw [kd_getD_set hj]
    split
    · next q => subst q; exact ho
    · next q => exact h2.agree fun b hb => hg.block b (h2.block b hb).2 (fun r => h.fil.dis rfl i j hi hj q b hb r.symm)
end Go.Proofs.YtefhpbcdjgllnaaGreat

/- Part: Rows of numbers: elements by how many numbers they have. Written by a program (gk.py). -/
namespace Go.Proofs.YtefhpbcdjgllnaaGreat
open Go.RowKit

theorem heap_set_ne {w w0 : World} {b g j : Nat} {x : Value} (h : b ≠ g) (h0 : w.heap[b]? = w0.heap[b]?) : (w.setCell ⟨g, j, none⟩ x).heap[b]? = w0.heap[b]? := (Below.heap_setCell w ⟨g, j, none⟩ x b h).trans h0
theorem row_mono0 {w : World} {B : Nat} {e : TypeId} {size : Nat} {v : Value} {n : Nat} {xs : List Value} (h : w.ownsRow B e size v n xs) : w.ownsRow 0 e size v n xs := by
  refine ⟨h.1, ?_⟩
  rcases h.2 with hn | ⟨g, cap, cur, rfl, hbg, rest⟩
  · exact .inl hn
  · exact .inr ⟨g, cap, cur, rfl, Nat.zero_le _, rest⟩
theorem row_put1 {w : World} {B : Nat} {e : TypeId} {size : Nat} {g n cap : Nat} {xs : List Value} (h : w.ownsRow B e size (.slice (some ⟨g, 0, none⟩) n cap) n xs) (j : Nat) (a : Value) :
    (w.setCell ⟨g, j, none⟩ a).ownsRow B e size (.slice (some ⟨g, 0, none⟩) n cap) n (xs.set j a) := (h.stored j a).1
theorem atK_1k {w : World} {b p : Nat} {x : KD} (h : AtK 1 true w b p x) : ∃ a0 l u, x = ([a0], l) ∧ w.cell? ⟨b, p, none⟩ = some (.int .i64 a0) ∧ w.cell? ⟨b, p + 1, none⟩ = some u ∧ Rd w u l := by
  obtain ⟨xs, l⟩ := x
  have hl := h.len
  match xs, hl, h with
  | [a0], _, h =>
    obtain ⟨u, h1, h2⟩ := h.kin rfl
    exact ⟨a0, l, u, rfl, h.num 0 (by decide), h1, h2⟩
theorem kd_1k {x : KD} (h : x.1.length = 1) : ∃ a0 l, x = ([a0], l) := by
  obtain ⟨xs, l⟩ := x
  match xs, h with
  | [a0], _ => exact ⟨a0, l, rfl⟩
theorem relK_1k (q : Int) (a0 : Int) (l : List (Int × Int)) : relK 1 q ([a0], l) = ([q], markL (q + 1) l.length) := by
  have e : (List.range 1).map (fun j : Nat => q + (j : Int)) = [q] := by simp [List.range, List.range.loop]
  simp only [relK, e]
  rw [show q + ((1 : Nat) : Int) = q + 1 from by omega]
theorem OwM.mark_1k {e : TypeId} {w : World} {F : Nat → Prop} {v : Value} {M : List KD} {xs : List Value} {us : Nat → Value} {g j : Nat} {a0 : Int} {l : List (Int × Int)} (h : OwM e 2 1 true w F v M xs us) (hj : j < M.length) (hx : M.getD j kd0 = ([a0], l)) (hg : v.ownBlock = some g) (q : Int) :
    ∃ xs', OwM e 2 1 true (w.setCell ⟨g, j * 2, none⟩ (.int .i64 (q))) F v (M.set j ([q], l)) xs' us := by
  have h0 := OwM.setNum (t := 0) h (by decide) (by decide) hg (by simpa using hj) (by decide) (q)
  rw [hx] at h0
  simp only [List.set_cons_zero] at h0
  exact ⟨_, h0⟩
theorem atK_2k {w : World} {b p : Nat} {x : KD} (h : AtK 2 true w b p x) : ∃ a0 a1 l u, x = ([a0, a1], l) ∧ w.cell? ⟨b, p, none⟩ = some (.int .i64 a0) ∧ w.cell? ⟨b, p + 1, none⟩ = some (.int .i64 a1) ∧ w.cell? ⟨b, p + 2, none⟩ = some u ∧ Rd w u l := by
  obtain ⟨xs, l⟩ := x
  have hl := h.len
  match xs, hl, h with
  | [a0, a1], _, h =>
    obtain ⟨u, h1, h2⟩ := h.kin rfl
    exact ⟨a0, a1, l, u, rfl, h.num 0 (by decide), h.num 1 (by decide), h1, h2⟩
theorem kd_2k {x : KD} (h : x.1.length = 2) : ∃ a0 a1 l, x = ([a0, a1], l) := by
  obtain ⟨xs, l⟩ := x
  match xs, h with
  | [a0, a1], _ => exact ⟨a0, a1, l, rfl⟩
theorem relK_2k (q : Int) (a0 a1 : Int) (l : List (Int × Int)) : relK 2 q ([a0, a1], l) = ([q, q + 1], markL (q + 1 + 1) l.length) := by
  have e : (List.range 2).map (fun j : Nat => q + (j : Int)) = [q, q + 1] := by simp [List.range, List.range.loop]
  simp only [relK, e]
  rw [show q + ((2 : Nat) : Int) = q + 1 + 1 from by omega]
theorem OwM.mark_2k {e : TypeId} {w : World} {F : Nat → Prop} {v : Value} {M : List KD} {xs : List Value} {us : Nat → Value} {g j : Nat} {a0 a1 : Int} {l : List (Int × Int)} (h : OwM e 3 2 true w F v M xs us) (hj : j < M.length) (hx : M.getD j kd0 = ([a0, a1], l)) (hg : v.ownBlock = some g) (q : Int) :
    ∃ xs', OwM e 3 2 true ((w.setCell ⟨g, j * 3, none⟩ (.int .i64 (q))).setCell ⟨g, j * 3 + 1, none⟩ (.int .i64 (q + 1))) F v (M.set j ([q, q + 1], l)) xs' us := by
  have h0 := OwM.setNum (t := 0) h (by decide) (by decide) hg (by simpa using hj) (by decide) (q)
  rw [hx] at h0
  simp only [List.set_cons_zero] at h0
  have h1 := OwM.setNum (t := 1) h0 (by decide) (by decide) hg (by simpa using hj) (by decide) (q + 1)
  rw [kd_getD_set hj, if_pos rfl] at h1
  simp only [List.set_cons_zero, List.set_cons_succ, List.set_set] at h1
  exact ⟨_, h1⟩
theorem atK_3k {w : World} {b p : Nat} {x : KD} (h : AtK 3 true w b p x) : ∃ a0 a1 a2 l u, x = ([a0, a1, a2], l) ∧ w.cell? ⟨b, p, none⟩ = some (.int .i64 a0) ∧ w.cell? ⟨b, p + 1, none⟩ = some (.int .i64 a1) ∧ w.cell? ⟨b, p + 2, none⟩ = some (.int .i64 a2) ∧ w.cell? ⟨b, p + 3, none⟩ = some u ∧ Rd w u l := by
  obtain ⟨xs, l⟩ := x
  have hl := h.len
  match xs, hl, h with
  | [a0, a1, a2], _, h =>
    obtain ⟨u, h1, h2⟩ := h.kin rfl
    exact ⟨a0, a1, a2, l, u, rfl, h.num 0 (by decide), h.num 1 (by decide), h.num 2 (by decide), h1, h2⟩
theorem kd_3k {x : KD} (h : x.1.length = 3) : ∃ a0 a1 a2 l, x = ([a0, a1, a2], l) := by
  obtain ⟨xs, l⟩ := x
  match xs, h with
  | [a0, a1, a2], _ => exact ⟨a0, a1, a2, l, rfl⟩
theorem relK_3k (q : Int) (a0 a1 a2 : Int) (l : List (Int × Int)) : relK 3 q ([a0, a1, a2], l) = ([q, q + 1, q + 1 + 1], markL (q + 1 + 1 + 1) l.length) := by
  have e : (List.range 3).map (fun j : Nat => q + (j : Int)) = [q, q + 1, q + 1 + 1] := by simp [List.range, List.range.loop] <;> omega
  simp only [relK, e]
  rw [show q + ((3 : Nat) : Int) = q + 1 + 1 + 1 from by omega]
theorem OwM.mark_3k {e : TypeId} {w : World} {F : Nat → Prop} {v : Value} {M : List KD} {xs : List Value} {us : Nat → Value} {g j : Nat} {a0 a1 a2 : Int} {l : List (Int × Int)} (h : OwM e 4 3 true w F v M xs us) (hj : j < M.length) (hx : M.getD j kd0 = ([a0, a1, a2], l)) (hg : v.ownBlock = some g) (q : Int) :
    ∃ xs', OwM e 4 3 true (((w.setCell ⟨g, j * 4, none⟩ (.int .i64 (q))).setCell ⟨g, j * 4 + 1, none⟩ (.int .i64 (q + 1))).setCell ⟨g, j * 4 + 2, none⟩ (.int .i64 (q + 1 + 1))) F v (M.set j ([q, q + 1, q + 1 + 1], l)) xs' us := by
  have h0 := OwM.setNum (t := 0) h (by decide) (by decide) hg (by simpa using hj) (by decide) (q)
  rw [hx] at h0
  simp only [List.set_cons_zero] at h0
  have h1 := OwM.setNum (t := 1) h0 (by decide) (by decide) hg (by simpa using hj) (by decide) (q + 1)
  rw [kd_getD_set hj, if_pos rfl] at h1
  simp only [List.set_cons_zero, List.set_cons_succ, List.set_set] at h1
  have h2 := OwM.setNum (t := 2) h1 (by decide) (by decide) hg (by simpa using hj) (by decide) (q + 1 + 1)
  rw [kd_getD_set hj, if_pos rfl] at h2
  simp only [List.set_cons_zero, List.set_cons_succ, List.set_set] at h2
  exact ⟨_, h2⟩
theorem atK_6n {w : World} {b p : Nat} {x : KD} (h : AtK 6 false w b p x) : ∃ a0 a1 a2 a3 a4 a5, x = ([a0, a1, a2, a3, a4, a5], []) ∧ w.cell? ⟨b, p, none⟩ = some (.int .i64 a0) ∧ w.cell? ⟨b, p + 1, none⟩ = some (.int .i64 a1) ∧ w.cell? ⟨b, p + 2, none⟩ = some (.int .i64 a2) ∧ w.cell? ⟨b, p + 3, none⟩ = some (.int .i64 a3) ∧ w.cell? ⟨b, p + 4, none⟩ = some (.int .i64 a4) ∧ w.cell? ⟨b, p + 5, none⟩ = some (.int .i64 a5) := by
  obtain ⟨xs, l⟩ := x
  have hl := h.len
  match xs, hl, h with
  | [a0, a1, a2, a3, a4, a5], _, h =>
    have hz := h.non rfl
    simp only at hz
    subst hz
    exact ⟨a0, a1, a2, a3, a4, a5, rfl, h.num 0 (by decide), h.num 1 (by decide), h.num 2 (by decide), h.num 3 (by decide), h.num 4 (by decide), h.num 5 (by decide)⟩
theorem kd_6n {x : KD} (h : x.1.length = 6) (hz : x.2 = []) : ∃ a0 a1 a2 a3 a4 a5, x = ([a0, a1, a2, a3, a4, a5], []) := by
  obtain ⟨xs, l⟩ := x
  simp only at hz
  subst hz
  match xs, h with
  | [a0, a1, a2, a3, a4, a5], _ => exact ⟨a0, a1, a2, a3, a4, a5, rfl⟩
theorem relK_6n (q : Int) (a0 a1 a2 a3 a4 a5 : Int) : relK 6 q ([a0, a1, a2, a3, a4, a5], []) = ([q, q + 1, q + 1 + 1, q + 1 + 1 + 1, q + 1 + 1 + 1 + 1, q + 1 + 1 + 1 + 1 + 1], []) := by
  have e : (List.range 6).map (fun j : Nat => q + (j : Int)) = [q, q + 1, q + 1 + 1, q + 1 + 1 + 1, q + 1 + 1 + 1 + 1, q + 1 + 1 + 1 + 1 + 1] := by simp [List.range, List.range.loop] <;> omega
  simp only [relK, e]
  simp [markL]
theorem OwM.mark_6n {e : TypeId} {w : World} {F : Nat → Prop} {v : Value} {M : List KD} {xs : List Value} {us : Nat → Value} {g j : Nat} {a0 a1 a2 a3 a4 a5 : Int} (h : OwM e 6 6 false w F v M xs us) (hj : j < M.length) (hx : M.getD j kd0 = ([a0, a1, a2, a3, a4, a5], [])) (hg : v.ownBlock = some g) (q : Int) :
    ∃ xs', OwM e 6 6 false ((((((w.setCell ⟨g, j * 6, none⟩ (.int .i64 (q))).setCell ⟨g, j * 6 + 1, none⟩ (.int .i64 (q + 1))).setCell ⟨g, j * 6 + 2, none⟩ (.int .i64 (q + 1 + 1))).setCell ⟨g, j * 6 + 3, none⟩ (.int .i64 (q + 1 + 1 + 1))).setCell ⟨g, j * 6 + 4, none⟩ (.int .i64 (q + 1 + 1 + 1 + 1))).setCell ⟨g, j * 6 + 5, none⟩ (.int .i64 (q + 1 + 1 + 1 + 1 + 1))) F v (M.set j ([q, q + 1, q + 1 + 1, q + 1 + 1 + 1, q + 1 + 1 + 1 + 1, q + 1 + 1 + 1 + 1 + 1], [])) xs' us := by
  have h0 := OwM.setNum (t := 0) h (by decide) (by decide) hg (by simpa using hj) (by decide) (q)
  rw [hx] at h0
  simp only [List.set_cons_zero] at h0
  have h1 := OwM.setNum (t := 1) h0 (by decide) (by decide) hg (by simpa using hj) (by decide) (q + 1)
  rw [kd_getD_set hj, if_pos rfl] at h1
  simp only [List.set_cons_zero, List.set_cons_succ, List.set_set] at h1
  have h2 := OwM.setNum (t := 2) h1 (by decide) (by decide) hg (by simpa using hj) (by decide) (q + 1 + 1)
  rw [kd_getD_set hj, if_pos rfl] at h2
  simp only [List.set_cons_zero, List.set_cons_succ, List.set_set] at h2
  have h3 := OwM.setNum (t := 3) h2 (by decide) (by decide) hg (by simpa using hj) (by decide) (q + 1 + 1 + 1)
  rw [kd_getD_set hj, if_pos rfl] at h3
  simp only [List.set_cons_zero, List.set_cons_succ, List.set_set] at h3
  have h4 := OwM.setNum (t := 4) h3 (by decide) (by decide) hg (by simpa using hj) (by decide) (q + 1 + 1 + 1 + 1)
  rw [kd_getD_set hj, if_pos rfl] at h4
  simp only [List.set_cons_zero, List.set_cons_succ, List.set_set] at h4
  have h5 := OwM.setNum (t := 5) h4 (by decide) (by decide) hg (by simpa using hj) (by decide) (q + 1 + 1 + 1 + 1 + 1)
  rw [kd_getD_set hj, if_pos rfl] at h5
  simp only [List.set_cons_zero, List.set_cons_succ, List.set_set] at h5
  exact ⟨_, h5⟩
theorem atK_5n {w : World} {b p : Nat} {x : KD} (h : AtK 5 false w b p x) : ∃ a0 a1 a2 a3 a4, x = ([a0, a1, a2, a3, a4], []) ∧ w.cell? ⟨b, p, none⟩ = some (.int .i64 a0) ∧ w.cell? ⟨b, p + 1, none⟩ = some (.int .i64 a1) ∧ w.cell? ⟨b, p + 2, none⟩ = some (.int .i64 a2) ∧ w.cell? ⟨b, p + 3, none⟩ = some (.int .i64 a3) ∧ w.cell? ⟨b, p + 4, none⟩ = some (.int .i64 a4) := by
  obtain ⟨xs, l⟩ := x
  have hl := h.len
  match xs, hl, h with
  | [a0, a1, a2, a3, a4], _, h =>
    have hz := h.non rfl
    simp only at hz
    subst hz
    exact ⟨a0, a1, a2, a3, a4, rfl, h.num 0 (by decide), h.num 1 (by decide), h.num 2 (by decide), h.num 3 (by decide), h.num 4 (by decide)⟩
theorem kd_5n {x : KD} (h : x.1.length = 5) (hz : x.2 = []) : ∃ a0 a1 a2 a3 a4, x = ([a0, a1, a2, a3, a4], []) := by
  obtain ⟨xs, l⟩ := x
  simp only at hz
  subst hz
  match xs, h with
  | [a0, a1, a2, a3, a4], _ => exact ⟨a0, a1, a2, a3, a4, rfl⟩
theorem relK_5n (q : Int) (a0 a1 a2 a3 a4 : Int) : relK 5 q ([a0, a1, a2, a3, a4], []) = ([q, q + 1, q + 1 + 1, q + 1 + 1 + 1, q + 1 + 1 + 1 + 1], []) := by
  have e : (List.range 5).map (fun j : Nat => q + (j : Int)) = [q, q + 1, q + 1 + 1, q + 1 + 1 + 1, q + 1 + 1 + 1 + 1] := by simp [List.range, List.range.loop] <;> omega
  simp only [relK, e]
  simp [markL]
theorem OwM.mark_5n {e : TypeId} {w : World} {F : Nat → Prop} {v : Value} {M : List KD} {xs : List Value} {us : Nat → Value} {g j : Nat} {a0 a1 a2 a3 a4 : Int} (h : OwM e 5 5 false w F v M xs us) (hj : j < M.length) (hx : M.getD j kd0 = ([a0, a1, a2, a3, a4], [])) (hg : v.ownBlock = some g) (q : Int) :
    ∃ xs', OwM e 5 5 false (((((w.setCell ⟨g, j * 5, none⟩ (.int .i64 (q))).setCell ⟨g, j * 5 + 1, none⟩ (.int .i64 (q + 1))).setCell ⟨g, j * 5 + 2, none⟩ (.int .i64 (q + 1 + 1))).setCell ⟨g, j * 5 + 3, none⟩ (.int .i64 (q + 1 + 1 + 1))).setCell ⟨g, j * 5 + 4, none⟩ (.int .i64 (q + 1 + 1 + 1 + 1))) F v (M.set j ([q, q + 1, q + 1 + 1, q + 1 + 1 + 1, q + 1 + 1 + 1 + 1], [])) xs' us := by
  have h0 := OwM.setNum (t := 0) h (by decide) (by decide) hg (by simpa using hj) (by decide) (q)
  rw [hx] at h0
  simp only [List.set_cons_zero] at h0
  have h1 := OwM.setNum (t := 1) h0 (by decide) (by decide) hg (by simpa using hj) (by decide) (q + 1)
  rw [kd_getD_set hj, if_pos rfl] at h1
  simp only [List.set_cons_zero, List.set_cons_succ, List.set_set] at h1
  have h2 := OwM.setNum (t := 2) h1 (by decide) (by decide) hg (by simpa using hj) (by decide) (q + 1 + 1)
  rw [kd_getD_set hj, if_pos rfl] at h2
  simp only [List.set_cons_zero, List.set_cons_succ, List.set_set] at h2
  have h3 := OwM.setNum (t := 3) h2 (by decide) (by decide) hg (by simpa using hj) (by decide) (q + 1 + 1 + 1)
  rw [kd_getD_set hj, if_pos rfl] at h3
  simp only [List.set_cons_zero, List.set_cons_succ, List.set_set] at h3
  have h4 := OwM.setNum (t := 4) h3 (by decide) (by decide) hg (by simpa using hj) (by decide) (q + 1 + 1 + 1 + 1)
  rw [kd_getD_set hj, if_pos rfl] at h4
  simp only [List.set_cons_zero, List.set_cons_succ, List.set_set] at h4
  exact ⟨_, h4⟩
theorem atK_3n {w : World} {b p : Nat} {x : KD} (h : AtK 3 false w b p x) : ∃ a0 a1 a2, x = ([a0, a1, a2], []) ∧ w.cell? ⟨b, p, none⟩ = some (.int .i64 a0) ∧ w.cell? ⟨b, p + 1, none⟩ = some (.int .i64 a1) ∧ w.cell? ⟨b, p + 2, none⟩ = some (.int .i64 a2) := by
  obtain ⟨xs, l⟩ := x
  have hl := h.len
  match xs, hl, h with
  | [a0, a1, a2], _, h =>
    have hz := h.non rfl
    simp only at hz
    subst hz
    exact ⟨a0, a1, a2, rfl, h.num 0 (by decide), h.num 1 (by decide), h.num 2 (by decide)⟩
theorem kd_3n {x : KD} (h : x.1.length = 3) (hz : x.2 = []) : ∃ a0 a1 a2, x = ([a0, a1, a2], []) := by
  obtain ⟨xs, l⟩ := x
  simp only at hz
  subst hz
  match xs, h with
  | [a0, a1, a2], _ => exact ⟨a0, a1, a2, rfl⟩
theorem relK_3n (q : Int) (a0 a1 a2 : Int) : relK 3 q ([a0, a1, a2], []) = ([q, q + 1, q + 1 + 1], []) := by
  have e : (List.range 3).map (fun j : Nat => q + (j : Int)) = [q, q + 1, q + 1 + 1] := by simp [List.range, List.range.loop] <;> omega
  simp only [relK, e]
  simp [markL]
theorem OwM.mark_3n {e : TypeId} {w : World} {F : Nat → Prop} {v : Value} {M : List KD} {xs : List Value} {us : Nat → Value} {g j : Nat} {a0 a1 a2 : Int} (h : OwM e 3 3 false w F v M xs us) (hj : j < M.length) (hx : M.getD j kd0 = ([a0, a1, a2], [])) (hg : v.ownBlock = some g) (q : Int) :
    ∃ xs', OwM e 3 3 false (((w.setCell ⟨g, j * 3, none⟩ (.int .i64 (q))).setCell ⟨g, j * 3 + 1, none⟩ (.int .i64 (q + 1))).setCell ⟨g, j * 3 + 2, none⟩ (.int .i64 (q + 1 + 1))) F v (M.set j ([q, q + 1, q + 1 + 1], [])) xs' us := by
  have h0 := OwM.setNum (t := 0) h (by decide) (by decide) hg (by simpa using hj) (by decide) (q)
  rw [hx] at h0
  simp only [List.set_cons_zero] at h0
  have h1 := OwM.setNum (t := 1) h0 (by decide) (by decide) hg (by simpa using hj) (by decide) (q + 1)
  rw [kd_getD_set hj, if_pos rfl] at h1
  simp only [List.set_cons_zero, List.set_cons_succ, List.set_set] at h1
  have h2 := OwM.setNum (t := 2) h1 (by decide) (by decide) hg (by simpa using hj) (by decide) (q + 1 + 1)
  rw [kd_getD_set hj, if_pos rfl] at h2
  simp only [List.set_cons_zero, List.set_cons_succ, List.set_set] at h2
  exact ⟨_, h2⟩
theorem atK_1n {w : World} {b p : Nat} {x : KD} (h : AtK 1 false w b p x) : ∃ a0, x = ([a0], []) ∧ w.cell? ⟨b, p, none⟩ = some (.int .i64 a0) := by
  obtain ⟨xs, l⟩ := x
  have hl := h.len
  match xs, hl, h with
  | [a0], _, h =>
    have hz := h.non rfl
    simp only at hz
    subst hz
    exact ⟨a0, rfl, h.num 0 (by decide)⟩
theorem kd_1n {x : KD} (h : x.1.length = 1) (hz : x.2 = []) : ∃ a0, x = ([a0], []) := by
  obtain ⟨xs, l⟩ := x
  simp only at hz
  subst hz
  match xs, h with
  | [a0], _ => exact ⟨a0, rfl⟩
theorem relK_1n (q : Int) (a0 : Int) : relK 1 q ([a0], []) = ([q], []) := by
  have e : (List.range 1).map (fun j : Nat => q + (j : Int)) = [q] := by simp [List.range, List.range.loop]
  simp only [relK, e]
  simp [markL]
theorem OwM.mark_1n {e : TypeId} {w : World} {F : Nat → Prop} {v : Value} {M : List KD} {xs : List Value} {us : Nat → Value} {g j : Nat} {a0 : Int} (h : OwM e 1 1 false w F v M xs us) (hj : j < M.length) (hx : M.getD j kd0 = ([a0], [])) (hg : v.ownBlock = some g) (q : Int) :
    ∃ xs', OwM e 1 1 false (w.setCell ⟨g, j * 1, none⟩ (.int .i64 (q))) F v (M.set j ([q], [])) xs' us := by
  have h0 := OwM.setNum (t := 0) h (by decide) (by decide) hg (by simpa using hj) (by decide) (q)
  rw [hx] at h0
  simp only [List.set_cons_zero] at h0
  exact ⟨_, h0⟩
end Go.Proofs.YtefhpbcdjgllnaaGreat

/- Part: The law's own helpers szEdgeS, eqEdge, eqEdgeS: contracts. -/
namespace Go.Proofs.YtefhpbcdjgllnaaGreat
open Go.RowKit
attribute [local go_sem ↓] Go.wp_at_zero Go.wp_at_succ

set_option maxHeartbeats 400000 in
theorem sz_any (ao : Option Addr) (n cap : Nat) (left : Int) (hn : n ≤ maxLen) (h0 : 0 ≤ left) (h1 : left ≤ 1048576) (w : World) :
    Calls Tryz.prog 40 #[.slice ao n cap, .int .i64 left] w fun e w' => e = .returned (.int .i64 (if left < n then -1 else left - n)) ∧ w' = w := by
  unfold maxLen at hn
  by_cases h : left < n
  · go_enter Tryz.func40, Tryz.ntmps40
    go_wp2
    go_ret
    exact ⟨by simp, rfl⟩
  · go_enter Tryz.func40, Tryz.ntmps40
    go_wp2
    go_ret
    exact ⟨by simp, rfl⟩

theorem sz_fits (ao : Option Addr) (n cap : Nat) (left : Int) (hn : (n : Int) ≤ left) (h1 : left ≤ 1048576) (w : World) :
    Calls Tryz.prog 40 #[.slice ao n cap, .int .i64 left] w fun e w' => e = .returned (.int .i64 (left - n)) ∧ w' = w := by
  have := sz_any ao n cap left (by unfold maxLen; omega) (by omega) h1 w
  rwa [if_neg (by omega)] at this
theorem sz_over (ao : Option Addr) (n cap : Nat) (left : Int) (hm : n ≤ maxLen) (hn : left < (n : Int)) (h0 : 0 ≤ left) (h1 : left ≤ 1048576) (w : World) :
    Calls Tryz.prog 40 #[.slice ao n cap, .int .i64 left] w fun e w' => e = .returned (.int .i64 (-1)) ∧ w' = w := by
  have := sz_any ao n cap left hm h0 h1 w
  rwa [if_pos (by omega)] at this

set_option maxHeartbeats 400000 in
theorem eqEdge_any (a b c d : Int) (w : World) :
    Calls Tryz.prog 101 #[.agg #[.int .i64 a, .int .i64 b], .agg #[.int .i64 c, .int .i64 d]] w fun e w' => e = .returned (.bool (eqB (a, b) (c, d))) ∧ Below w.heap.size w w' := by
  go_enter Tryz.func101, Tryz.ntmps101
  go_wp2
  all_goals
    go_ret
    exact ⟨by simp_all [eqB], by go_grown⟩

set_option maxHeartbeats 1000000 in
theorem eqEdgeS_any (va vb : Value) (la lb : List (Int × Int)) (w : World) (ha : Rd w va la) (hb : Rd w vb lb) :
    Calls Tryz.prog 70 #[va, vb] w fun e w' => e = .returned (.bool (eqL la lb)) ∧ Below w.heap.size w w' := by
  obtain ⟨aa, ca, rfl, hla, hca⟩ := ha
  obtain ⟨ab, cb, rfl, hlb, hcb⟩ := hb
  unfold maxLen at hla hlb
  by_cases hne : ((la.length : Int) != (lb.length : Int)) = true
  · have : la ≠ lb := fun h => by simp [h] at hne
    go_enter Tryz.func70, Tryz.ntmps70
    go_wp2
    go_ret
    exact ⟨by simp [eqL_no this], Below.refl _ _⟩
  · have hlen : la.length = lb.length := by simp at hne; omega
    have HL : Hid (la.length = lb.length) := hlen
    clear hlen
    go_enter Tryz.func70, Tryz.ntmps70
    go_wp2
    go_loopw [5] (fun i wr => ∃ k : Nat, k ≤ la.length ∧ i = .int .i64 k ∧ Hid (la.take k = lb.take k) ∧ Below w.heap.size w wr) (fun i _ => la.length - (intOf i).toNat)
    case atStart => exact ⟨0, Nat.zero_le _, rfl, rfl, Below.refl _ _⟩
    case round =>
      obtain ⟨k, hk, rfl, hpre, hbel⟩ := hrel
      by_cases hlt : k < la.length
      · obtain ⟨ba, oa, rfl, hba, hcca⟩ := hca (by omega)
        obtain ⟨bb, ob, rfl, hbb, hccb⟩ := hcb (by have := HL.out; omega)
        obtain ⟨c0, c1⟩ := hcca k hlt
        obtain ⟨d0, d1⟩ := hccb k (by have := HL.out; omega)
        rw [← hbel.cell (p := ⟨ba, oa + k * 2, none⟩) hba] at c0
        rw [← hbel.cell (p := ⟨ba, oa + k * 2 + 1, none⟩) hba] at c1
        rw [← hbel.cell (p := ⟨bb, ob + k * 2, none⟩) hbb] at d0
        rw [← hbel.cell (p := ⟨bb, ob + k * 2 + 1, none⟩) hbb] at d1
        have hkb : (k : Int) < (lb.length : Int) := by have := HL.out; omega
        have hsz := hbel.size
        clear hcca hccb hca hcb
        by_cases hxy : la.getD k (0, 0) = lb.getD k (0, 0)
        · have hnext : Hid (la.take (k + 1) = lb.take (k + 1)) := take_more la lb (0, 0) k hlt (by omega) hpre hxy
          rw [← hxy] at d0 d1
          generalize la.getD k (0, 0) = x at *
          clear hxy
          have he : eqB x x = true := eqB_yes rfl
          go_wp2
          go_region_held3 (fun w' => w'.cell? ⟨ba, oa + k * 2, none⟩ = some (.int .i64 x.1) ∧ w'.cell? ⟨ba, oa + k * 2 + 1, none⟩ = some (.int .i64 x.2) ∧ w'.cell? ⟨bb, ob + k * 2, none⟩ = some (.int .i64 x.1) ∧ w'.cell? ⟨bb, ob + k * 2 + 1, none⟩ = some (.int .i64 x.2)) (first | go_keep | (go_split_ands; refine ⟨?_, ?_, ?_, ?_⟩ <;> first | assumption | exact cell_later (by assumption) (by assumption))) (first | (go_at_call 101; refine (eqEdge_any _ _ _ _ _).mono ?_; rintro e w' ⟨rfl, hb'⟩))
          go_wp2
          go_roundw
          case rel => exact ⟨k + 1, by omega, by go_num, hnext, hbel.trans ((Below.refl _ _).drew.trans (hb'.mono hsz))⟩
          case measure => simp [intOf]; omega
        · have hdiff : eqL la lb = false := eqL_no (fun h => hxy (by rw [h]))
          have he : eqB (la.getD k (0, 0)) (lb.getD k (0, 0)) = false := eqB_no hxy
          clear hxy
          generalize la.getD k (0, 0) = x at *
          generalize lb.getD k (0, 0) = y at *
          go_wp2
          go_region_held3 (fun w' => w'.cell? ⟨ba, oa + k * 2, none⟩ = some (.int .i64 x.1) ∧ w'.cell? ⟨ba, oa + k * 2 + 1, none⟩ = some (.int .i64 x.2) ∧ w'.cell? ⟨bb, ob + k * 2, none⟩ = some (.int .i64 y.1) ∧ w'.cell? ⟨bb, ob + k * 2 + 1, none⟩ = some (.int .i64 y.2)) (first | go_keep | (go_split_ands; refine ⟨?_, ?_, ?_, ?_⟩ <;> first | assumption | exact cell_later (by assumption) (by assumption))) (first | (go_at_call 101; refine (eqEdge_any _ _ _ _ _).mono ?_; rintro e w' ⟨rfl, hb'⟩))
          go_wp2
          go_ret
          exact ⟨by simp [hdiff], hbel.trans ((Below.refl _ _).drew.trans (hb'.mono hsz))⟩
      · have hall : eqL la lb = true := eqL_yes (by have h1 := HL.out; have h2 := hpre.out; rwa [List.take_of_length_le (by omega), List.take_of_length_le (by omega)] at h2)
        go_wp2
        go_ret
        exact ⟨by simp [hall], hbel⟩
end Go.Proofs.YtefhpbcdjgllnaaGreat

/- Part: The law's own helpers toEdge, toEdgeS: contracts. -/
namespace Go.Proofs.YtefhpbcdjgllnaaGreat
open Go.RowKit
attribute [local go_sem ↓] Go.wp_at_zero Go.wp_at_succ

theorem Tryz.info124 : (Tryz.prog.info? 124).map (fun i => (i.zero, i.size, i.bytes)) = some (some (.agg #[.int .i64 0, .int .i64 0]), 2, 16) := by kernel_rfl

set_option maxHeartbeats 400000 in
theorem toEdge_any (a b : Int) (w : World) :
    Calls Tryz.prog 78 #[.agg #[.int .i64 a, .int .i64 b]] w fun e w' => e = .returned (.agg #[.int .i64 a, .int .i64 b]) ∧ Below w.heap.size w w' := by
  go_enter Tryz.func78, Tryz.ntmps78
  go_wp2
  refine bodyPost_ret (v := .agg #[.int .i64 a, .int .i64 b]) (by simp [results, Tryz.results78, go_sem]) rfl ⟨rfl, ?_⟩
  go_grown

set_option maxHeartbeats 1000000 in
theorem toEdgeS_any (v : Value) (l : List (Int × Int)) (w : World) (h : Rd w v l) (hl : l.length ≤ 1048576) :
    Calls Tryz.prog 53 #[v] w fun e w' => ∃ v', e = .returned v' ∧ Own w' w.heap.size v' l ∧ Below w.heap.size w w' := by
  obtain ⟨ao, cap, rfl, _, hc⟩ := h
  obtain ⟨i0, hi, hz0, hz1, hz2⟩ := info_parts Tryz.info124
  have hby : i0.bytes * l.length ≤ 281474976710656 := by rw [hz2]; omega
  have hml : l.length ≤ maxLen := by unfold maxLen; omega
  go_enter Tryz.func53, Tryz.ntmps53
  go_wp2_with (first | (at_make; refine wpList_make_full _ rfl (.tmp 6) (.tmp 6) 45 rfl w.heap.size 124 i0 _ 2 Tryz.underlying45 hi hz0 hz1 .i64 .i64 _ _ l.length rfl rfl rfl rfl hby hml (Nat.le_refl _) ?_; intro w1 hown hgrow))
  go_loopw [4] (fun i wr => ∃ (k : Nat) (xs : List Value), k ≤ l.length ∧ i = .int .i64 k ∧ Filled xs l k ∧ Below w.heap.size w wr ∧
      wr.ownsRow w.heap.size 124 2 (.slice (some ⟨w.heap.size, 0, none⟩) l.length l.length) l.length xs) (fun i _ => l.length - (intOf i).toNat)
  case atStart => exact ⟨0, _, Nat.zero_le _, rfl, Filled.zero _ _, (Below.refl _ _).grown hgrow (Nat.le_refl _) (by simp), hown⟩
  case round =>
    obtain ⟨k, xs, hk, rfl, hfil, hbel, hrow⟩ := hrel
    clear hown hgrow hby hi hz0 hz1 hz2
    by_cases hlt : k < l.length
    · obtain ⟨b, o, rfl, hb, hcc⟩ := hc (by omega)
      obtain ⟨c0, c1⟩ := hcc k hlt
      rw [← hbel.cell (p := ⟨b, o + k * 2, none⟩) hb] at c0
      rw [← hbel.cell (p := ⟨b, o + k * 2 + 1, none⟩) hb] at c1
      have hstep := hfil.step hlt hrow.1
      clear hcc hc hfil
      generalize l.getD k (0, 0) = x at *
      have hsz := hbel.size
      go_wp2_with (first | (go_at_call 78; refine (toEdge_any _ _ _).mono ?_; rintro e w2 ⟨rfl, hb2⟩; have hrow2 := row_later hrow hb2; obtain ⟨q0, hq0⟩ := row_cell hrow2 (k * 2) (by omega); obtain ⟨q1, hq1⟩ := row_cell hrow2 (k * 2 + 1) (by omega); have f0 := hrow2.frozenAt (k * 2); have f1 := hrow2.frozenAt (k * 2 + 1)))
      go_roundw
      case rel => exact ⟨k + 1, _, by omega, by go_num, hstep, ((hbel.trans (hb2.mono hsz)).setCell (Nat.le_refl _) _).setCell (Nat.le_refl _) _, row_two hrow2 (k * 2) _ _⟩
      case measure => simp [intOf]; omega
    · have hkl : k = l.length := by omega
      subst hkl
      go_wp2
      go_ret
      refine ⟨_, rfl, ?_, hbel⟩
      have := hfil.all hrow.1
      subst this
      exact hrow
end Go.Proofs.YtefhpbcdjgllnaaGreat

/- Part: The law's own helpers szVal, toVal, eqVal: contracts. -/
namespace Go.Proofs.YtefhpbcdjgllnaaGreat
open Go.RowKit
attribute [local go_sem ↓] Go.wp_at_zero Go.wp_at_succ

theorem szVal_fits (k : Int) (ao : Option Addr) (n cap : Nat) (left : Int) (hn : (n : Int) ≤ left) (h1 : left ≤ 1048576) (w : World) :
    Calls Tryz.prog 17 #[.agg #[.int .i64 k, .slice ao n cap], .int .i64 left] w fun e w' => e = .returned (.int .i64 (left - n)) ∧ Below w.heap.size w w' := by
  go_enter Tryz.func17, Tryz.ntmps17
  go_wp2_with (first | (go_at_call 40; refine (sz_fits ao n cap left hn h1 _).mono ?_; rintro e w1 ⟨rfl, rfl⟩))
  go_ret
  exact ⟨by simp, by go_grown⟩
theorem szVal_over (k : Int) (ao : Option Addr) (n cap : Nat) (left : Int) (hm : n ≤ maxLen) (hn : left < (n : Int)) (h0 : 0 ≤ left) (h1 : left ≤ 1048576) (w : World) :
    Calls Tryz.prog 17 #[.agg #[.int .i64 k, .slice ao n cap], .int .i64 left] w fun e w' => e = .returned (.int .i64 (-1)) ∧ Below w.heap.size w w' := by
  go_enter Tryz.func17, Tryz.ntmps17
  go_wp2_with (first | (go_at_call 40; refine (sz_over ao n cap left hm hn h0 h1 _).mono ?_; rintro e w1 ⟨rfl, rfl⟩))
  go_ret
  exact ⟨by simp, by go_grown⟩

theorem Own.apartSet {w : World} {B : Nat} {v : Value} {l : List (Int × Int)} {p : Addr} (h : Own w B v l) (hp : p.block < B) (u : Value) : Own (w.setCell p u) B v l := by
  refine ⟨h.1, ?_⟩
  rcases h.2 with hn | ⟨g, cap, cur, rfl, hbg, hgg, rest⟩
  · exact .inl hn
  · exact .inr ⟨g, cap, cur, rfl, hbg, (Below.heap_setCell w p u g (by omega)).trans hgg, rest⟩

set_option maxHeartbeats 1000000 in
theorem toVal_any (n : Int) (v : Value) (l : List (Int × Int)) (w : World) (h : Rd w v l) (hl : l.length ≤ 1048576) :
    Calls Tryz.prog 27 #[.agg #[.int .i64 n, v]] w fun e w' => ∃ v', e = .returned (.agg #[.int .i64 n, v']) ∧ Own w' w.heap.size v' l ∧ Below w.heap.size w w' := by
  go_enter Tryz.func27, Tryz.ntmps27
  go_wp2_with fail
  refine (toEdgeS_any _ l _ (h.later (by go_grown)) hl).mono ?_
  rintro e w2 ⟨v', rfl, ho, b2⟩
  have c0 : w2.cell? ⟨w.heap.size + 2, 0, none⟩ = some (.int .i64 n) := by rw [b2.cell (by simp)]; go_cell
  have c1 : w2.cell? ⟨w.heap.size + 2, 1, none⟩ = some (.slice none 0 0) := by rw [b2.cell (by simp)]; go_cell
  have d0 : w2.cell? ⟨w.heap.size + 1, 0, none⟩ = some (.int .i64 0) := by rw [b2.cell (by simp)]; go_cell
  have d1 : w2.cell? ⟨w.heap.size + 1, 1, none⟩ = some (.slice none 0 0) := by rw [b2.cell (by simp)]; go_cell
  have f0 : w2.frozen? ⟨w.heap.size + 2, 1, none⟩ = false := by rw [b2.frozen (by simp)]; (first | go_cell | (simp [World.frozen?, World.alloc]; done) | rfl)
  have f1 : w2.frozen? ⟨w.heap.size + 1, 0, none⟩ = false := by rw [b2.frozen (by simp)]; (first | go_cell | (simp [World.frozen?, World.alloc]; done) | rfl)
  have f2 : w2.frozen? ⟨w.heap.size + 1, 1, none⟩ = false := by rw [b2.frozen (by simp)]; (first | go_cell | (simp [World.frozen?, World.alloc]; done) | rfl)
  have bb : Below w.heap.size w w2 := (Below.trans (by go_grown) (b2.mono (by first | omega | (simp; done) | (simp; omega))))
  have ho' : Own w2 (w.heap.size + 3) v' l := by simpa using ho
  clear b2 ho
  obtain ⟨ao, cap, hv, _⟩ := ho'.rd
  subst hv
  go_wp2
  have e0 : (((w2.setCell ⟨w.heap.size + 1 + 1, 1, none⟩ (.slice ao l.length cap)).setCell ⟨w.heap.size + 1, 0, none⟩ (.int .i64 n)).setCell ⟨w.heap.size + 1, 1, none⟩ (.slice ao l.length cap)).cell? ⟨w.heap.size + 1, 0, none⟩ = some (.int .i64 n) := by go_cell
  have e1 : (((w2.setCell ⟨w.heap.size + 1 + 1, 1, none⟩ (.slice ao l.length cap)).setCell ⟨w.heap.size + 1, 0, none⟩ (.int .i64 n)).setCell ⟨w.heap.size + 1, 1, none⟩ (.slice ao l.length cap)).cell? ⟨w.heap.size + 1, 1, none⟩ = some (.slice ao l.length cap) := by go_cell
  refine bodyPost_ret (v := .agg #[.int .i64 n, .slice ao l.length cap]) (by simp [results, Tryz.results27, go_sem, e0, e1]) rfl ⟨_, rfl, ?_, ?_⟩
  · exact (((ho'.apartSet (by simp) _).apartSet (by simp) _).apartSet (by simp) _).mono (by omega)
  · go_grown

set_option maxHeartbeats 1000000 in
theorem eqVal_any (n m : Int) (va vb : Value) (la lb : List (Int × Int)) (w : World) (ha : Rd w va la) (hb : Rd w vb lb) :
    Calls Tryz.prog 37 #[.agg #[.int .i64 n, va], .agg #[.int .i64 m, vb]] w fun e w' => e = .returned (.bool (n == m && eqL la lb)) ∧ Below w.heap.size w w' := by
  by_cases hn : (n == m) = true
  · have := beq_iff_eq.1 hn
    subst this
    go_enter Tryz.func37, Tryz.ntmps37
    go_wp2_with fail
    refine (eqEdgeS_any _ _ la lb _ (ha.later (by go_grown)) (hb.later (by go_grown))).mono ?_
    rintro e w2 ⟨rfl, b2⟩
    have bb : Below w.heap.size w w2 := (Below.trans (by go_grown) (b2.mono (by first | omega | (simp; done) | (simp; omega))))
    go_wp2
    all_goals
      go_ret
      exact ⟨by simp_all, bb⟩
  · have hne : (n != m) = true := by simpa using hn
    go_enter Tryz.func37, Tryz.ntmps37
    go_wp2
    go_ret
    exact ⟨by simp [hn], by go_grown⟩
theorem eqVal_self (n : Int) (va vb : Value) (l : List (Int × Int)) (w : World) (ha : Rd w va l) (hb : Rd w vb l) :
    Calls Tryz.prog 37 #[.agg #[.int .i64 n, va], .agg #[.int .i64 n, vb]] w fun e w' => e = .returned (.bool true) ∧ Below w.heap.size w w' :=
  (eqVal_any n n va vb l l w ha hb).mono fun _ _ ⟨he, hw⟩ => ⟨by rw [he, eqL_refl]; simp, hw⟩
end Go.Proofs.YtefhpbcdjgllnaaGreat

/- Part: Lists of values (a number and kin each): what it means that a slice reads as one; eqValS, eqGraph: contracts. -/
namespace Go.Proofs.YtefhpbcdjgllnaaGreat
open Go.RowKit
attribute [local go_sem ↓] Go.wp_at_zero Go.wp_at_succ

/-- Two places of lists of values, and a callee that tells whether they are one: a loop over them. -/
theorem eqVal_two (x y : ValD) (u v : Value) (w : World) (hu : Rd w u x.2) (hv : Rd w v y.2) :
    Calls Tryz.prog 37 #[.agg #[.int .i64 x.1, u], .agg #[.int .i64 y.1, v]] w fun e w' => e = .returned (.bool (eqD x y)) ∧ Below w.heap.size w w' := eqVal_any _ _ _ _ _ _ _ hu hv

end Go.Proofs.YtefhpbcdjgllnaaGreat

/- Part: szValS, szGraph, toValS, toGraph, eqGraph: contracts. -/
namespace Go.Proofs.YtefhpbcdjgllnaaGreat
open Go.RowKit
attribute [local go_sem ↓] Go.wp_at_zero Go.wp_at_succ

/-- How much a list of values weighs. -/
def bulkG (L : List ValD) : Nat := (L.map fun x => x.2.length).sum
theorem bulk_step (L : List ValD) (k : Nat) (h : k < L.length) : bulkG (L.take (k + 1)) = bulkG (L.take k) + (L.getD k valD0).2.length := by
  rw [bulkG, bulkG, List.take_succ_eq_append_getElem h, List.map_append, List.sum_append, List.getD_eq_getElem?_getD, List.getElem?_eq_getElem h]
  simp only [List.map_cons, List.map_nil, List.sum_cons, List.sum_nil, Option.getD_some, Nat.add_zero]
theorem bulk_take (L : List ValD) (k : Nat) : bulkG (L.take k) ≤ bulkG L := by
  have h : bulkG L = bulkG (L.take k) + bulkG (L.drop k) := by
    rw [bulkG, bulkG, bulkG, ← List.sum_append, ← List.map_append, List.take_append_drop]
  omega
theorem bulk_get (L : List ValD) (k : Nat) (h : k < L.length) : (L.getD k valD0).2.length ≤ bulkG L := by
  have := bulk_step L k h
  have := bulk_take L (k + 1)
  omega
/-- What szValS answers. -/
def SzG (L : List ValD) (left : Int) (e : Ending) : Prop := (e = .returned (.int .i64 (left - L.length - bulkG L)) ∧ 0 ≤ left - L.length - bulkG L) ∨ (e = .returned (.int .i64 (-1)) ∧ left - L.length - bulkG L < 0)

theorem szVal_two (n : Int) (u : Value) (l : List (Int × Int)) (left : Int) (w : World) (h : Rd w u l) (h0 : 0 ≤ left) (h1 : left ≤ 1048576) :
    Calls Tryz.prog 17 #[.agg #[.int .i64 n, u], .int .i64 left] w fun e w' => (∃ r : Int, e = .returned (.int .i64 r) ∧ Hid ((r = left - l.length ∧ 0 ≤ r) ∨ (r = -1 ∧ left - l.length < 0))) ∧ Below w.heap.size w w' := by
  obtain ⟨ao, cap, rfl, hl, _⟩ := h
  by_cases hf : (l.length : Int) ≤ left
  · exact (szVal_fits n ao l.length cap left hf h1 w).mono fun e w' ⟨he, hb⟩ => ⟨⟨_, he, hid (Or.inl ⟨rfl, by omega⟩)⟩, hb⟩
  · exact (szVal_over n ao l.length cap left hl (by omega) h0 h1 w).mono fun e w' ⟨he, hb⟩ => ⟨⟨_, he, hid (Or.inr ⟨rfl, by omega⟩)⟩, hb⟩

theorem Tryz.info47 : (Tryz.prog.info? 47).map (fun i => (i.zero, i.size, i.bytes)) = some (some (.agg #[.int .i64 0, .slice none 0 0]), 2, 32) := by kernel_rfl
/-- The first k elements' cells are those of L; their kin lie apart, from block B on. -/
def FilledV (w : World) (B : Nat) (xs : List Value) (L : List ValD) (k : Nat) : Prop :=
  ∀ i, i < k → xs[i * 2]? = some (.int .i64 (L.getD i valD0).1) ∧ ∃ u, xs[i * 2 + 1]? = some u ∧ Own w B u (L.getD i valD0).2
theorem FilledV.zero (w : World) (B : Nat) (xs : List Value) (L : List ValD) : FilledV w B xs L 0 := fun _ h => absurd h (Nat.not_lt_zero _)
theorem FilledV.later {w w' : World} {B : Nat} {xs : List Value} {L : List ValD} {k : Nat} (h : FilledV w B xs L k) (hb : Below w.heap.size w w') : FilledV w' B xs L k := fun i hi => by
  obtain ⟨c0, u, c1, hu⟩ := h i hi
  exact ⟨c0, u, c1, hu.later hb⟩
theorem FilledV.set {w : World} {B : Nat} {xs : List Value} {L : List ValD} {k : Nat} (h : FilledV w B xs L k) {p : Addr} (hp : p.block < B) (z : Value) : FilledV (w.setCell p z) B xs L k := fun i hi => by
  obtain ⟨c0, u, c1, hu⟩ := h i hi
  exact ⟨c0, u, c1, hu.apartSet hp z⟩
theorem FilledV.step {w : World} {B : Nat} {xs : List Value} {L : List ValD} {k : Nat} (h : FilledV w B xs L k) (hx : k * 2 + 1 < xs.length) {u : Value} (hu : Own w B u (L.getD k valD0).2) :
    FilledV w B ((xs.set (k * 2) (.int .i64 (L.getD k valD0).1)).set (k * 2 + 1) u) L (k + 1) := by
  intro i hi
  by_cases e : i = k
  · subst e
    rw [List.getElem?_set_ne (by omega), List.getElem?_set_self (by omega), List.getElem?_set_self (by rw [List.length_set]; omega)]
    exact ⟨rfl, u, rfl, hu⟩
  · rw [List.getElem?_set_ne (by omega), List.getElem?_set_ne (by omega), List.getElem?_set_ne (by omega), List.getElem?_set_ne (by omega)]
    exact h i (by omega)
theorem row_same {w w' : World} {B : Nat} {e : TypeId} {size : Nat} {v : Value} {n : Nat} {xs : List Value} (h : w.ownsRow B e size v n xs) (hs : ∀ k, B ≤ k → k < w.heap.size → w'.heap[k]? = w.heap[k]?) : w'.ownsRow B e size v n xs := by
  refine ⟨h.1, ?_⟩
  rcases h.2 with hn | ⟨g, cap, cur, rfl, hbg, hgg, rest⟩
  · exact .inl hn
  · exact .inr ⟨g, cap, cur, rfl, hbg, (hs g hbg (Array.getElem?_eq_some_iff.1 hgg).1).trans hgg, rest⟩
/-- It reads as L in memory from block B on alone. -/
def FromG (B : Nat) (w : World) (v : Value) (L : List ValD) : Prop := ∀ w' : World, w.heap.size ≤ w'.heap.size → (∀ k, B ≤ k → k < w.heap.size → w'.heap[k]? = w.heap[k]?) → RdG w' v L
theorem FromG.rd {B : Nat} {w : World} {v : Value} {L : List ValD} (h : FromG B w v L) : RdG w v L := h w (Nat.le_refl _) (fun _ _ _ => rfl)
theorem FromG.later {B : Nat} {w w' : World} {v : Value} {L : List ValD} (h : FromG B w v L) (hb : Below w.heap.size w w') : FromG B w' v L := fun w'' hz hs =>
  h w'' (Nat.le_trans hb.size hz) (fun k hk hl => (hs k hk (Nat.lt_of_lt_of_le hl hb.size)).trans (hb.block k hl))
theorem FromG.set {B : Nat} {w : World} {v : Value} {L : List ValD} (h : FromG B w v L) {p : Addr} (hp : p.block < B) (u : Value) : FromG B (w.setCell p u) v L := fun w'' hz hs =>
  h w'' (by simpa using hz) (fun k hk hl => (hs k hk (by simpa using hl)).trans (Below.heap_setCell _ _ _ _ (by omega)))
theorem FromG.mono {B B' : Nat} {w : World} {v : Value} {L : List ValD} (h : FromG B w v L) (hB : B' ≤ B) : FromG B' w v L := fun w' hz hs => h w' hz (fun k hk => hs k (Nat.le_trans hB hk))
theorem FilledV.rdG {w : World} {B g : Nat} {xs : List Value} {L : List ValD} {n cap : Nat} (h : FilledV w B xs L n) (hn : n = L.length) (hrow : w.ownsRow g 47 2 (.slice (some ⟨g, 0, none⟩) n cap) n xs) (hm : n ≤ maxLen) :
    RdG w (.slice (some ⟨g, 0, none⟩) n cap) L := by
  subst hn
  refine ⟨_, _, rfl, hm, fun h0 => ⟨g, 0, rfl, (hrow.lt g rfl).2, fun i hi => ?_⟩⟩
  obtain ⟨c0, u, c1, hu⟩ := h i hi
  rw [Nat.zero_add]
  exact ⟨(hrow.cellAt _ (by omega)).trans c0, u, (hrow.cellAt _ (by omega)).trans c1, hu.rd⟩

theorem FilledV.fromG {w : World} {g : Nat} {xs : List Value} {L : List ValD} {n cap : Nat} (h : FilledV w (g + 1) xs L n) (hn : n = L.length) (hrow : w.ownsRow g 47 2 (.slice (some ⟨g, 0, none⟩) n cap) n xs) (hm : n ≤ maxLen) :
    FromG g w (.slice (some ⟨g, 0, none⟩) n cap) L := fun _ _ hs =>
  FilledV.rdG (B := g + 1) (fun i hi => by
    obtain ⟨c0, u, c1, hu⟩ := h i hi
    exact ⟨c0, u, c1, row_same hu (fun k hk hl => hs k (by omega) hl)⟩) hn (row_same hrow hs) hm

end Go.Proofs.YtefhpbcdjgllnaaGreat

/- Part: The law's own helpers of Int and of lists of such: contracts. Written by a program (gk.py). -/
namespace Go.Proofs.YtefhpbcdjgllnaaGreat
open Go.RowKit
attribute [local go_sem ↓] Go.wp_at_zero Go.wp_at_succ

end Go.Proofs.YtefhpbcdjgllnaaGreat

/- Part: How much a list of elements weighs. -/
namespace Go.Proofs.YtefhpbcdjgllnaaGreat
open Go.RowKit
def bulkM (L : List KD) : Nat := (L.map fun x => x.2.length).sum
theorem bulkM_step (L : List KD) (k : Nat) (h : k < L.length) : bulkM (L.take (k + 1)) = bulkM (L.take k) + (L.getD k kd0).2.length := by
  rw [bulkM, bulkM, List.take_succ_eq_append_getElem h, List.map_append, List.sum_append, List.getD_eq_getElem?_getD, List.getElem?_eq_getElem h]
  simp only [List.map_cons, List.map_nil, List.sum_cons, List.sum_nil, Option.getD_some, Nat.add_zero]
theorem bulkM_take (L : List KD) (k : Nat) : bulkM (L.take k) ≤ bulkM L := by
  have h : bulkM L = bulkM (L.take k) + bulkM (L.drop k) := by
    rw [bulkM, bulkM, bulkM, ← List.sum_append, ← List.map_append, List.take_append_drop]
  omega
theorem bulkM_get (L : List KD) (k : Nat) (h : k < L.length) : (L.getD k kd0).2.length ≤ bulkM L := by
  have := bulkM_step L k h
  have := bulkM_take L (k + 1)
  omega
theorem sum_zero (l : List Nat) (h : ∀ x ∈ l, x = 0) : l.sum = 0 := by
  induction l with
  | nil => rfl
  | cons x r ih => rw [List.sum_cons, h x (by simp), ih (fun y hy => h y (by simp [hy]))]
theorem bulkM_none {sz m : Nat} {w : World} {v : Value} {L : List KD} (h : RdM sz m false w v L) : bulkM L = 0 := by
  obtain ⟨ao, cap, _, _, hc⟩ := h
  have : ∀ x ∈ L.map (fun x : KD => x.2.length), x = 0 := by
    intro x hx
    obtain ⟨y, hy, rfl⟩ := List.mem_map.1 hx
    obtain ⟨i, hi, rfl⟩ := List.mem_iff_getElem.1 hy
    obtain ⟨b, off, _, _, hcc⟩ := hc (by omega)
    have := (hcc i hi).non rfl
    simp [List.getD_eq_getElem?_getD, hi] at this
    simp [this]
  exact sum_zero _ this
/-- What sz of a struct answers. -/
def SzD (Ls : List (List KD)) (left : Int) (e : Ending) : Prop := (∃ r : Int, e = .returned (.int .i64 r) ∧ 0 ≤ r ∧ r ≤ left ∧ ∀ L ∈ Ls, L.length + bulkM L ≤ 1048576) ∨ e = .returned (.int .i64 (-1))
/-- What szTS answers. -/
def SzM (L : List KD) (left : Int) (e : Ending) : Prop := (e = .returned (.int .i64 (left - L.length - bulkM L)) ∧ 0 ≤ left - L.length - bulkM L) ∨ (e = .returned (.int .i64 (-1)) ∧ left - L.length - bulkM L < 0)
end Go.Proofs.YtefhpbcdjgllnaaGreat

/- Part: The law's own sz helpers of Int and of lists of such: contracts. Written by a program (gk.py). -/
namespace Go.Proofs.YtefhpbcdjgllnaaGreat
open Go.RowKit
attribute [local go_sem ↓] Go.wp_at_zero Go.wp_at_succ

end Go.Proofs.YtefhpbcdjgllnaaGreat

/- Part: The law's own to helpers of Int and of lists of such: contracts. Written by a program (gk.py). -/
namespace Go.Proofs.YtefhpbcdjgllnaaGreat
open Go.RowKit
attribute [local go_sem ↓] Go.wp_at_zero Go.wp_at_succ

theorem Tryz.infoInt_K : (Tryz.prog.info? 3).map (fun i => (i.zero, i.size, i.bytes)) = some (some (.int .i64 0), 1, 8) := by kernel_rfl
end Go.Proofs.YtefhpbcdjgllnaaGreat

/- Part: The law's own mark and held helpers of lists of Int: contracts. Written by a program (gk.py). -/
namespace Go.Proofs.YtefhpbcdjgllnaaGreat
open Go.RowKit
attribute [local go_sem ↓] Go.wp_at_zero Go.wp_at_succ

end Go.Proofs.YtefhpbcdjgllnaaGreat

/- Part: The law's own helpers of Item and of lists of such: contracts. Written by a program (gk.py). -/
namespace Go.Proofs.YtefhpbcdjgllnaaGreat
open Go.RowKit
attribute [local go_sem ↓] Go.wp_at_zero Go.wp_at_succ

set_option maxHeartbeats 2000000 in
theorem eqItem_any (p0 p1 p2 t0 t1 t2 : Int) (la lb : List (Int × Int)) (va vb : Value) (w : World) (ha : Rd w va la) (hb : Rd w vb lb) :
    Calls Tryz.prog 11 #[.agg #[.int .i64 p0, .int .i64 p1, .int .i64 p2, va], .agg #[.int .i64 t0, .int .i64 t1, .int .i64 t2, vb]] w fun e w' => e = .returned (.bool (eqK ([p0, p1, p2], la) ([t0, t1, t2], lb))) ∧ Below w.heap.size w w' := by
  have HA := hid ha
  have HB := hid hb
  clear ha hb
  go_enter Tryz.func11, Tryz.ntmps11
  go_wp2_with (first | (go_at_call 37; refine (eqVal_any p2 t2 va vb la lb _ (HA.out.later (by go_grown)) (HB.out.later (by go_grown))).mono ?_; rintro e w2 ⟨rfl, b2⟩; have bb : Below w.heap.size w w2 := (Below.trans (by go_grown) (b2.mono (by first | omega | (simp; done) | (simp; omega))))))
  all_goals
    go_ret
    exact ⟨by first | (simp_all [eqK, eqL]; done) | (simp_all [eqK, eqL]; omega) | (simp_all [eqK, eqL]; intro h; rename_i h0; exact h0.resolve_left (fun g => g h)), by first | exact bb | go_grown⟩

end Go.Proofs.YtefhpbcdjgllnaaGreat

/- Part: The law's own sz helpers of Item and of lists of such: contracts. Written by a program (gk.py). -/
namespace Go.Proofs.YtefhpbcdjgllnaaGreat
open Go.RowKit
attribute [local go_sem ↓] Go.wp_at_zero Go.wp_at_succ

theorem szItem_two (p0 p1 p2 : Int) (u : Value) (l : List (Int × Int)) (left : Int) (w : World) (h : Rd w u l) (h0 : 0 ≤ left) (h1 : left ≤ 1048576) :
    Calls Tryz.prog 5 #[.agg #[.int .i64 p0, .int .i64 p1, .int .i64 p2, u], .int .i64 left] w fun e w' => (∃ r : Int, e = .returned (.int .i64 r) ∧ Hid ((r = left - l.length ∧ 0 ≤ r) ∨ (r = -1 ∧ left - l.length < 0))) ∧ Below w.heap.size w w' := by
  obtain ⟨ao, cap, rfl, hl, _⟩ := h
  by_cases hf : (l.length : Int) ≤ left
  · have HS : Hid (0 ≤ left - (l.length : Int)) := hid (by omega)
    have hr0 : ¬ (left - (l.length : Int) < 0) := by omega
    go_enter Tryz.func5, Tryz.ntmps5
    go_wp2_with (first | (go_at_call 17; refine (szVal_fits p2 ao l.length cap left hf h1 _).mono ?_; rintro e w1 ⟨rfl, b1⟩; have bb : Below w.heap.size w w1 := (Below.trans (by go_grown) (b1.mono (by first | omega | (simp; done) | (simp; omega))))))
    go_ret
    exact ⟨⟨_, by simp, hid (Or.inl ⟨rfl, HS.out⟩)⟩, bb⟩
  · have HS : Hid (left - (l.length : Int) < 0) := hid (by omega)
    go_enter Tryz.func5, Tryz.ntmps5
    go_wp2_with (first | (go_at_call 17; refine (szVal_over p2 ao l.length cap left hl (by omega) h0 h1 _).mono ?_; rintro e w1 ⟨rfl, b1⟩; have bb : Below w.heap.size w w1 := (Below.trans (by go_grown) (b1.mono (by first | omega | (simp; done) | (simp; omega))))))
    go_ret
    exact ⟨⟨_, by simp, hid (Or.inr ⟨rfl, HS.out⟩)⟩, bb⟩

end Go.Proofs.YtefhpbcdjgllnaaGreat

/- Part: The law's own to helpers of Item and of lists of such: contracts. Written by a program (gk.py). -/
namespace Go.Proofs.YtefhpbcdjgllnaaGreat
open Go.RowKit
attribute [local go_sem ↓] Go.wp_at_zero Go.wp_at_succ

set_option maxRecDepth 100000 in
set_option maxHeartbeats 2000000 in
theorem toItem_any (p0 p1 p2 : Int) (v : Value) (l : List (Int × Int)) (w : World) (h : Rd w v l) (hl : l.length ≤ 1048576) :
    Calls Tryz.prog 8 #[.agg #[.int .i64 p0, .int .i64 p1, .int .i64 p2, v]] w fun e w' => ∃ v', e = .returned (.agg #[.int .i64 p0, .int .i64 p1, .int .i64 p2, v']) ∧ Own w' w.heap.size v' l ∧ Below w.heap.size w w' := by
  have HR := hid h
  obtain ⟨ao0, cap0, hv0, _⟩ := h
  subst hv0
  go_enter Tryz.func8, Tryz.ntmps8
  go_wp2_with fail
  refine (toVal_any p2 _ l _ (HR.out.later (by go_grown)) hl).mono ?_
  rintro e w2 ⟨v', rfl, ho, b2⟩
  have o0 : w2.cell? ⟨w.heap.size + 1 + 1, 0, none⟩ = some (.int .i64 p0) := by rw [b2.cell (by simp)]; go_cell
  have fo0 : w2.frozen? ⟨w.heap.size + 1 + 1, 0, none⟩ = false := by rw [b2.frozen (by simp)]; (first | go_cell | (simp [World.frozen?, World.alloc]; done) | rfl)
  have o1 : w2.cell? ⟨w.heap.size + 1 + 1, 1, none⟩ = some (.int .i64 p1) := by rw [b2.cell (by simp)]; go_cell
  have fo1 : w2.frozen? ⟨w.heap.size + 1 + 1, 1, none⟩ = false := by rw [b2.frozen (by simp)]; (first | go_cell | (simp [World.frozen?, World.alloc]; done) | rfl)
  have o2 : w2.cell? ⟨w.heap.size + 1 + 1, 2, none⟩ = some (.int .i64 0) := by rw [b2.cell (by simp)]; go_cell
  have fo2 : w2.frozen? ⟨w.heap.size + 1 + 1, 2, none⟩ = false := by rw [b2.frozen (by simp)]; (first | go_cell | (simp [World.frozen?, World.alloc]; done) | rfl)
  have o3 : w2.cell? ⟨w.heap.size + 1 + 1, 3, none⟩ = some (.slice none 0 0) := by rw [b2.cell (by simp)]; go_cell
  have fo3 : w2.frozen? ⟨w.heap.size + 1 + 1, 3, none⟩ = false := by rw [b2.frozen (by simp)]; (first | go_cell | (simp [World.frozen?, World.alloc]; done) | rfl)
  have r0 : w2.cell? ⟨w.heap.size + 1, 0, none⟩ = some (.int .i64 0) := by rw [b2.cell (by simp)]; go_cell
  have fr0 : w2.frozen? ⟨w.heap.size + 1, 0, none⟩ = false := by rw [b2.frozen (by simp)]; (first | go_cell | (simp [World.frozen?, World.alloc]; done) | rfl)
  have r1 : w2.cell? ⟨w.heap.size + 1, 1, none⟩ = some (.int .i64 0) := by rw [b2.cell (by simp)]; go_cell
  have fr1 : w2.frozen? ⟨w.heap.size + 1, 1, none⟩ = false := by rw [b2.frozen (by simp)]; (first | go_cell | (simp [World.frozen?, World.alloc]; done) | rfl)
  have r2 : w2.cell? ⟨w.heap.size + 1, 2, none⟩ = some (.int .i64 0) := by rw [b2.cell (by simp)]; go_cell
  have fr2 : w2.frozen? ⟨w.heap.size + 1, 2, none⟩ = false := by rw [b2.frozen (by simp)]; (first | go_cell | (simp [World.frozen?, World.alloc]; done) | rfl)
  have r3 : w2.cell? ⟨w.heap.size + 1, 3, none⟩ = some (.slice none 0 0) := by rw [b2.cell (by simp)]; go_cell
  have fr3 : w2.frozen? ⟨w.heap.size + 1, 3, none⟩ = false := by rw [b2.frozen (by simp)]; (first | go_cell | (simp [World.frozen?, World.alloc]; done) | rfl)
  have bb : Below w.heap.size w w2 := (Below.trans (by go_grown) (b2.mono (by first | omega | (simp; done) | (simp; omega))))
  have ho' : Own w2 (w.heap.size + 3) v' l := by simpa using ho
  have hz2 : w.heap.size + 3 ≤ w2.heap.size := by have := b2.size; simp at this; omega
  clear b2 ho
  obtain ⟨ao, cap, hv, _⟩ := ho'.rd
  subst hv
  have HO := hid ho'
  clear ho'
  go_wp2
  have e0 : ((((((w2.setCell ⟨w.heap.size + 1 + 1, 2, none⟩ (.int .i64 p2)).setCell ⟨w.heap.size + 1 + 1, 3, none⟩ (.slice ao l.length cap)).setCell ⟨w.heap.size + 1, 0, none⟩ (.int .i64 p0)).setCell ⟨w.heap.size + 1, 1, none⟩ (.int .i64 p1)).setCell ⟨w.heap.size + 1, 2, none⟩ (.int .i64 p2)).setCell ⟨w.heap.size + 1, 3, none⟩ (.slice ao l.length cap)).cell? ⟨w.heap.size + 1, 0, none⟩ = some (.int .i64 p0) := by go_cell
  have e1 : ((((((w2.setCell ⟨w.heap.size + 1 + 1, 2, none⟩ (.int .i64 p2)).setCell ⟨w.heap.size + 1 + 1, 3, none⟩ (.slice ao l.length cap)).setCell ⟨w.heap.size + 1, 0, none⟩ (.int .i64 p0)).setCell ⟨w.heap.size + 1, 1, none⟩ (.int .i64 p1)).setCell ⟨w.heap.size + 1, 2, none⟩ (.int .i64 p2)).setCell ⟨w.heap.size + 1, 3, none⟩ (.slice ao l.length cap)).cell? ⟨w.heap.size + 1, 1, none⟩ = some (.int .i64 p1) := by go_cell
  have e2 : ((((((w2.setCell ⟨w.heap.size + 1 + 1, 2, none⟩ (.int .i64 p2)).setCell ⟨w.heap.size + 1 + 1, 3, none⟩ (.slice ao l.length cap)).setCell ⟨w.heap.size + 1, 0, none⟩ (.int .i64 p0)).setCell ⟨w.heap.size + 1, 1, none⟩ (.int .i64 p1)).setCell ⟨w.heap.size + 1, 2, none⟩ (.int .i64 p2)).setCell ⟨w.heap.size + 1, 3, none⟩ (.slice ao l.length cap)).cell? ⟨w.heap.size + 1, 2, none⟩ = some (.int .i64 p2) := by go_cell
  have e3 : ((((((w2.setCell ⟨w.heap.size + 1 + 1, 2, none⟩ (.int .i64 p2)).setCell ⟨w.heap.size + 1 + 1, 3, none⟩ (.slice ao l.length cap)).setCell ⟨w.heap.size + 1, 0, none⟩ (.int .i64 p0)).setCell ⟨w.heap.size + 1, 1, none⟩ (.int .i64 p1)).setCell ⟨w.heap.size + 1, 2, none⟩ (.int .i64 p2)).setCell ⟨w.heap.size + 1, 3, none⟩ (.slice ao l.length cap)).cell? ⟨w.heap.size + 1, 3, none⟩ = some (.slice ao l.length cap) := by go_cell
  refine bodyPost_ret (v := .agg #[.int .i64 p0, .int .i64 p1, .int .i64 p2, .slice ao l.length cap]) (by simp [results, Tryz.results8, go_sem, e0, e1, e2, e3]) rfl ⟨_, rfl, ?_, ?_⟩
  · exact ((((((HO.out.apartSet (by simp) _).apartSet (by simp) _).apartSet (by simp) _).apartSet (by simp) _).apartSet (by simp) _).apartSet (by simp) _).mono (by omega)
  · go_grown

theorem Tryz.infoItem_K : (Tryz.prog.info? 49).map (fun i => (i.zero, i.size, i.bytes)) = some (some (.agg #[.int .i64 0, .int .i64 0, .int .i64 0, .slice none 0 0]), 4, 48) := by kernel_rfl
end Go.Proofs.YtefhpbcdjgllnaaGreat

/- Part: The law's own mark and held helpers of lists of Item: contracts. Written by a program (gk.py). -/
namespace Go.Proofs.YtefhpbcdjgllnaaGreat
open Go.RowKit
attribute [local go_sem ↓] Go.wp_at_zero Go.wp_at_succ

end Go.Proofs.YtefhpbcdjgllnaaGreat

/- Part: The law's own helpers markVal, heldVal: contracts. -/
namespace Go.Proofs.YtefhpbcdjgllnaaGreat
open Go.RowKit
attribute [local go_sem ↓] Go.wp_at_zero Go.wp_at_succ

theorem grown_two {w w' w'' : World} {row : Option Nat} (h : w.grownBy w' row) (k : w'.grownBy w'' row) : w.grownBy w'' row :=
  ⟨k.os.trans h.os, k.tape.trans h.tape, k.output.trans h.output, Nat.le_trans h.size k.size, fun i hi hne => (k.block i (Nat.lt_of_lt_of_le hi h.size) hne).trans (h.block i hi hne)⟩

end Go.Proofs.YtefhpbcdjgllnaaGreat

/- Part: The law's own helpers of Cache: contracts. Written by a program (gs.py). -/
namespace Go.Proofs.YtefhpbcdjgllnaaGreat
open Go.RowKit
attribute [local go_sem ↓] Go.wp_at_zero Go.wp_at_succ

def ToCache (w w' : World) (L0 L1 : List KD) (e : Ending) : Prop :=
  ∃ (v0 v1 : Value) (B1 : Nat), e = .returned (.agg #[v0, v1]) ∧ OwnM 49 4 3 true w' (Span w.heap.size B1) v0 L0 ∧ OwnM 3 1 1 false w' (Span B1 w'.heap.size) v1 L1 ∧ w.heap.size ≤ B1 ∧ B1 ≤ w'.heap.size
/-- The lists of a Cache read so. -/
structure RSCache (w : World) (v0 v1 : Value) (L0 L1 : List KD) : Prop where
  h0 : RdM 4 3 true w v0 L0
  h1 : RdM 1 1 false w v1 L1
theorem RSCache.later {w w' : World} {v0 v1 : Value} {L0 L1 : List KD} (h : RSCache w v0 v1 L0 L1) (hb : Below w.heap.size w w') : RSCache w' v0 v1 L0 L1 := ⟨h.h0.later hb, h.h1.later hb⟩
theorem RSCache.open {w : World} {v0 v1 : Value} {L0 L1 : List KD} (h : RSCache w v0 v1 L0 L1) : ∃ (o0 o1 : Option Addr) (c0 c1 : Nat), v0 = .slice o0 L0.length c0 ∧ v1 = .slice o1 L1.length c1 := by
  obtain ⟨o0, c0, e0, _⟩ := h.h0
  obtain ⟨o1, c1, e1, _⟩ := h.h1
  exact ⟨o0, o1, c0, c1, e0, e1⟩
end Go.Proofs.YtefhpbcdjgllnaaGreat
