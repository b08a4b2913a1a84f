/- Rows of commits under append; rows by key; a map of rows. Written by a program (gsr.py) and by hand. -/
import Derived.Test.YtefhpbcdjgllnaaGreatS4p
import Derived.Test.YtefhpbcdjgllnaaGreatMz
import Derived.Test.YtefhpbcdjgllnaaGreatGrA
import Derived.Test.YtefhpbcdjgllnaaGreatSa
namespace Go.Proofs.YtefhpbcdjgllnaaGreat
open Go.RowKit

theorem getD_lastC (L : List KD) (x : KD) : (L ++ [x]).getD L.length kd0 = x := by simp
theorem getD_initC {L : List KD} {i : Nat} (x : KD) (h : i < L.length) : (L ++ [x]).getD i kd0 = L.getD i kd0 := by
  simp [List.getElem?_append_left h]
/-- The cells of a row are those of the items of L; the kin are the values us. -/
structure RowC (w : World) (B : Nat) (v : Value) (L : List KD) (xs : List Value) (us : Nat → Value) : Prop where
  row : w.ownsRow B 64 4 v L.length xs
  len : ∀ i, i < L.length → (L.getD i kd0).1.length = 3
  num : ∀ i, i < L.length → ∀ j, j < 3 → xs[i * 4 + j]? = some (.int .i64 ((L.getD i kd0).1.getD j 0))
  kin : ∀ i, i < L.length → xs[i * 4 + 3]? = some (us i)
theorem RowC.nil (w : World) (B : Nat) (us : Nat → Value) : RowC w B (.slice none 0 0) [] [] us :=
  ⟨World.ownsRow_nil _ _ _ _, fun _ h => absurd h (Nat.not_lt_zero _), fun _ h => absurd h (Nat.not_lt_zero _), fun _ h => absurd h (Nat.not_lt_zero _)⟩
theorem RowC.later {w w' : World} {B : Nat} {v : Value} {L : List KD} {xs : List Value} {us : Nat → Value} (h : RowC w B v L xs us) (hb : Below w.heap.size w w') : RowC w' B v L xs us :=
  ⟨row_later h.row hb, h.len, h.num, h.kin⟩
theorem RowC.add {w w' : World} {B : Nat} {v v' : Value} {L : List KD} {xs : List Value} {us : Nat → Value} {a b c : Int} {u : Value} {l : List (Int × Int)} (h : RowC w B v L xs us)
    (ho : w'.ownsRow B 64 4 v' (L.length + 1) (xs ++ [.int .i64 a, .int .i64 b, .int .i64 c, u])) : RowC w' B v' (L ++ [([a, b, c], l)]) (xs ++ [.int .i64 a, .int .i64 b, .int .i64 c, u]) (fun i => if i = L.length then u else us i) := by
  have hx : xs.length = L.length * 4 := h.row.1
  have key : ∀ i, i < (L ++ [([a, b, c], l)]).length → i = L.length ∨ i < L.length := fun i hi => by simp at hi; omega
  refine ⟨by rw [List.length_append]; exact ho, fun i hi => ?_, fun i hi j hj => ?_, fun i hi => ?_⟩
  · rcases key i hi with rfl | hl
    · rw [getD_lastC]; rfl
    · rw [getD_initC _ hl]; exact h.len i hl
  · rcases key i hi with rfl | hl
    · rw [getD_lastC, List.getElem?_append_right (by omega), show L.length * 4 + j - xs.length = j from by omega]
      match j, hj with
      | 0, _ => rfl
      | 1, _ => rfl
      | 2, _ => rfl
    · rw [getD_initC _ hl, List.getElem?_append_left (by omega)]
      exact h.num i hl j hj
  · rcases key i hi with rfl | hl
    · rw [List.getElem?_append_right (by omega), show L.length * 4 + 3 - xs.length = 3 from by omega]
      simp
    · rw [List.getElem?_append_left (by omega), h.kin i hl]
      simp [show ¬ i = L.length from by omega]
theorem kin_off_rowC {w : World} {B B' n : Nat} {v u : Value} {xs : List Value} {l : List (Int × Int)} (h : w.ownsRow B 64 4 v n xs) (hu : Own w B' u l) : ∀ g, v.ownBlock = some g → u.ownBlock ≠ some g := by
  intro g hv hg
  rcases h.2 with ⟨rfl, _⟩ | ⟨g1, cap1, cur1, rfl, _, h1, _⟩
  · cases hv
  · rcases hu.2 with ⟨rfl, _⟩ | ⟨g2, cap2, cur2, rfl, _, h2, _⟩
    · cases hg
    · cases hv
      cases hg
      rw [h1] at h2
      have := (Option.some.inj h2)
      simp at this
/-- The kin lie in memory of their own each. -/
structure KinC (w : World) (B : Nat) (L : List KD) (us : Nat → Value) : Prop where
  own : ∀ i, i < L.length → Own w B (us i) (L.getD i kd0).2
  dis : ∀ i j, i < L.length → j < L.length → i ≠ j → ∀ b, (us i).ownBlock = some b → (us j).ownBlock ≠ some b
theorem KinC.nil (w : World) (B : Nat) (us : Nat → Value) : KinC w B [] us := ⟨fun _ h => absurd h (Nat.not_lt_zero _), fun _ _ h => absurd h (Nat.not_lt_zero _)⟩
theorem KinC.later {w w' : World} {B : Nat} {L : List KD} {us : Nat → Value} (h : KinC w B L us) (hb : Below w.heap.size w w') : KinC w' B L us := ⟨fun i hi => row_later (h.own i hi) hb, h.dis⟩
theorem KinC.add {wr w5 w6 : World} {B : Nat} {v : Value} {L : List KD} {xs : List Value} {us : Nat → Value} {a b c : Int} {u : Value} {l : List (Int × Int)} (h : KinC wr B L us) (hr : RowC w5 B v L xs us) (hd : Below wr.heap.size wr w5) (hu : Own w5 wr.heap.size u l) (hB : B ≤ wr.heap.size)
    (hg : w5.grownBy w6 v.ownBlock) : KinC w6 B (L ++ [([a, b, c], l)]) (fun i => if i = L.length then u else us i) := by
  have key : ∀ i, i < (L ++ [(([a, b, c], l) : KD)]).length → i = L.length ∨ i < L.length := fun i hi => by simp at hi; omega
  have grow : ∀ {B' : Nat} {z : Value} {m : List (Int × Int)}, Own w5 B' z m → Own w6 B' z m := fun {B' z m} hz => hz.agree fun k hk => hg.block k (hz.block k hk).2 (fun e => kin_off_rowC hr.row hz k e.symm hk)
  have h5 := h.later hd
  refine ⟨fun i hi => ?_, fun i j hi hj hij q hq => ?_⟩
  · rcases key i hi with rfl | hl
    · rw [getD_lastC]
      simp only [if_true]
      exact (grow hu).mono hB
    · rw [getD_initC _ hl]
      simp only [show ¬ i = L.length from by omega, if_false]
      exact grow (h5.own i hl)
  · rcases key i hi with rfl | hl
    · have hj' : j < L.length := by rcases key j hj with rfl | h; exact absurd rfl hij; exact h
      simp only [if_true] at hq
      simp only [show ¬ j = L.length from by omega, if_false]
      intro hc
      have h1 := (hu.block q hq).1
      have h2 := ((h.own j hj').block q hc).2
      omega
    · simp only [show ¬ i = L.length from by omega, if_false] at hq
      rcases key j hj with rfl | hj'
      · simp only [if_true]
        intro hc
        have h1 := (hu.block q hc).1
        have h2 := ((h.own i hl).block q hq).2
        omega
      · simp only [show ¬ j = L.length from by omega, if_false]
        exact h.dis i j hl hj' hij q hq
theorem RowC.rdM {w : World} {B : Nat} {v : Value} {L : List KD} {xs : List Value} {us : Nat → Value} (h : RowC w B v L xs us) (hk : ∀ i, i < L.length → Rd w (us i) (L.getD i kd0).2) : RdM 4 3 true w v L := by
  have h0 := h.row
  rcases h.row.2 with ⟨rfl, hn⟩ | ⟨b, cap, cur, rfl, hb, hg2, hnc, hcm, hcs, htake⟩
  · have : L = [] := List.eq_nil_of_length_eq_zero hn
    subst this
    exact RdM.nil _ none 0
  · refine ⟨_, cap, rfl, Nat.le_trans hnc hcm, fun _ => ⟨b, 0, rfl, (Array.getElem?_eq_some_iff.1 hg2).1, fun i hi => ⟨h.len i hi, fun j hj => ?_, fun _ => ⟨us i, ?_, hk i hi⟩, fun q => (by cases q)⟩⟩⟩
    · rw [Nat.zero_add, World.ownsRow.cellAt h0 _ (by omega)]
      exact h.num i hi j hj
    · rw [Nat.zero_add, World.ownsRow.cellAt h0 _ (by omega)]
      exact h.kin i hi

/-! ### Rows by key in one block -/
structure RowsC (w : World) (G : Nat) (N : Nat → KD) (us : Nat → Value) : Prop where
  ver : ∀ k, k < 24 → w.cell? ⟨G, k * 3, none⟩ = some (.int .i64 ((N k).1.getD 0 0))
  num : ∀ k, k < 24 → w.cell? ⟨G, k * 3 + 1, none⟩ = some (.int .i64 ((N k).1.getD 1 0))
  kin : ∀ k, k < 24 → w.cell? ⟨G, k * 3 + 2, none⟩ = some (us k)
  frz : ∀ o, w.frozen? ⟨G, o, none⟩ = false
  lt : G < w.heap.size
theorem RowsC.agree {w w' : World} {G : Nat} {N : Nat → KD} {us : Nat → Value} (h : RowsC w G N us) (hb : w'.heap[G]? = w.heap[G]?) (hl : w.heap.size ≤ w'.heap.size) : RowsC w' G N us :=
  ⟨fun k hk => (World.cell?_of_block (a := ⟨G, k * 3, none⟩) hb).trans (h.ver k hk), fun k hk => (World.cell?_of_block (a := ⟨G, k * 3 + 1, none⟩) hb).trans (h.num k hk), fun k hk => (World.cell?_of_block (a := ⟨G, k * 3 + 2, none⟩) hb).trans (h.kin k hk),
    fun o => (World.frozen?_of_block (a := ⟨G, o, none⟩) hb).trans (h.frz o), Nat.lt_of_lt_of_le h.lt hl⟩
theorem RowsC.later {w w' : World} {G : Nat} {N : Nat → KD} {us : Nat → Value} (h : RowsC w G N us) (hb : Below w.heap.size w w') : RowsC w' G N us := h.agree (hb.block G h.lt) hb.size
theorem RowsC.made {w1 W : World} {B g : Nat} (hown : w1.ownsRow B 86 3 (.slice (some ⟨g, 0, none⟩) 24 24) 24 (madeCells (Value.agg #[.int .i64 0, .int .i64 0, .slice none 0 0]).cells (24 * 3)).toList)
    (hs : W.heap[g]? = w1.heap[g]?) (hz : w1.heap.size ≤ W.heap.size) : RowsC W g (fun _ => ([0, 0], [])) (fun _ => .slice none 0 0) := by
  have h := ZR.of_made hown hs hz
  exact ⟨h.ver, h.num, h.kin, h.frz, h.lt⟩
theorem RowsC.put {w : World} {G : Nat} {N : Nat → KD} {us : Nat → Value} (h : RowsC w G N us) (j : Nat) (a b : Int) (u : Value) (l : List (Int × Int)) :
    RowsC (((w.setCell ⟨G, j * 3, none⟩ (.int .i64 a)).setCell ⟨G, j * 3 + 1, none⟩ (.int .i64 b)).setCell ⟨G, j * 3 + 2, none⟩ u) G (fun k => if k = j then ([a, b], l) else N k) (fun k => if k = j then u else us k) := by
  refine ⟨fun k hk => ?_, fun k hk => ?_, fun k hk => ?_, fun o => by simpa using h.frz o, by simpa using h.lt⟩
  · have h0 := h.ver k hk
    by_cases e : k = j
    · subst e
      simp only [if_true]
      go_cell
    · simp only [if_neg e]
      go_cell
  · have h0 := h.num k hk
    by_cases e : k = j
    · subst e
      simp only [if_true]
      go_cell
    · simp only [if_neg e]
      go_cell
  · have h0 := h.kin k hk
    by_cases e : k = j
    · subst e
      simp only [if_true]
      go_cell
    · simp only [if_neg e]
      go_cell
theorem RowsC.rd {w : World} {G : Nat} {N : Nat → KD} {us : Nat → Value} (h : RowsC w G N us) (h2 : ∀ k, k < 24 → (N k).1.length = 2) (hr : ∀ k, k < 24 → Rd w (us k) (N k).2) :
    RdM 3 2 true w (.slice (some ⟨G, 0, none⟩) 24 24) ((List.range 24).map N) := by
  refine ⟨some ⟨G, 0, none⟩, 24, by simp, by simp [maxLen], fun _ => ⟨G, 0, rfl, h.lt, fun i hi => ?_⟩⟩
  have hi' : i < 24 := by simpa using hi
  have hx : ((List.range 24).map N).getD i kd0 = N i := by simp [List.getD_eq_getElem?_getD, hi']
  rw [hx, Nat.zero_add]
  refine ⟨h2 i hi', fun j hj => ?_, fun _ => ⟨us i, h.kin i hi', hr i hi'⟩, fun q => by cases q⟩
  match j, hj with
  | 0, _ => exact h.ver i hi'
  | 1, _ => exact h.num i hi'

/-! ### Keys that are numbers -/
def IsNum (v : Value) : Prop := ∃ k : Int, v = .int .i64 k
theorem isNum (k : Int) : IsNum (.int .i64 k) := ⟨k, rfl⟩
theorem num_run : KeyRun Tryz.prog 3 IsNum := by
  have hu : Tryz.prog.underlying 3 = some (.int .i64) := by kernel_rfl
  refine ⟨?_, ?_, ?_⟩
  · rintro w em _ ⟨k, rfl⟩
    cases em <;> kernel_rfl
  · rintro w _ ⟨k, rfl⟩ es hes
    have hks : ∀ y ∈ es, MapKept.IsKey (.int .i64) y.key := fun y hy => by
      obtain ⟨q, hq⟩ := hes y hy
      rw [hq]
      simp [MapKept.IsKey]
    rcases MapKept.findNow_spec (d := .int .i64) (k := .int .i64 k) (by simp [MapKept.IsKey]) es 0 hks with ⟨h1, h2⟩ | ⟨j, e0, h1, h2, h3⟩
    · exact Or.inl ⟨MapKept.run_findKey hu h1, h2⟩
    · exact Or.inr ⟨j, e0, by simpa using MapKept.run_findKey hu h1, h2, h3⟩
  · rintro w _ ⟨k, rfl⟩
    simp [Instr.keyThatStays, Instr.sameBits]
end Go.Proofs.YtefhpbcdjgllnaaGreat
