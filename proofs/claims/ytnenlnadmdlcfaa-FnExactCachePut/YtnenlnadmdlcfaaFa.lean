/- Rows of numbers, with kin behind them or without: what it means that a slice reads as a list of such, or owns it. No walk stands here. -/
import Derived.Test.YtnenlnadmdlcfaaMark
import Derived.Test.YtnenlnadmdlcfaaGv
namespace Go.Proofs.Ytnenlnadmdlcfaa
open Go.RowKit

/-! ### Blocks outside of F are as they were -/
structure Only (F : Nat → Prop) (w w' : World) : Prop where
  os : w'.os = w.os
  tape : w'.tape = w.tape
  output : w'.output = w.output
  size : w.heap.size ≤ w'.heap.size
  block : ∀ k, k < w.heap.size → ¬ F k → w'.heap[k]? = w.heap[k]?
theorem Only.refl (F : Nat → Prop) (w : World) : Only F w w := ⟨rfl, rfl, rfl, Nat.le_refl _, fun _ _ _ => rfl⟩
theorem Only.trans {F : Nat → Prop} {a b c : World} (h : Only F a b) (k : Only F b c) : Only F a c :=
  ⟨k.os.trans h.os, k.tape.trans h.tape, k.output.trans h.output, Nat.le_trans h.size k.size, fun i hi hn => (k.block i (Nat.lt_of_lt_of_le hi h.size) hn).trans (h.block i hi hn)⟩
theorem Only.mono {F G : Nat → Prop} {a b : World} (h : Only F a b) (hs : ∀ k, F k → G k) : Only G a b := ⟨h.os, h.tape, h.output, h.size, fun k hk hn => h.block k hk (fun hf => hn (hs k hf))⟩
theorem Only.of_below {F : Nat → Prop} {B : Nat} {w w' : World} (h : Below B w w') (hF : ∀ k, k < w.heap.size → B ≤ k → F k) : Only F w w' :=
  ⟨h.os, h.tape, h.output, h.size, fun k hk hn => h.block k (Nat.lt_of_not_le fun hle => hn (hF k hk hle))⟩
theorem Only.later {F : Nat → Prop} {w w' : World} (h : Below w.heap.size w w') : Only F w w' := Only.of_below h (fun _ hk hle => absurd hk (Nat.not_lt.2 hle))
theorem Only.of_grown {F : Nat → Prop} {w w' : World} {row : Option Nat} (h : w.grownBy w' row) (hF : ∀ k, row = some k → F k) : Only F w w' :=
  ⟨h.os, h.tape, h.output, h.size, fun k hk hn => h.block k hk (fun e => hn (hF k e.symm))⟩
theorem Only.set {F : Nat → Prop} (w : World) {p : Addr} (hp : F p.block) (u : Value) : Only F w (w.setCell p u) :=
  ⟨rfl, rfl, rfl, by simp [World.setCell], fun k _ hn => Below.heap_setCell _ _ _ _ (fun e => hn (by rw [e]; exact hp))⟩
theorem Only.below {F : Nat → Prop} {B : Nat} {w w' : World} (h : Only F w w') (hF : ∀ k, F k → B ≤ k) (hB : B ≤ w.heap.size) : Below B w w' :=
  ⟨h.os, h.tape, h.output, h.size, fun k hk => h.block k (Nat.lt_of_lt_of_le hk hB) (fun hf => Nat.lt_irrefl _ (Nat.lt_of_lt_of_le hk (hF k hf)))⟩
/-- Blocks from B on, below C. -/
def Span (B C : Nat) : Nat → Prop := fun b => B ≤ b ∧ b < C

theorem row_agree {w w' : World} {B : Nat} {e : TypeId} {size : Nat} {v : Value} {n : Nat} {xs : List Value} (h : w.ownsRow B e size v n xs) (hs : ∀ k, v.ownBlock = some k → w'.heap[k]? = w.heap[k]?) : w'.ownsRow B e size v n xs := by
  refine ⟨h.1, ?_⟩
  rcases h.2 with hn | ⟨g, cap, cur, rfl, hbg, hgg, rest⟩
  · exact .inl hn
  · exact .inr ⟨g, cap, cur, rfl, hbg, (hs g rfl).trans hgg, rest⟩
theorem Own.agree {w w' : World} {B : Nat} {v : Value} {l : List (Int × Int)} (h : Own w B v l) (hs : ∀ k, v.ownBlock = some k → w'.heap[k]? = w.heap[k]?) : Own w' B v l := row_agree h hs

/-! ### Elements -/
abbrev KD := List Int × List (Int × Int)
def kd0 : KD := ([], [])
/-- The m numbers of an element, and its kin, if such have any, lie from cell p of block b on. -/
structure AtK (m : Nat) (kn : Bool) (w : World) (b p : Nat) (x : KD) : Prop where
  len : x.1.length = m
  num : ∀ j, j < m → w.cell? ⟨b, p + j, none⟩ = some (.int .i64 (x.1.getD j 0))
  kin : kn = true → ∃ u, w.cell? ⟨b, p + m, none⟩ = some u ∧ Rd w u x.2
  non : kn = false → x.2 = []
theorem AtK.later {m : Nat} {kn : Bool} {w w' : World} {b p : Nat} {x : KD} (h : AtK m kn w b p x) (hb : b < w.heap.size) (hB : Below w.heap.size w w') : AtK m kn w' b p x :=
  ⟨h.len, fun j hj => (hB.cell (p := ⟨b, p + j, none⟩) hb).trans (h.num j hj), fun hk => by obtain ⟨u, h1, h2⟩ := h.kin hk; exact ⟨u, (hB.cell (p := ⟨b, p + m, none⟩) hb).trans h1, h2.later hB⟩, h.non⟩

/-- A slice value that reads as a list of such elements, each of sz cells. -/
def RdM (sz m : Nat) (kn : Bool) (w : World) (v : Value) (L : List KD) : Prop :=
  ∃ (ao : Option Addr) (cap : Nat), v = .slice ao L.length cap ∧ L.length ≤ maxLen ∧
    (0 < L.length → ∃ b off, ao = some ⟨b, off, none⟩ ∧ b < w.heap.size ∧ ∀ i, i < L.length → AtK m kn w b (off + i * sz) (L.getD i kd0))
theorem RdM.nil {sz m : Nat} {kn : Bool} (w : World) (ao : Option Addr) (cap : Nat) : RdM sz m kn w (.slice ao 0 cap) [] := ⟨ao, cap, rfl, Nat.zero_le _, fun h => absurd h (Nat.lt_irrefl 0)⟩
theorem RdM.later {sz m : Nat} {kn : Bool} {w w' : World} {v : Value} {L : List KD} (h : RdM sz m kn w v L) (hb : Below w.heap.size w w') : RdM sz m kn w' v L := by
  obtain ⟨ao, cap, hv, hl, hc⟩ := h
  refine ⟨ao, cap, hv, hl, fun h0 => ?_⟩
  obtain ⟨b, off, ha, hlt, hcc⟩ := hc h0
  exact ⟨b, off, ha, Nat.lt_of_lt_of_le hlt hb.size, fun i hi => (hcc i hi).later hlt hb⟩

/-- Are two elements one? Two lists? (Names that the walk does not take apart.) -/
def eqK (x y : KD) : Bool := decide (x = y)
def eqM (x y : List KD) : Bool := decide (x = y)
theorem eqK_iff {x y : KD} : eqK x y = true ↔ x = y := by simp [eqK]
theorem eqM_yes {x y : List KD} (h : x = y) : eqM x y = true := by simp [eqM, h]
theorem eqM_no {x y : List KD} (h : ¬ x = y) : eqM x y = false := by simp [eqM, h]
theorem eqM_refl (x : List KD) : eqM x x = true := eqM_yes rfl

/-! ### New memory -/
/-- The first k elements' cells are those of L; their kin lie in blocks of F, each in one of its own. -/
structure FilM (sz m : Nat) (kn : Bool) (w : World) (F : Nat → Prop) (gb : Option Nat) (xs : List Value) (us : Nat → Value) (L : List KD) (k : Nat) : Prop where
  len : ∀ i, i < k → (L.getD i kd0).1.length = m
  num : ∀ i, i < k → ∀ j, j < m → xs[i * sz + j]? = some (.int .i64 ((L.getD i kd0).1.getD j 0))
  kin : kn = true → ∀ i, i < k → xs[i * sz + m]? = some (us i) ∧ Own w 0 (us i) (L.getD i kd0).2 ∧ ∀ b, (us i).ownBlock = some b → F b ∧ gb ≠ some b
  non : kn = false → ∀ i, i < k → (L.getD i kd0).2 = []
  dis : kn = true → ∀ i j, i < k → j < k → i ≠ j → ∀ b, (us i).ownBlock = some b → (us j).ownBlock ≠ some b
theorem FilM.zero {sz m : Nat} {kn : Bool} (w : World) (F : Nat → Prop) (gb : Option Nat) (xs : List Value) (us : Nat → Value) (L : List KD) : FilM sz m kn w F gb xs us L 0 :=
  ⟨fun _ h => absurd h (Nat.not_lt_zero _), fun _ h => absurd h (Nat.not_lt_zero _), fun _ _ h => absurd h (Nat.not_lt_zero _), fun _ _ h => absurd h (Nat.not_lt_zero _), fun _ _ _ h => absurd h (Nat.not_lt_zero _)⟩
theorem FilM.agree {sz m : Nat} {kn : Bool} {w w' : World} {F G : Nat → Prop} {gb : Option Nat} {xs : List Value} {us : Nat → Value} {L : List KD} {k : Nat} (h : FilM sz m kn w F gb xs us L k)
    (hs : ∀ b, F b → gb ≠ some b → b < w.heap.size → w'.heap[b]? = w.heap[b]?) (hG : ∀ b, F b → b < w.heap.size → G b) : FilM sz m kn w' G gb xs us L k :=
  ⟨h.len, h.num, fun hk i hi => by
    obtain ⟨h1, h2, h3⟩ := h.kin hk i hi
    exact ⟨h1, h2.agree fun b hb => hs b (h3 b hb).1 (h3 b hb).2 (h2.block b hb).2, fun b hb => ⟨hG b (h3 b hb).1 (h2.block b hb).2, (h3 b hb).2⟩⟩, h.non, h.dis⟩
theorem flat_ne {sz i j s t : Nat} (hs : s < sz) (ht : t < sz) (h : i ≠ j) : i * sz + s ≠ j * sz + t := by
  rcases Nat.lt_or_gt_of_ne h with h | h
  · have := Nat.mul_le_mul_right sz (show i + 1 ≤ j from h)
    rw [Nat.add_mul] at this
    omega
  · have := Nat.mul_le_mul_right sz (show j + 1 ≤ i from h)
    rw [Nat.add_mul] at this
    omega
theorem flat_lt {sz i k s : Nat} (hs : s < sz) (h : i < k) : i * sz + s < k * sz := by
  have := Nat.mul_le_mul_right sz (show i + 1 ≤ k from h)
  rw [Nat.add_mul] at this
  omega
theorem FilM.step {sz m : Nat} {kn : Bool} {w w' : World} {F G : Nat → Prop} {gb : Option Nat} {xs xs' : List Value} {us : Nat → Value} {L : List KD} {k : Nat} (h : FilM sz m kn w F gb xs us L k) (u : Value)
    (hs : ∀ b, F b → gb ≠ some b → b < w.heap.size → w'.heap[b]? = w.heap[b]?) (hG : ∀ b, F b → b < w.heap.size → G b) (hm : m ≤ sz) (hm' : kn = true → m < sz)
    (hx : ∀ p, p < k * sz → xs'[p]? = xs[p]?) (hl : (L.getD k kd0).1.length = m) (hn : ∀ j, j < m → xs'[k * sz + j]? = some (.int .i64 ((L.getD k kd0).1.getD j 0)))
    (hk : kn = true → xs'[k * sz + m]? = some u ∧ Own w' 0 u (L.getD k kd0).2 ∧ ∀ b, u.ownBlock = some b → G b ∧ gb ≠ some b ∧ w.heap.size ≤ b)
    (hz : kn = false → (L.getD k kd0).2 = []) : FilM sz m kn w' G gb xs' (fun i => if i = k then u else us i) L (k + 1) := by
  have h' := h.agree hs hG
  refine ⟨fun i hi => ?_, fun i hi j hj => ?_, fun hkn i hi => ?_, fun hkn i hi => ?_, fun hkn i j hi hj hij b hb => ?_⟩
  · by_cases e : i = k
    · subst e; exact hl
    · exact h'.len i (by omega)
  · by_cases e : i = k
    · subst e; exact hn j hj
    · rw [hx _ (flat_lt (by omega) (by omega))]; exact h'.num i (by omega) j hj
  · by_cases e : i = k
    · subst e
      obtain ⟨h1, h2, h3⟩ := hk hkn
      simp only [if_true]
      exact ⟨h1, h2, fun b hb => ⟨(h3 b hb).1, (h3 b hb).2.1⟩⟩
    · simp only [e, if_false]
      rw [hx _ (flat_lt (hm' hkn) (by omega))]
      exact h'.kin hkn i (by omega)
  · by_cases e : i = k
    · subst e; exact hz hkn
    · exact h'.non hkn i (by omega)
  · have hold : ∀ t, t < k → ∀ b, (us t).ownBlock = some b → b < w.heap.size := fun t ht b hb => ((h.kin hkn t ht).2.1.block b hb).2
    obtain ⟨_, _, h3⟩ := hk hkn
    by_cases e : i = k
    · subst e
      simp only [if_true] at hb
      have hji : j ≠ i := fun q => hij q.symm
      simp only [hji, if_false]
      intro hc
      have := hold j (by omega) b hc
      have := (h3 b hb).2.2
      omega
    · simp only [e, if_false] at hb
      by_cases e' : j = k
      · simp only [e', if_true]
        intro hc
        have := hold i (by omega) b hb
        have := (h3 b hc).2.2
        omega
      · simp only [e', if_false]
        exact h'.dis hkn i j (by omega) (by omega) hij b hb

/-- A slice value that owns a list of such in blocks of F: nobody else's, may be written. -/
structure OwM (e : TypeId) (sz m : Nat) (kn : Bool) (w : World) (F : Nat → Prop) (v : Value) (L : List KD) (xs : List Value) (us : Nat → Value) : Prop where
  row : w.ownsRow 0 e sz v L.length xs
  inF : ∀ g, v.ownBlock = some g → F g
  fil : FilM sz m kn w F v.ownBlock xs us L L.length
def OwnM (e : TypeId) (sz m : Nat) (kn : Bool) (w : World) (F : Nat → Prop) (v : Value) (L : List KD) : Prop := ∃ xs us, OwM e sz m kn w F v L xs us
theorem OwnM.nil {e : TypeId} {sz m : Nat} {kn : Bool} (w : World) (F : Nat → Prop) : OwnM e sz m kn w F (.slice none 0 0) [] :=
  ⟨[], fun _ => .bool false, World.ownsRow_nil _ _ _ _, fun _ h => (by cases h), FilM.zero _ _ _ _ _ _⟩
theorem OwM.agree {e : TypeId} {sz m : Nat} {kn : Bool} {w w' : World} {F G : Nat → Prop} {v : Value} {L : List KD} {xs : List Value} {us : Nat → Value} (h : OwM e sz m kn w F v L xs us)
    (hs : ∀ b, F b → b < w.heap.size → w'.heap[b]? = w.heap[b]?) (hG : ∀ b, F b → b < w.heap.size → G b) : OwM e sz m kn w' G v L xs us :=
  ⟨row_agree h.row fun b hb => hs b (h.inF b hb) (World.ownsRow.lt h.row b hb).2, fun g hg => hG g (h.inF g hg) (World.ownsRow.lt h.row g hg).2, h.fil.agree (fun b hb _ hl => hs b hb hl) hG⟩
theorem OwnM.agree {e : TypeId} {sz m : Nat} {kn : Bool} {w w' : World} {F G : Nat → Prop} {v : Value} {L : List KD} (h : OwnM e sz m kn w F v L)
    (hs : ∀ b, F b → b < w.heap.size → w'.heap[b]? = w.heap[b]?) (hG : ∀ b, F b → b < w.heap.size → G b) : OwnM e sz m kn w' G v L := by
  obtain ⟨xs, us, h⟩ := h
  exact ⟨xs, us, h.agree hs hG⟩
theorem OwnM.later {e : TypeId} {sz m : Nat} {kn : Bool} {w w' : World} {F : Nat → Prop} {v : Value} {L : List KD} (h : OwnM e sz m kn w F v L) (hb : Below w.heap.size w w') : OwnM e sz m kn w' F v L :=
  h.agree (fun b _ hl => hb.block b hl) (fun _ hf _ => hf)
theorem OwnM.mono {e : TypeId} {sz m : Nat} {kn : Bool} {w : World} {F G : Nat → Prop} {v : Value} {L : List KD} (h : OwnM e sz m kn w F v L) (hG : ∀ b, F b → b < w.heap.size → G b) : OwnM e sz m kn w G v L :=
  h.agree (fun _ _ _ => rfl) hG
theorem OwnM.only {e : TypeId} {sz m : Nat} {kn : Bool} {w w' : World} {F G : Nat → Prop} {v : Value} {L : List KD} (h : OwnM e sz m kn w F v L) (ho : Only G w w') (hd : ∀ b, F b → b < w.heap.size → ¬ G b) : OwnM e sz m kn w' F v L :=
  h.agree (fun b hb hl => ho.block b hl (hd b hb hl)) (fun _ hb _ => hb)
theorem OwnM.set {e : TypeId} {sz m : Nat} {kn : Bool} {w : World} {F : Nat → Prop} {v : Value} {L : List KD} (h : OwnM e sz m kn w F v L) {p : Addr} (hp : ¬ F p.block) (u : Value) : OwnM e sz m kn (w.setCell p u) F v L :=
  h.agree (fun _ hb _ => Below.heap_setCell _ _ _ _ (fun q => hp (q ▸ hb))) (fun _ hb _ => hb)
theorem OwM.rd {e : TypeId} {sz m : Nat} {kn : Bool} {w : World} {F : Nat → Prop} {v : Value} {L : List KD} {xs : List Value} {us : Nat → Value} (h : OwM e sz m kn w F v L xs us) (hm : m ≤ sz) (hm' : kn = true → m < sz) : RdM sz m kn w v L := by
  have h0 := h.row
  rcases h.row.2 with ⟨rfl, hn⟩ | ⟨g, cap, cur, rfl, hb, hg, hnc, hcm, hcs, htake⟩
  · have : L = [] := List.eq_nil_of_length_eq_zero hn
    subst this
    exact RdM.nil w none 0
  · refine ⟨some ⟨g, 0, none⟩, cap, rfl, Nat.le_trans hnc hcm, fun _ => ⟨g, 0, rfl, (Array.getElem?_eq_some_iff.1 hg).1, fun i hi => ?_⟩⟩
    rw [Nat.zero_add]
    refine ⟨h.fil.len i hi, fun j hj => ?_, fun hk => ?_, fun hk => h.fil.non hk i hi⟩
    · rw [World.ownsRow.cellAt h0 _ (flat_lt (by omega) hi)]; exact h.fil.num i hi j hj
    · obtain ⟨h1, h2, _⟩ := h.fil.kin hk i hi
      exact ⟨us i, by rw [World.ownsRow.cellAt h0 _ (flat_lt (hm' hk) hi)]; exact h1, h2.rd⟩

/-- It is a slice of that length. -/
theorem OwnM.rd' {e : TypeId} {sz m : Nat} {kn : Bool} {w : World} {F : Nat → Prop} {v : Value} {L : List KD} (h : OwnM e sz m kn w F v L) : ∃ (ao : Option Addr) (cap : Nat), v = .slice ao L.length cap ∧ L.length ≤ maxLen := by
  obtain ⟨xs, us, h⟩ := h
  rcases h.row.2 with ⟨rfl, hn⟩ | ⟨g, cap, cur, rfl, hb, hg, hnc, hcm, hcs, htake⟩
  · exact ⟨none, 0, by rw [hn], by rw [hn]; exact Nat.zero_le _⟩
  · exact ⟨_, cap, rfl, Nat.le_trans hnc hcm⟩
theorem OwnM.rd {e : TypeId} {sz m : Nat} {kn : Bool} {w : World} {F : Nat → Prop} {v : Value} {L : List KD} (h : OwnM e sz m kn w F v L) (hm : m ≤ sz) (hm' : kn = true → m < sz) : RdM sz m kn w v L := by
  obtain ⟨xs, us, h⟩ := h
  exact h.rd hm hm'
theorem OwnM.len {e : TypeId} {sz m : Nat} {kn : Bool} {w : World} {F : Nat → Prop} {v : Value} {L : List KD} (h : OwnM e sz m kn w F v L) : ∀ i, i < L.length → (L.getD i kd0).1.length = m := by
  obtain ⟨xs, us, h⟩ := h
  exact h.fil.len
theorem OwnM.non {e : TypeId} {sz m : Nat} {w : World} {F : Nat → Prop} {v : Value} {L : List KD} (h : OwnM e sz m false w F v L) : ∀ i, i < L.length → (L.getD i kd0).1.length = m ∧ (L.getD i kd0).2 = [] := by
  obtain ⟨xs, us, h⟩ := h
  exact fun i hi => ⟨h.fil.len i hi, h.fil.non rfl i hi⟩

/-! ### Marks -/
def cntK (m : Nat) (x : KD) : Int := (m : Int) + 2 * (x.2.length : Int)
def cntM (m : Nat) (L : List KD) : Int := (L.map (cntK m)).sum
def relK (m : Nat) (k : Int) (x : KD) : KD := ((List.range m).map (fun (j : Nat) => k + (j : Int)), markL (k + (m : Int)) x.2.length)
def relM (m : Nat) : Int → List KD → List KD
  | _, [] => []
  | k, x :: r => relK m k x :: relM m (k + cntK m x) r
theorem relM_length (m : Nat) (L : List KD) : ∀ k, (relM m k L).length = L.length := by
  induction L with
  | nil => intro k; rfl
  | cons x r ih => intro k; simp [relM, ih]
theorem cntK_pos (m : Nat) (x : KD) : 0 ≤ cntK m x := by unfold cntK; omega
theorem cntM_pos (m : Nat) (L : List KD) : 0 ≤ cntM m L := by
  induction L with
  | nil => simp [cntM]
  | cons x r ih => have := cntK_pos m x; simp only [cntM, List.map_cons, List.sum_cons] at ih ⊢; omega
theorem cntM_cons (m : Nat) (x : KD) (r : List KD) : cntM m (x :: r) = cntK m x + cntM m r := by simp [cntM]
theorem cntM_step (m : Nat) (L : List KD) : ∀ i, i < L.length → cntM m (L.take (i + 1)) = cntM m (L.take i) + cntK m (L.getD i kd0) := by
  induction L with
  | nil => intro i h; exact absurd h (Nat.not_lt_zero _)
  | cons x r ih =>
    intro i h
    cases i with
    | zero => simp [cntM]
    | succ j =>
      have := ih j (by simpa using h)
      rw [List.take_succ_cons, List.take_succ_cons, cntM_cons, cntM_cons, this, List.getD_cons_succ]
      omega
theorem cntM_le (m : Nat) (L : List KD) (i : Nat) : cntM m (L.take i) ≤ cntM m L := by
  have h : cntM m L = cntM m (L.take i) + cntM m (L.drop i) := by
    rw [cntM, cntM, cntM, ← List.sum_append, ← List.map_append, List.take_append_drop]
  have := cntM_pos m (L.drop i)
  omega
theorem relM_get (m : Nat) (L : List KD) : ∀ k i, i < L.length → (relM m k L).getD i kd0 = relK m (k + cntM m (L.take i)) (L.getD i kd0) := by
  induction L with
  | nil => intro k i h; exact absurd h (Nat.not_lt_zero _)
  | cons x r ih =>
    intro k i h
    cases i with
    | zero => simp [relM, cntM]
    | succ j =>
      have := ih (k + cntK m x) j (by simpa using h)
      rw [relM, List.getD_cons_succ, this, List.take_succ_cons, cntM_cons, List.getD_cons_succ, Int.add_assoc]

/-- Between the marks of two elements: the first j are marked. -/
def MidM (m : Nat) (k : Int) (L M : List KD) (j : Nat) : Prop := M.length = L.length ∧ (∀ i, i < j → M.getD i kd0 = (relM m k L).getD i kd0) ∧ (∀ i, j ≤ i → i < L.length → M.getD i kd0 = L.getD i kd0)
theorem MidM.start (m : Nat) (k : Int) (L : List KD) : MidM m k L L 0 := ⟨rfl, fun _ h => absurd h (Nat.not_lt_zero _), fun _ _ _ => rfl⟩
theorem kd_getD_set {L : List KD} {j : Nat} (hj : j < L.length) (x : KD) (i : Nat) : (L.set j x).getD i kd0 = if i = j then x else L.getD i kd0 := by
  rw [List.getD_eq_getElem?_getD, List.getElem?_set]
  by_cases e : j = i
  · subst e; simp [hj]
  · rw [if_neg e, if_neg (fun q => e q.symm), List.getD_eq_getElem?_getD]
theorem MidM.step {m : Nat} {k : Int} {L M : List KD} {j : Nat} (h : MidM m k L M j) (hj : j < L.length) : MidM m k L (M.set j (relK m (k + cntM m (L.take j)) (L.getD j kd0))) (j + 1) := by
  obtain ⟨h0, h1, h2⟩ := h
  refine ⟨by simp [h0], fun i hi => ?_, fun i hi hl => ?_⟩
  · rw [kd_getD_set (by rw [h0]; exact hj)]
    by_cases e : i = j
    · subst e; rw [if_pos rfl, relM_get m L k i hj]
    · rw [if_neg e]; exact h1 i (by omega)
  · rw [kd_getD_set (by rw [h0]; exact hj), if_neg (by omega)]
    exact h2 i (by omega) hl
theorem MidM.all {m : Nat} {k : Int} {L M : List KD} (h : MidM m k L M L.length) : M = relM m k L := by
  obtain ⟨h0, h1, _⟩ := h
  apply List.ext_getElem?
  intro i
  by_cases hi : i < L.length
  · have := h1 i hi
    rw [List.getD_eq_getElem?_getD, List.getD_eq_getElem?_getD, List.getElem?_eq_getElem (by rw [h0]; exact hi), List.getElem?_eq_getElem (by rw [relM_length]; exact hi)] at this
    rw [List.getElem?_eq_getElem (by rw [h0]; exact hi), List.getElem?_eq_getElem (by rw [relM_length]; exact hi)]
    simpa using this
  · rw [List.getElem?_eq_none (by omega), List.getElem?_eq_none (by rw [relM_length]; omega)]

/-- A store of one number. -/
theorem OwM.setNum {e : TypeId} {sz m : Nat} {kn : Bool} {w : World} {F : Nat → Prop} {v : Value} {L : List KD} {xs : List Value} {us : Nat → Value} {g j t : Nat} (h : OwM e sz m kn w F v L xs us) (hm : m ≤ sz) (hm' : kn = true → m < sz)
    (hg : v.ownBlock = some g) (hj : j < L.length) (ht : t < m) (z : Int) :
    OwM e sz m kn (w.setCell ⟨g, j * sz + t, none⟩ (.int .i64 z)) F v (L.set j ((L.getD j kd0).1.set t z, (L.getD j kd0).2)) (xs.set (j * sz + t) (.int .i64 z)) us := by
  have hxl : xs.length = L.length * sz := h.row.1
  have hpos : j * sz + t < xs.length := by rw [hxl]; exact flat_lt (by omega) hj
  have hlen := h.fil.len j hj
  refine ⟨?_, h.inF, ?_⟩
  · rw [List.length_set]
    refine ⟨by rw [List.length_set]; exact hxl, ?_⟩
    rcases h.row.2 with ⟨rfl, _⟩ | ⟨g', cap, cur, rfl, hbg, hgg, hnc, hcm, hsz, htk⟩
    · cases hg
    · cases hg
      refine .inr ⟨g', cap, cur.setIfInBounds (j * sz + t) (.int .i64 z), rfl, hbg, ?_, hnc, hcm, by simpa using hsz, ?_⟩
      · simp only [World.setCell, Array.getElem?_modify, hgg]
        simp
      · rw [Array.toList_setIfInBounds, List.take_set, htk]
  · rw [List.length_set]
    refine ⟨fun i hi => ?_, fun i hi s hs => ?_, fun hk i hi => ?_, fun hk i hi => ?_, h.fil.dis⟩
    · rw [kd_getD_set hj]
      split
      · simp only [List.length_set]; exact hlen
      · exact h.fil.len i hi
    · rw [kd_getD_set hj]
      by_cases q : i = j
      · subst q
        rw [if_pos rfl]
        by_cases q' : s = t
        · subst q'
          rw [List.getElem?_set_self hpos]
          rw [List.getD_eq_getElem?_getD, List.getElem?_set_self (by rw [hlen]; exact ht)]; rfl
        · rw [List.getElem?_set_ne (by omega), h.fil.num i hi s hs]
          show _ = some (Value.int IntKind.i64 (((L.getD i kd0).1.set t z).getD s 0))
          rw [List.getD_eq_getElem?_getD (l := (L.getD i kd0).1.set t z), List.getElem?_set_ne (fun x => q' x.symm), ← List.getD_eq_getElem?_getD]
      · rw [if_neg q, List.getElem?_set_ne (flat_ne (by omega) (by omega) (fun x => q x.symm))]
        exact h.fil.num i hi s hs
    · obtain ⟨h1, h2, h3⟩ := h.fil.kin hk i hi
      have := hm' hk
      refine ⟨?_, ?_, h3⟩
      · by_cases q : i = j
        · subst q; rw [List.getElem?_set_ne (by omega)]; exact h1
        · rw [List.getElem?_set_ne (flat_ne (by omega) (by omega) (fun x => q x.symm))]; exact h1
      · rw [kd_getD_set hj]
        have h4 : Own (w.setCell ⟨g, j * sz + t, none⟩ (.int .i64 z)) 0 (us i) (L.getD i kd0).2 := h2.agree fun b hb => Below.heap_setCell _ _ _ _ (fun q => (h3 b hb).2 (by rw [hg, q]))
        split
        · next q => subst q; exact h4
        · exact h4
    · rw [kd_getD_set hj]
      split
      · next q => subst q; exact h.fil.non hk i hj
      · exact h.fil.non hk i hi
/-- A call that turns one element's kin in place. -/
theorem OwM.setKin {e : TypeId} {sz m : Nat} {w w' : World} {F : Nat → Prop} {v : Value} {L : List KD} {xs : List Value} {us : Nat → Value} {j : Nat} (h : OwM e sz m true w F v L xs us)
    (hj : j < L.length) {l : List (Int × Int)} (ho : Own w' 0 (us j) l) (hg : w.grownBy w' (us j).ownBlock) :
    OwM e sz m true w' F v (L.set j ((L.getD j kd0).1, l)) xs us := by
  have hne : ∀ b, v.ownBlock = some b → w'.heap[b]? = w.heap[b]? := fun b hb => hg.block b (World.ownsRow.lt h.row b hb).2 (fun q => ((h.fil.kin rfl j hj).2.2 b q.symm).2 hb)
  refine ⟨by rw [List.length_set]; exact row_agree h.row hne, h.inF, ?_⟩
  rw [List.length_set]
  refine ⟨fun i hi => ?_, fun i hi s hs => ?_, fun hk i hi => ?_, fun hk => (by cases hk), h.fil.dis⟩
  · rw [kd_getD_set hj]
    split
    · next q => subst q; exact h.fil.len i hi
    · exact h.fil.len i hi
  · rw [kd_getD_set hj]
    split
    · next q => subst q; exact h.fil.num i hi s hs
    · exact h.fil.num i hi s hs
  · obtain ⟨h1, h2, h3⟩ := h.fil.kin rfl i hi
    refine ⟨h1, ?_, h3⟩
    rw [kd_getD_set hj]
    split
    · next q => subst q; exact ho
    · next q => exact h2.agree fun b hb => hg.block b (h2.block b hb).2 (fun r => h.fil.dis rfl i j hi hj q b hb r.symm)
end Go.Proofs.Ytnenlnadmdlcfaa
