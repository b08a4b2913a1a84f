/- Parts of what the last text proves: contracts and plain facts. -/
import Derived.Test.YtkmhnjgncnoddaaGreatMark
import Derived.Test.YtkmhnjgncnoddaaGreatGv
import Derived.Test.YtkmhnjgncnoddaaGreatGe
import Derived.Deep.RegionHeld3
import Derived.Lib.QuietBelow
import Derived.Deep.DrawnRows
import Derived.Test.YtkmhnjgncnoddaaGreatVa
import Derived.Test.YtkmhnjgncnoddaaGreatAdS
import Derived.Laws.AppendOwnNone
import Derived.Test.YtkmhnjgncnoddaaGreatAy
import Derived.Deep.Cut
import Derived.Test.YtkmhnjgncnoddaaGreatEhP
import Derived.Test.YtkmhnjgncnoddaaGreatBa
import Derived.Test.YtkmhnjgncnoddaaGreatAu
import Derived.Test.YtkmhnjgncnoddaaGreatHas
import Derived.Test.YtkmhnjgncnoddaaGreatKm
import Derived.Test.YtkmhnjgncnoddaaGreatOa
import Derived.Test.YtkmhnjgncnoddaaGreatOz
/- Part: Rows of numbers, with kin behind them or without: what it means that a slice reads as a list of such, or owns it. No walk stands here. -/
namespace Go.Proofs.YtkmhnjgncnoddaaGreat
open Go.RowKit

/-! ### Blocks outside of F are as they were -/
structure Only (F : Nat → Prop) (w w' : World) : Prop where
  os : w'.os = w.os
  tape : w'.tape = w.tape
  output : w'.output = w.output
  size : w.heap.size ≤ w'.heap.size
  block : ∀ k, k < w.heap.size → ¬ F k → w'.heap[k]? = w.heap[k]?
theorem Only.refl (F : Nat → Prop) (w : World) : Only F w w := ⟨rfl, rfl, rfl, Nat.le_refl _, fun _ _ _ => rfl⟩
theorem Only.trans {F : Nat → Prop} {a b c : World} (h : Only F a b) (k : Only F b c) : Only F a c :=
  ⟨k.os.trans h.os, k.tape.trans h.tape, k.output.trans h.output, Nat.le_trans h.size k.size, fun i hi hn => (k.block i (Nat.lt_of_lt_of_le hi h.size) hn).trans (h.block i hi hn)⟩
theorem Only.mono {F G : Nat → Prop} {a b : World} (h : Only F a b) (hs : ∀ k, F k → G k) : Only G a b := ⟨h.os, h.tape, h.output, h.size, fun k hk hn => h.block k hk (fun hf => hn (hs k hf))⟩
theorem Only.of_below {F : Nat → Prop} {B : Nat} {w w' : World} (h : Below B w w') (hF : ∀ k, k < w.heap.size → B ≤ k → F k) : Only F w w' :=
  ⟨h.os, h.tape, h.output, h.size, fun k hk hn => h.block k (Nat.lt_of_not_le fun hle => hn (hF k hk hle))⟩
theorem Only.later {F : Nat → Prop} {w w' : World} (h : Below w.heap.size w w') : Only F w w' := Only.of_below h (fun _ hk hle => absurd hk (Nat.not_lt.2 hle))
theorem Only.of_grown {F : Nat → Prop} {w w' : World} {row : Option Nat} (h : w.grownBy w' row) (hF : ∀ k, row = some k → F k) : Only F w w' :=
  ⟨h.os, h.tape, h.output, h.size, fun k hk hn => h.block k hk (fun e => hn (hF k e.symm))⟩
theorem Only.set {F : Nat → Prop} (w : World) {p : Addr} (hp : F p.block) (u : Value) : Only F w (w.setCell p u) :=
  ⟨rfl, rfl, rfl, by simp [World.setCell], fun k _ hn => Below.heap_setCell _ _ _ _ (fun e => hn (by rw [e]; exact hp))⟩
theorem Only.below {F : Nat → Prop} {B : Nat} {w w' : World} (h : Only F w w') (hF : ∀ k, F k → B ≤ k) (hB : B ≤ w.heap.size) : Below B w w' :=
  ⟨h.os, h.tape, h.output, h.size, fun k hk => h.block k (Nat.lt_of_lt_of_le hk hB) (fun hf => Nat.lt_irrefl _ (Nat.lt_of_lt_of_le hk (hF k hf)))⟩
/-- Blocks from B on, below C. -/
def Span (B C : Nat) : Nat → Prop := fun b => B ≤ b ∧ b < C

theorem row_agree {w w' : World} {B : Nat} {e : TypeId} {size : Nat} {v : Value} {n : Nat} {xs : List Value} (h : w.ownsRow B e size v n xs) (hs : ∀ k, v.ownBlock = some k → w'.heap[k]? = w.heap[k]?) : w'.ownsRow B e size v n xs := by
  refine ⟨h.1, ?_⟩
  rcases h.2 with hn | ⟨g, cap, cur, rfl, hbg, hgg, rest⟩
  · exact .inl hn
  · exact .inr ⟨g, cap, cur, rfl, hbg, (hs g rfl).trans hgg, rest⟩
theorem Own.agree {w w' : World} {B : Nat} {v : Value} {l : List (Int × Int)} (h : Own w B v l) (hs : ∀ k, v.ownBlock = some k → w'.heap[k]? = w.heap[k]?) : Own w' B v l := row_agree h hs

/-! ### Elements -/
abbrev KD := List Int × List (Int × Int)
def kd0 : KD := ([], [])
/-- The m numbers of an element, and its kin, if such have any, lie from cell p of block b on. -/
structure AtK (m : Nat) (kn : Bool) (w : World) (b p : Nat) (x : KD) : Prop where
  len : x.1.length = m
  num : ∀ j, j < m → w.cell? ⟨b, p + j, none⟩ = some (.int .i64 (x.1.getD j 0))
  kin : kn = true → ∃ u, w.cell? ⟨b, p + m, none⟩ = some u ∧ Rd w u x.2
  non : kn = false → x.2 = []
theorem AtK.later {m : Nat} {kn : Bool} {w w' : World} {b p : Nat} {x : KD} (h : AtK m kn w b p x) (hb : b < w.heap.size) (hB : Below w.heap.size w w') : AtK m kn w' b p x :=
  ⟨h.len, fun j hj => (hB.cell (p := ⟨b, p + j, none⟩) hb).trans (h.num j hj), fun hk => by obtain ⟨u, h1, h2⟩ := h.kin hk; exact ⟨u, (hB.cell (p := ⟨b, p + m, none⟩) hb).trans h1, h2.later hB⟩, h.non⟩

/-- A slice value that reads as a list of such elements, each of sz cells. -/
def RdM (sz m : Nat) (kn : Bool) (w : World) (v : Value) (L : List KD) : Prop :=
  ∃ (ao : Option Addr) (cap : Nat), v = .slice ao L.length cap ∧ L.length ≤ maxLen ∧
    (0 < L.length → ∃ b off, ao = some ⟨b, off, none⟩ ∧ b < w.heap.size ∧ ∀ i, i < L.length → AtK m kn w b (off + i * sz) (L.getD i kd0))
theorem RdM.nil {sz m : Nat} {kn : Bool} (w : World) (ao : Option Addr) (cap : Nat) : RdM sz m kn w (.slice ao 0 cap) [] := ⟨ao, cap, rfl, Nat.zero_le _, fun h => absurd h (Nat.lt_irrefl 0)⟩
theorem RdM.later {sz m : Nat} {kn : Bool} {w w' : World} {v : Value} {L : List KD} (h : RdM sz m kn w v L) (hb : Below w.heap.size w w') : RdM sz m kn w' v L := by
  obtain ⟨ao, cap, hv, hl, hc⟩ := h
  refine ⟨ao, cap, hv, hl, fun h0 => ?_⟩
  obtain ⟨b, off, ha, hlt, hcc⟩ := hc h0
  exact ⟨b, off, ha, Nat.lt_of_lt_of_le hlt hb.size, fun i hi => (hcc i hi).later hlt hb⟩

/-- Are two elements one? Two lists? (Names that the walk does not take apart.) -/
def eqK (x y : KD) : Bool := decide (x = y)
def eqM (x y : List KD) : Bool := decide (x = y)
theorem eqK_iff {x y : KD} : eqK x y = true ↔ x = y := by simp [eqK]
theorem eqM_yes {x y : List KD} (h : x = y) : eqM x y = true := by simp [eqM, h]
theorem eqM_no {x y : List KD} (h : ¬ x = y) : eqM x y = false := by simp [eqM, h]
theorem eqM_refl (x : List KD) : eqM x x = true := eqM_yes rfl

/-! ### New memory -/
/-- The first k elements' cells are those of L; their kin lie in blocks of F, each in one of its own. -/
structure FilM (sz m : Nat) (kn : Bool) (w : World) (F : Nat → Prop) (gb : Option Nat) (xs : List Value) (us : Nat → Value) (L : List KD) (k : Nat) : Prop where
  len : ∀ i, i < k → (L.getD i kd0).1.length = m
  num : ∀ i, i < k → ∀ j, j < m → xs[i * sz + j]? = some (.int .i64 ((L.getD i kd0).1.getD j 0))
  kin : kn = true → ∀ i, i < k → xs[i * sz + m]? = some (us i) ∧ Own w 0 (us i) (L.getD i kd0).2 ∧ ∀ b, (us i).ownBlock = some b → F b ∧ gb ≠ some b
  non : kn = false → ∀ i, i < k → (L.getD i kd0).2 = []
  dis : kn = true → ∀ i j, i < k → j < k → i ≠ j → ∀ b, (us i).ownBlock = some b → (us j).ownBlock ≠ some b
theorem FilM.zero {sz m : Nat} {kn : Bool} (w : World) (F : Nat → Prop) (gb : Option Nat) (xs : List Value) (us : Nat → Value) (L : List KD) : FilM sz m kn w F gb xs us L 0 :=
  ⟨fun _ h => absurd h (Nat.not_lt_zero _), fun _ h => absurd h (Nat.not_lt_zero _), fun _ _ h => absurd h (Nat.not_lt_zero _), fun _ _ h => absurd h (Nat.not_lt_zero _), fun _ _ _ h => absurd h (Nat.not_lt_zero _)⟩
theorem FilM.agree {sz m : Nat} {kn : Bool} {w w' : World} {F G : Nat → Prop} {gb : Option Nat} {xs : List Value} {us : Nat → Value} {L : List KD} {k : Nat} (h : FilM sz m kn w F gb xs us L k)
    (hs : ∀ b, F b → gb ≠ some b → b < w.heap.size → w'.heap[b]? = w.heap[b]?) (hG : ∀ b, F b → b < w.heap.size → G b) : FilM sz m kn w' G gb xs us L k :=
  ⟨h.len, h.num, fun hk i hi => by
    obtain ⟨h1, h2, h3⟩ := h.kin hk i hi
    exact ⟨h1, h2.agree fun b hb => hs b (h3 b hb).1 (h3 b hb).2 (h2.block b hb).2, fun b hb => ⟨hG b (h3 b hb).1 (h2.block b hb).2, (h3 b hb).2⟩⟩, h.non, h.dis⟩
theorem flat_ne {sz i j s t : Nat} (hs : s < sz) (ht : t < sz) (h : i ≠ j) : i * sz + s ≠ j * sz + t := by
  rcases Nat.lt_or_gt_of_ne h with h | h
  · have := Nat.mul_le_mul_right sz (show i + 1 ≤ j from h)
    rw [Nat.add_mul] at this
    omega
  · have := Nat.mul_le_mul_right sz (show j + 1 ≤ i from h)
    rw [Nat.add_mul] at this
    omega
theorem flat_lt {sz i k s : Nat} (hs : s < sz) (h : i < k) : i * sz + s < k * sz := by
  have := Nat.mul_le_mul_right sz (show i + 1 ≤ k from h)
  rw [Nat.add_mul] at this
  omega
theorem FilM.step {sz m : Nat} {kn : Bool} {w w' : World} {F G : Nat → Prop} {gb : Option Nat} {xs xs' : List Value} {us : Nat → Value} {L : List KD} {k : Nat} (h : FilM sz m kn w F gb xs us L k) (u : Value)
    (hs : ∀ b, F b → gb ≠ some b → b < w.heap.size → w'.heap[b]? = w.heap[b]?) (hG : ∀ b, F b → b < w.heap.size → G b) (hm : m ≤ sz) (hm' : kn = true → m < sz)
    (hx : ∀ p, p < k * sz → xs'[p]? = xs[p]?) (hl : (L.getD k kd0).1.length = m) (hn : ∀ j, j < m → xs'[k * sz + j]? = some (.int .i64 ((L.getD k kd0).1.getD j 0)))
    (hk : kn = true → xs'[k * sz + m]? = some u ∧ Own w' 0 u (L.getD k kd0).2 ∧ ∀ b, u.ownBlock = some b → G b ∧ gb ≠ some b ∧ w.heap.size ≤ b)
    (hz : kn = false → (L.getD k kd0).2 = []) : FilM sz m kn w' G gb xs' (fun i => if i = k then u else us i) L (k + 1) := by
  have h' := h.agree hs hG
  refine ⟨fun i hi => ?_, fun i hi j hj => ?_, fun hkn i hi => ?_, fun hkn i hi => ?_, fun hkn i j hi hj hij b hb => ?_⟩
  · by_cases e : i = k
    · subst e; exact hl
    · exact h'.len i (by omega)
  · by_cases e : i = k
    · subst e; exact hn j hj
    · rw [hx _ (flat_lt (by omega) (by omega))]; exact h'.num i (by omega) j hj
  · by_cases e : i = k
    · subst e
      obtain ⟨h1, h2, h3⟩ := hk hkn
      simp only [if_true]
      exact ⟨h1, h2, fun b hb => ⟨(h3 b hb).1, (h3 b hb).2.1⟩⟩
    · simp only [e, if_false]
      rw [hx _ (flat_lt (hm' hkn) (by omega))]
      exact h'.kin hkn i (by omega)
  · by_cases e : i = k
    · subst e; exact hz hkn
    · exact h'.non hkn i (by omega)
  · have hold : ∀ t, t < k → ∀ b, (us t).ownBlock = some b → b < w.heap.size := fun t ht b hb => ((h.kin hkn t ht).2.1.block b hb).2
    obtain ⟨_, _, h3⟩ := hk hkn
    by_cases e : i = k
    · subst e
      simp only [if_true] at hb
      have hji : j ≠ i := fun q => hij q.symm
      simp only [hji, if_false]
      intro hc
      have := hold j (by omega) b hc
      have := (h3 b hb).2.2
      omega
    · simp only [e, if_false] at hb
      by_cases e' : j = k
      · simp only [e', if_true]
        intro hc
        have := hold i (by omega) b hb
        have := (h3 b hc).2.2
        omega
      · simp only [e', if_false]
        exact h'.dis hkn i j (by omega) (by omega) hij b hb

/-- A slice value that owns a list of such in blocks of F: nobody else's, may be written. -/
structure OwM (e : TypeId) (sz m : Nat) (kn : Bool) (w : World) (F : Nat → Prop) (v : Value) (L : List KD) (xs : List Value) (us : Nat → Value) : Prop where
  row : w.ownsRow 0 e sz v L.length xs
  inF : ∀ g, v.ownBlock = some g → F g
  fil : FilM sz m kn w F v.ownBlock xs us L L.length
def OwnM (e : TypeId) (sz m : Nat) (kn : Bool) (w : World) (F : Nat → Prop) (v : Value) (L : List KD) : Prop := ∃ xs us, OwM e sz m kn w F v L xs us
theorem OwnM.nil {e : TypeId} {sz m : Nat} {kn : Bool} (w : World) (F : Nat → Prop) : OwnM e sz m kn w F (.slice none 0 0) [] :=
  ⟨[], fun _ => .bool false, World.ownsRow_nil _ _ _ _, fun _ h => (by cases h), FilM.zero _ _ _ _ _ _⟩
theorem OwM.agree {e : TypeId} {sz m : Nat} {kn : Bool} {w w' : World} {F G : Nat → Prop} {v : Value} {L : List KD} {xs : List Value} {us : Nat → Value} (h : OwM e sz m kn w F v L xs us)
    (hs : ∀ b, F b → b < w.heap.size → w'.heap[b]? = w.heap[b]?) (hG : ∀ b, F b → b < w.heap.size → G b) : OwM e sz m kn w' G v L xs us :=
  ⟨row_agree h.row fun b hb => hs b (h.inF b hb) (World.ownsRow.lt h.row b hb).2, fun g hg => hG g (h.inF g hg) (World.ownsRow.lt h.row g hg).2, h.fil.agree (fun b hb _ hl => hs b hb hl) hG⟩
theorem OwnM.agree {e : TypeId} {sz m : Nat} {kn : Bool} {w w' : World} {F G : Nat → Prop} {v : Value} {L : List KD} (h : OwnM e sz m kn w F v L)
    (hs : ∀ b, F b → b < w.heap.size → w'.heap[b]? = w.heap[b]?) (hG : ∀ b, F b → b < w.heap.size → G b) : OwnM e sz m kn w' G v L := by
  obtain ⟨xs, us, h⟩ := h
  exact ⟨xs, us, h.agree hs hG⟩
theorem OwnM.later {e : TypeId} {sz m : Nat} {kn : Bool} {w w' : World} {F : Nat → Prop} {v : Value} {L : List KD} (h : OwnM e sz m kn w F v L) (hb : Below w.heap.size w w') : OwnM e sz m kn w' F v L :=
  h.agree (fun b _ hl => hb.block b hl) (fun _ hf _ => hf)
theorem OwnM.mono {e : TypeId} {sz m : Nat} {kn : Bool} {w : World} {F G : Nat → Prop} {v : Value} {L : List KD} (h : OwnM e sz m kn w F v L) (hG : ∀ b, F b → b < w.heap.size → G b) : OwnM e sz m kn w G v L :=
  h.agree (fun _ _ _ => rfl) hG
theorem OwnM.only {e : TypeId} {sz m : Nat} {kn : Bool} {w w' : World} {F G : Nat → Prop} {v : Value} {L : List KD} (h : OwnM e sz m kn w F v L) (ho : Only G w w') (hd : ∀ b, F b → b < w.heap.size → ¬ G b) : OwnM e sz m kn w' F v L :=
  h.agree (fun b hb hl => ho.block b hl (hd b hb hl)) (fun _ hb _ => hb)
theorem OwnM.set {e : TypeId} {sz m : Nat} {kn : Bool} {w : World} {F : Nat → Prop} {v : Value} {L : List KD} (h : OwnM e sz m kn w F v L) {p : Addr} (hp : ¬ F p.block) (u : Value) : OwnM e sz m kn (w.setCell p u) F v L :=
  h.agree (fun _ hb _ => Below.heap_setCell _ _ _ _ (fun q => hp (q ▸ hb))) (fun _ hb _ => hb)
theorem OwM.rd {e : TypeId} {sz m : Nat} {kn : Bool} {w : World} {F : Nat → Prop} {v : Value} {L : List KD} {xs : List Value} {us : Nat → Value} (h : OwM e sz m kn w F v L xs us) (hm : m ≤ sz) (hm' : kn = true → m < sz) : RdM sz m kn w v L := by
  have h0 := h.row
  rcases h.row.2 with ⟨rfl, hn⟩ | ⟨g, cap, cur, rfl, hb, hg, hnc, hcm, hcs, htake⟩
  · have : L = [] := List.eq_nil_of_length_eq_zero hn
    subst this
    exact RdM.nil w none 0
  · refine ⟨some ⟨g, 0, none⟩, cap, rfl, Nat.le_trans hnc hcm, fun _ => ⟨g, 0, rfl, (Array.getElem?_eq_some_iff.1 hg).1, fun i hi => ?_⟩⟩
    rw [Nat.zero_add]
    refine ⟨h.fil.len i hi, fun j hj => ?_, fun hk => ?_, fun hk => h.fil.non hk i hi⟩
    · rw [World.ownsRow.cellAt h0 _ (flat_lt (by omega) hi)]; exact h.fil.num i hi j hj
    · obtain ⟨h1, h2, _⟩ := h.fil.kin hk i hi
      exact ⟨us i, by rw [World.ownsRow.cellAt h0 _ (flat_lt (hm' hk) hi)]; exact h1, h2.rd⟩

/-- It is a slice of that length. -/
theorem OwnM.rd' {e : TypeId} {sz m : Nat} {kn : Bool} {w : World} {F : Nat → Prop} {v : Value} {L : List KD} (h : OwnM e sz m kn w F v L) : ∃ (ao : Option Addr) (cap : Nat), v = .slice ao L.length cap ∧ L.length ≤ maxLen := by
  obtain ⟨xs, us, h⟩ := h
  rcases h.row.2 with ⟨rfl, hn⟩ | ⟨g, cap, cur, rfl, hb, hg, hnc, hcm, hcs, htake⟩
  · exact ⟨none, 0, by rw [hn], by rw [hn]; exact Nat.zero_le _⟩
  · exact ⟨_, cap, rfl, Nat.le_trans hnc hcm⟩
theorem OwnM.rd {e : TypeId} {sz m : Nat} {kn : Bool} {w : World} {F : Nat → Prop} {v : Value} {L : List KD} (h : OwnM e sz m kn w F v L) (hm : m ≤ sz) (hm' : kn = true → m < sz) : RdM sz m kn w v L := by
  obtain ⟨xs, us, h⟩ := h
  exact h.rd hm hm'
theorem OwnM.len {e : TypeId} {sz m : Nat} {kn : Bool} {w : World} {F : Nat → Prop} {v : Value} {L : List KD} (h : OwnM e sz m kn w F v L) : ∀ i, i < L.length → (L.getD i kd0).1.length = m := by
  obtain ⟨xs, us, h⟩ := h
  exact h.fil.len
theorem OwnM.non {e : TypeId} {sz m : Nat} {w : World} {F : Nat → Prop} {v : Value} {L : List KD} (h : OwnM e sz m false w F v L) : ∀ i, i < L.length → (L.getD i kd0).1.length = m ∧ (L.getD i kd0).2 = [] := by
  obtain ⟨xs, us, h⟩ := h
  exact fun i hi => ⟨h.fil.len i hi, h.fil.non rfl i hi⟩

/-! ### Marks -/
def cntK (m : Nat) (x : KD) : Int := (m : Int) + 2 * (x.2.length : Int)
def cntM (m : Nat) (L : List KD) : Int := (L.map (cntK m)).sum
def relK (m : Nat) (k : Int) (x : KD) : KD := ((List.range m).map (fun (j : Nat) => k + (j : Int)), markL (k + (m : Int)) x.2.length)
def relM (m : Nat) : Int → List KD → List KD
  | _, [] => []
  | k, x :: r => relK m k x :: relM m (k + cntK m x) r
theorem relM_length (m : Nat) (L : List KD) : ∀ k, (relM m k L).length = L.length := by
  induction L with
  | nil => intro k; rfl
  | cons x r ih => intro k; simp [relM, ih]
theorem cntK_pos (m : Nat) (x : KD) : 0 ≤ cntK m x := by unfold cntK; omega
theorem cntM_pos (m : Nat) (L : List KD) : 0 ≤ cntM m L := by
  induction L with
  | nil => simp [cntM]
  | cons x r ih => have := cntK_pos m x; simp only [cntM, List.map_cons, List.sum_cons] at ih ⊢; omega
theorem cntM_cons (m : Nat) (x : KD) (r : List KD) : cntM m (x :: r) = cntK m x + cntM m r := by simp [cntM]
theorem cntM_step (m : Nat) (L : List KD) : ∀ i, i < L.length → cntM m (L.take (i + 1)) = cntM m (L.take i) + cntK m (L.getD i kd0) := by
  induction L with
  | nil => intro i h; exact absurd h (Nat.not_lt_zero _)
  | cons x r ih =>
    intro i h
    cases i with
    | zero => simp [cntM]
    | succ j =>
      have := ih j (by simpa using h)
      rw [List.take_succ_cons, List.take_succ_cons, cntM_cons, cntM_cons, this, List.getD_cons_succ]
      omega
theorem cntM_le (m : Nat) (L : List KD) (i : Nat) : cntM m (L.take i) ≤ cntM m L := by
  have h : cntM m L = cntM m (L.take i) + cntM m (L.drop i) := by
    rw [cntM, cntM, cntM, ← List.sum_append, ← List.map_append, List.take_append_drop]
  have := cntM_pos m (L.drop i)
  omega
theorem relM_get (m : Nat) (L : List KD) : ∀ k i, i < L.length → (relM m k L).getD i kd0 = relK m (k + cntM m (L.take i)) (L.getD i kd0) := by
  induction L with
  | nil => intro k i h; exact absurd h (Nat.not_lt_zero _)
  | cons x r ih =>
    intro k i h
    cases i with
    | zero => simp [relM, cntM]
    | succ j =>
      have := ih (k + cntK m x) j (by simpa using h)
      rw [relM, List.getD_cons_succ, this, List.take_succ_cons, cntM_cons, List.getD_cons_succ, Int.add_assoc]

/-- Between the marks of two elements: the first j are marked. -/
def MidM (m : Nat) (k : Int) (L M : List KD) (j : Nat) : Prop := M.length = L.length ∧ (∀ i, i < j → M.getD i kd0 = (relM m k L).getD i kd0) ∧ (∀ i, j ≤ i → i < L.length → M.getD i kd0 = L.getD i kd0)
theorem MidM.start (m : Nat) (k : Int) (L : List KD) : MidM m k L L 0 := ⟨rfl, fun _ h => absurd h (Nat.not_lt_zero _), fun _ _ _ => rfl⟩
theorem kd_getD_set {L : List KD} {j : Nat} (hj : j < L.length) (x : KD) (i : Nat) : (L.set j x).getD i kd0 = if i = j then x else L.getD i kd0 := by
  rw [List.getD_eq_getElem?_getD, List.getElem?_set]
  by_cases e : j = i
  · subst e; simp [hj]
  · rw [if_neg e, if_neg (fun q => e q.symm), List.getD_eq_getElem?_getD]
theorem MidM.step {m : Nat} {k : Int} {L M : List KD} {j : Nat} (h : MidM m k L M j) (hj : j < L.length) : MidM m k L (M.set j (relK m (k + cntM m (L.take j)) (L.getD j kd0))) (j + 1) := by
  obtain ⟨h0, h1, h2⟩ := h
  refine ⟨by simp [h0], fun i hi => ?_, fun i hi hl => ?_⟩
  · rw [kd_getD_set (by rw [h0]; exact hj)]
    by_cases e : i = j
    · subst e; rw [if_pos rfl, relM_get m L k i hj]
    · rw [if_neg e]; exact h1 i (by omega)
  · rw [kd_getD_set (by rw [h0]; exact hj), if_neg (by omega)]
    exact h2 i (by omega) hl
theorem MidM.all {m : Nat} {k : Int} {L M : List KD} (h : MidM m k L M L.length) : M = relM m k L := by
  obtain ⟨h0, h1, _⟩ := h
  apply List.ext_getElem?
  intro i
  by_cases hi : i < L.length
  · have := h1 i hi
    rw [List.getD_eq_getElem?_getD, List.getD_eq_getElem?_getD, List.getElem?_eq_getElem (by rw [h0]; exact hi), List.getElem?_eq_getElem (by rw [relM_length]; exact hi)] at this
    rw [List.getElem?_eq_getElem (by rw [h0]; exact hi), List.getElem?_eq_getElem (by rw [relM_length]; exact hi)]
    simpa using this
  · rw [List.getElem?_eq_none (by omega), List.getElem?_eq_none (by rw [relM_length]; omega)]

/-- A store of one number. -/
theorem OwM.setNum {e : TypeId} {sz m : Nat} {kn : Bool} {w : World} {F : Nat → Prop} {v : Value} {L : List KD} {xs : List Value} {us : Nat → Value} {g j t : Nat} (h : OwM e sz m kn w F v L xs us) (hm : m ≤ sz) (hm' : kn = true → m < sz)
    (hg : v.ownBlock = some g) (hj : j < L.length) (ht : t < m) (z : Int) :
    OwM e sz m kn (w.setCell ⟨g, j * sz + t, none⟩ (.int .i64 z)) F v (L.set j ((L.getD j kd0).1.set t z, (L.getD j kd0).2)) (xs.set (j * sz + t) (.int .i64 z)) us := by
  have hxl : xs.length = L.length * sz := h.row.1
  have hpos : j * sz + t < xs.length := by rw [hxl]; exact flat_lt (by omega) hj
  have hlen := h.fil.len j hj
  refine ⟨?_, h.inF, ?_⟩
  · rw [List.length_set]
    refine ⟨by rw [List.length_set]; exact hxl, ?_⟩
    rcases h.row.2 with ⟨rfl, _⟩ | ⟨g', cap, cur, rfl, hbg, hgg, hnc, hcm, hsz, htk⟩
    · cases hg
    · cases hg
      refine .inr ⟨g', cap, cur.setIfInBounds (j * sz + t) (.int .i64 z), rfl, hbg, ?_, hnc, hcm, by simpa using hsz, ?_⟩
      · simp only [World.setCell, Array.getElem?_modify, hgg]
        simp
      · rw [Array.toList_setIfInBounds, List.take_set, htk]
  · rw [List.length_set]
    refine ⟨fun i hi => ?_, fun i hi s hs => ?_, fun hk i hi => ?_, fun hk i hi => ?_, h.fil.dis⟩
    · rw [kd_getD_set hj]
      split
      · simp only [List.length_set]; exact hlen
      · exact h.fil.len i hi
    · rw [kd_getD_set hj]
      by_cases q : i = j
      · subst q
        rw [if_pos rfl]
        by_cases q' : s = t
        · subst q'
          rw [List.getElem?_set_self hpos]
          rw [List.getD_eq_getElem?_getD, List.getElem?_set_self (by rw [hlen]; exact ht)]; rfl
        · rw [List.getElem?_set_ne (by omega), h.fil.num i hi s hs]
          show _ = some (Value.int IntKind.i64 (((L.getD i kd0).1.set t z).getD s 0))
          rw [List.getD_eq_getElem?_getD (l := (L.getD i kd0).1.set t z), List.getElem?_set_ne (fun x => q' x.symm), ← List.getD_eq_getElem?_getD]
      · rw [if_neg q, List.getElem?_set_ne (flat_ne (by omega) (by omega) (fun x => q x.symm))]
        exact h.fil.num i hi s hs
    · obtain ⟨h1, h2, h3⟩ := h.fil.kin hk i hi
      have := hm' hk
      refine ⟨?_, ?_, h3⟩
      · by_cases q : i = j
        · subst q; rw [List.getElem?_set_ne (by omega)]; exact h1
        · rw [List.getElem?_set_ne (flat_ne (by omega) (by omega) (fun x => q x.symm))]; exact h1
      · rw [kd_getD_set hj]
        have h4 : Own (w.setCell ⟨g, j * sz + t, none⟩ (.int .i64 z)) 0 (us i) (L.getD i kd0).2 := h2.agree fun b hb => Below.heap_setCell _ _ _ _ (fun q => (h3 b hb).2 (by rw [hg, q]))
        split
        · next q => subst q; exact h4
        · exact h4
    · rw [kd_getD_set hj]
      split
      · next q => subst q; exact h.fil.non hk i hj
      · exact h.fil.non hk i hi
/-- A call that turns one element's kin in place. -/
theorem OwM.setKin {e : TypeId} {sz m : Nat} {w w' : World} {F : Nat → Prop} {v : Value} {L : List KD} {xs : List Value} {us : Nat → Value} {j : Nat} (h : OwM e sz m true w F v L xs us)
    (hj : j < L.length) {l : List (Int × Int)} (ho : Own w' 0 (us j) l) (hg : w.grownBy w' (us j).ownBlock) :
    OwM e sz m true w' F v (L.set j ((L.getD j kd0).1, l)) xs us := by
  have hne : ∀ b, v.ownBlock = some b → w'.heap[b]? = w.heap[b]? := fun b hb => hg.block b (World.ownsRow.lt h.row b hb).2 (fun q => ((h.fil.kin rfl j hj).2.2 b q.symm).2 hb)
  refine ⟨by rw [List.length_set]; exact row_agree h.row hne, h.inF, ?_⟩
  rw [List.length_set]
  refine ⟨fun i hi => ?_, fun i hi s hs => ?_, fun hk i hi => ?_, fun hk => (by cases hk), h.fil.dis⟩
  · rw [kd_getD_set hj]
    split
    · next q => subst q; exact h.fil.len i hi
    · exact h.fil.len i hi
  · rw [kd_getD_set hj]
    split
    · next q => subst q; exact h.fil.num i hi s hs
    · exact h.fil.num i hi s hs
  · obtain ⟨h1, h2, h3⟩ := h.fil.kin rfl i hi
    refine ⟨h1, ?_, h3⟩
    rw [kd_getD_set hj]
    split
    · next q => subst q; exact ho
    · next q => exact h2.agree fun b hb => hg.block b (h2.block b hb).2 (fun r => h.fil.dis rfl i j hi hj q b hb r.symm)
end Go.Proofs.YtkmhnjgncnoddaaGreat

/- Part: Rows of numbers: elements by how many numbers they have. Written by a program (gk.py). -/
namespace Go.Proofs.YtkmhnjgncnoddaaGreat
open Go.RowKit

theorem heap_set_ne {w w0 : World} {b g j : Nat} {x : Value} (h : b ≠ g) (h0 : w.heap[b]? = w0.heap[b]?) : (w.setCell ⟨g, j, none⟩ x).heap[b]? = w0.heap[b]? := (Below.heap_setCell w ⟨g, j, none⟩ x b h).trans h0
theorem row_mono0 {w : World} {B : Nat} {e : TypeId} {size : Nat} {v : Value} {n : Nat} {xs : List Value} (h : w.ownsRow B e size v n xs) : w.ownsRow 0 e size v n xs := by
  refine ⟨h.1, ?_⟩
  rcases h.2 with hn | ⟨g, cap, cur, rfl, hbg, rest⟩
  · exact .inl hn
  · exact .inr ⟨g, cap, cur, rfl, Nat.zero_le _, rest⟩
theorem row_put1 {w : World} {B : Nat} {e : TypeId} {size : Nat} {g n cap : Nat} {xs : List Value} (h : w.ownsRow B e size (.slice (some ⟨g, 0, none⟩) n cap) n xs) (j : Nat) (a : Value) :
    (w.setCell ⟨g, j, none⟩ a).ownsRow B e size (.slice (some ⟨g, 0, none⟩) n cap) n (xs.set j a) := (h.stored j a).1
theorem atK_1k {w : World} {b p : Nat} {x : KD} (h : AtK 1 true w b p x) : ∃ a0 l u, x = ([a0], l) ∧ w.cell? ⟨b, p, none⟩ = some (.int .i64 a0) ∧ w.cell? ⟨b, p + 1, none⟩ = some u ∧ Rd w u l := by
  obtain ⟨xs, l⟩ := x
  have hl := h.len
  match xs, hl, h with
  | [a0], _, h =>
    obtain ⟨u, h1, h2⟩ := h.kin rfl
    exact ⟨a0, l, u, rfl, h.num 0 (by decide), h1, h2⟩
theorem kd_1k {x : KD} (h : x.1.length = 1) : ∃ a0 l, x = ([a0], l) := by
  obtain ⟨xs, l⟩ := x
  match xs, h with
  | [a0], _ => exact ⟨a0, l, rfl⟩
theorem relK_1k (q : Int) (a0 : Int) (l : List (Int × Int)) : relK 1 q ([a0], l) = ([q], markL (q + 1) l.length) := by
  have e : (List.range 1).map (fun j : Nat => q + (j : Int)) = [q] := by simp [List.range, List.range.loop]
  simp only [relK, e]
  rw [show q + ((1 : Nat) : Int) = q + 1 from by omega]
theorem OwM.mark_1k {e : TypeId} {w : World} {F : Nat → Prop} {v : Value} {M : List KD} {xs : List Value} {us : Nat → Value} {g j : Nat} {a0 : Int} {l : List (Int × Int)} (h : OwM e 2 1 true w F v M xs us) (hj : j < M.length) (hx : M.getD j kd0 = ([a0], l)) (hg : v.ownBlock = some g) (q : Int) :
    ∃ xs', OwM e 2 1 true (w.setCell ⟨g, j * 2, none⟩ (.int .i64 (q))) F v (M.set j ([q], l)) xs' us := by
  have h0 := OwM.setNum (t := 0) h (by decide) (by decide) hg (by simpa using hj) (by decide) (q)
  rw [hx] at h0
  simp only [List.set_cons_zero] at h0
  exact ⟨_, h0⟩
theorem atK_2k {w : World} {b p : Nat} {x : KD} (h : AtK 2 true w b p x) : ∃ a0 a1 l u, x = ([a0, a1], l) ∧ w.cell? ⟨b, p, none⟩ = some (.int .i64 a0) ∧ w.cell? ⟨b, p + 1, none⟩ = some (.int .i64 a1) ∧ w.cell? ⟨b, p + 2, none⟩ = some u ∧ Rd w u l := by
  obtain ⟨xs, l⟩ := x
  have hl := h.len
  match xs, hl, h with
  | [a0, a1], _, h =>
    obtain ⟨u, h1, h2⟩ := h.kin rfl
    exact ⟨a0, a1, l, u, rfl, h.num 0 (by decide), h.num 1 (by decide), h1, h2⟩
theorem kd_2k {x : KD} (h : x.1.length = 2) : ∃ a0 a1 l, x = ([a0, a1], l) := by
  obtain ⟨xs, l⟩ := x
  match xs, h with
  | [a0, a1], _ => exact ⟨a0, a1, l, rfl⟩
theorem relK_2k (q : Int) (a0 a1 : Int) (l : List (Int × Int)) : relK 2 q ([a0, a1], l) = ([q, q + 1], markL (q + 1 + 1) l.length) := by
  have e : (List.range 2).map (fun j : Nat => q + (j : Int)) = [q, q + 1] := by simp [List.range, List.range.loop]
  simp only [relK, e]
  rw [show q + ((2 : Nat) : Int) = q + 1 + 1 from by omega]
theorem OwM.mark_2k {e : TypeId} {w : World} {F : Nat → Prop} {v : Value} {M : List KD} {xs : List Value} {us : Nat → Value} {g j : Nat} {a0 a1 : Int} {l : List (Int × Int)} (h : OwM e 3 2 true w F v M xs us) (hj : j < M.length) (hx : M.getD j kd0 = ([a0, a1], l)) (hg : v.ownBlock = some g) (q : Int) :
    ∃ xs', OwM e 3 2 true ((w.setCell ⟨g, j * 3, none⟩ (.int .i64 (q))).setCell ⟨g, j * 3 + 1, none⟩ (.int .i64 (q + 1))) F v (M.set j ([q, q + 1], l)) xs' us := by
  have h0 := OwM.setNum (t := 0) h (by decide) (by decide) hg (by simpa using hj) (by decide) (q)
  rw [hx] at h0
  simp only [List.set_cons_zero] at h0
  have h1 := OwM.setNum (t := 1) h0 (by decide) (by decide) hg (by simpa using hj) (by decide) (q + 1)
  rw [kd_getD_set hj, if_pos rfl] at h1
  simp only [List.set_cons_zero, List.set_cons_succ, List.set_set] at h1
  exact ⟨_, h1⟩
theorem atK_3k {w : World} {b p : Nat} {x : KD} (h : AtK 3 true w b p x) : ∃ a0 a1 a2 l u, x = ([a0, a1, a2], l) ∧ w.cell? ⟨b, p, none⟩ = some (.int .i64 a0) ∧ w.cell? ⟨b, p + 1, none⟩ = some (.int .i64 a1) ∧ w.cell? ⟨b, p + 2, none⟩ = some (.int .i64 a2) ∧ w.cell? ⟨b, p + 3, none⟩ = some u ∧ Rd w u l := by
  obtain ⟨xs, l⟩ := x
  have hl := h.len
  match xs, hl, h with
  | [a0, a1, a2], _, h =>
    obtain ⟨u, h1, h2⟩ := h.kin rfl
    exact ⟨a0, a1, a2, l, u, rfl, h.num 0 (by decide), h.num 1 (by decide), h.num 2 (by decide), h1, h2⟩
theorem kd_3k {x : KD} (h : x.1.length = 3) : ∃ a0 a1 a2 l, x = ([a0, a1, a2], l) := by
  obtain ⟨xs, l⟩ := x
  match xs, h with
  | [a0, a1, a2], _ => exact ⟨a0, a1, a2, l, rfl⟩
theorem relK_3k (q : Int) (a0 a1 a2 : Int) (l : List (Int × Int)) : relK 3 q ([a0, a1, a2], l) = ([q, q + 1, q + 1 + 1], markL (q + 1 + 1 + 1) l.length) := by
  have e : (List.range 3).map (fun j : Nat => q + (j : Int)) = [q, q + 1, q + 1 + 1] := by simp [List.range, List.range.loop] <;> omega
  simp only [relK, e]
  rw [show q + ((3 : Nat) : Int) = q + 1 + 1 + 1 from by omega]
theorem OwM.mark_3k {e : TypeId} {w : World} {F : Nat → Prop} {v : Value} {M : List KD} {xs : List Value} {us : Nat → Value} {g j : Nat} {a0 a1 a2 : Int} {l : List (Int × Int)} (h : OwM e 4 3 true w F v M xs us) (hj : j < M.length) (hx : M.getD j kd0 = ([a0, a1, a2], l)) (hg : v.ownBlock = some g) (q : Int) :
    ∃ xs', OwM e 4 3 true (((w.setCell ⟨g, j * 4, none⟩ (.int .i64 (q))).setCell ⟨g, j * 4 + 1, none⟩ (.int .i64 (q + 1))).setCell ⟨g, j * 4 + 2, none⟩ (.int .i64 (q + 1 + 1))) F v (M.set j ([q, q + 1, q + 1 + 1], l)) xs' us := by
  have h0 := OwM.setNum (t := 0) h (by decide) (by decide) hg (by simpa using hj) (by decide) (q)
  rw [hx] at h0
  simp only [List.set_cons_zero] at h0
  have h1 := OwM.setNum (t := 1) h0 (by decide) (by decide) hg (by simpa using hj) (by decide) (q + 1)
  rw [kd_getD_set hj, if_pos rfl] at h1
  simp only [List.set_cons_zero, List.set_cons_succ, List.set_set] at h1
  have h2 := OwM.setNum (t := 2) h1 (by decide) (by decide) hg (by simpa using hj) (by decide) (q + 1 + 1)
  rw [kd_getD_set hj, if_pos rfl] at h2
  simp only [List.set_cons_zero, List.set_cons_succ, List.set_set] at h2
  exact ⟨_, h2⟩
theorem atK_6n {w : World} {b p : Nat} {x : KD} (h : AtK 6 false w b p x) : ∃ a0 a1 a2 a3 a4 a5, x = ([a0, a1, a2, a3, a4, a5], []) ∧ w.cell? ⟨b, p, none⟩ = some (.int .i64 a0) ∧ w.cell? ⟨b, p + 1, none⟩ = some (.int .i64 a1) ∧ w.cell? ⟨b, p + 2, none⟩ = some (.int .i64 a2) ∧ w.cell? ⟨b, p + 3, none⟩ = some (.int .i64 a3) ∧ w.cell? ⟨b, p + 4, none⟩ = some (.int .i64 a4) ∧ w.cell? ⟨b, p + 5, none⟩ = some (.int .i64 a5) := by
  obtain ⟨xs, l⟩ := x
  have hl := h.len
  match xs, hl, h with
  | [a0, a1, a2, a3, a4, a5], _, h =>
    have hz := h.non rfl
    simp only at hz
    subst hz
    exact ⟨a0, a1, a2, a3, a4, a5, rfl, h.num 0 (by decide), h.num 1 (by decide), h.num 2 (by decide), h.num 3 (by decide), h.num 4 (by decide), h.num 5 (by decide)⟩
theorem kd_6n {x : KD} (h : x.1.length = 6) (hz : x.2 = []) : ∃ a0 a1 a2 a3 a4 a5, x = ([a0, a1, a2, a3, a4, a5], []) := by
  obtain ⟨xs, l⟩ := x
  simp only at hz
  subst hz
  match xs, h with
  | [a0, a1, a2, a3, a4, a5], _ => exact ⟨a0, a1, a2, a3, a4, a5, rfl⟩
theorem relK_6n (q : Int) (a0 a1 a2 a3 a4 a5 : Int) : relK 6 q ([a0, a1, a2, a3, a4, a5], []) = ([q, q + 1, q + 1 + 1, q + 1 + 1 + 1, q + 1 + 1 + 1 + 1, q + 1 + 1 + 1 + 1 + 1], []) := by
  have e : (List.range 6).map (fun j : Nat => q + (j : Int)) = [q, q + 1, q + 1 + 1, q + 1 + 1 + 1, q + 1 + 1 + 1 + 1, q + 1 + 1 + 1 + 1 + 1] := by simp [List.range, List.range.loop] <;> omega
  simp only [relK, e]
  simp [markL]
theorem OwM.mark_6n {e : TypeId} {w : World} {F : Nat → Prop} {v : Value} {M : List KD} {xs : List Value} {us : Nat → Value} {g j : Nat} {a0 a1 a2 a3 a4 a5 : Int} (h : OwM e 6 6 false w F v M xs us) (hj : j < M.length) (hx : M.getD j kd0 = ([a0, a1, a2, a3, a4, a5], [])) (hg : v.ownBlock = some g) (q : Int) :
    ∃ xs', OwM e 6 6 false ((((((w.setCell ⟨g, j * 6, none⟩ (.int .i64 (q))).setCell ⟨g, j * 6 + 1, none⟩ (.int .i64 (q + 1))).setCell ⟨g, j * 6 + 2, none⟩ (.int .i64 (q + 1 + 1))).setCell ⟨g, j * 6 + 3, none⟩ (.int .i64 (q + 1 + 1 + 1))).setCell ⟨g, j * 6 + 4, none⟩ (.int .i64 (q + 1 + 1 + 1 + 1))).setCell ⟨g, j * 6 + 5, none⟩ (.int .i64 (q + 1 + 1 + 1 + 1 + 1))) F v (M.set j ([q, q + 1, q + 1 + 1, q + 1 + 1 + 1, q + 1 + 1 + 1 + 1, q + 1 + 1 + 1 + 1 + 1], [])) xs' us := by
  have h0 := OwM.setNum (t := 0) h (by decide) (by decide) hg (by simpa using hj) (by decide) (q)
  rw [hx] at h0
  simp only [List.set_cons_zero] at h0
  have h1 := OwM.setNum (t := 1) h0 (by decide) (by decide) hg (by simpa using hj) (by decide) (q + 1)
  rw [kd_getD_set hj, if_pos rfl] at h1
  simp only [List.set_cons_zero, List.set_cons_succ, List.set_set] at h1
  have h2 := OwM.setNum (t := 2) h1 (by decide) (by decide) hg (by simpa using hj) (by decide) (q + 1 + 1)
  rw [kd_getD_set hj, if_pos rfl] at h2
  simp only [List.set_cons_zero, List.set_cons_succ, List.set_set] at h2
  have h3 := OwM.setNum (t := 3) h2 (by decide) (by decide) hg (by simpa using hj) (by decide) (q + 1 + 1 + 1)
  rw [kd_getD_set hj, if_pos rfl] at h3
  simp only [List.set_cons_zero, List.set_cons_succ, List.set_set] at h3
  have h4 := OwM.setNum (t := 4) h3 (by decide) (by decide) hg (by simpa using hj) (by decide) (q + 1 + 1 + 1 + 1)
  rw [kd_getD_set hj, if_pos rfl] at h4
  simp only [List.set_cons_zero, List.set_cons_succ, List.set_set] at h4
  have h5 := OwM.setNum (t := 5) h4 (by decide) (by decide) hg (by simpa using hj) (by decide) (q + 1 + 1 + 1 + 1 + 1)
  rw [kd_getD_set hj, if_pos rfl] at h5
  simp only [List.set_cons_zero, List.set_cons_succ, List.set_set] at h5
  exact ⟨_, h5⟩
theorem atK_5n {w : World} {b p : Nat} {x : KD} (h : AtK 5 false w b p x) : ∃ a0 a1 a2 a3 a4, x = ([a0, a1, a2, a3, a4], []) ∧ w.cell? ⟨b, p, none⟩ = some (.int .i64 a0) ∧ w.cell? ⟨b, p + 1, none⟩ = some (.int .i64 a1) ∧ w.cell? ⟨b, p + 2, none⟩ = some (.int .i64 a2) ∧ w.cell? ⟨b, p + 3, none⟩ = some (.int .i64 a3) ∧ w.cell? ⟨b, p + 4, none⟩ = some (.int .i64 a4) := by
  obtain ⟨xs, l⟩ := x
  have hl := h.len
  match xs, hl, h with
  | [a0, a1, a2, a3, a4], _, h =>
    have hz := h.non rfl
    simp only at hz
    subst hz
    exact ⟨a0, a1, a2, a3, a4, rfl, h.num 0 (by decide), h.num 1 (by decide), h.num 2 (by decide), h.num 3 (by decide), h.num 4 (by decide)⟩
theorem kd_5n {x : KD} (h : x.1.length = 5) (hz : x.2 = []) : ∃ a0 a1 a2 a3 a4, x = ([a0, a1, a2, a3, a4], []) := by
  obtain ⟨xs, l⟩ := x
  simp only at hz
  subst hz
  match xs, h with
  | [a0, a1, a2, a3, a4], _ => exact ⟨a0, a1, a2, a3, a4, rfl⟩
theorem relK_5n (q : Int) (a0 a1 a2 a3 a4 : Int) : relK 5 q ([a0, a1, a2, a3, a4], []) = ([q, q + 1, q + 1 + 1, q + 1 + 1 + 1, q + 1 + 1 + 1 + 1], []) := by
  have e : (List.range 5).map (fun j : Nat => q + (j : Int)) = [q, q + 1, q + 1 + 1, q + 1 + 1 + 1, q + 1 + 1 + 1 + 1] := by simp [List.range, List.range.loop] <;> omega
  simp only [relK, e]
  simp [markL]
theorem OwM.mark_5n {e : TypeId} {w : World} {F : Nat → Prop} {v : Value} {M : List KD} {xs : List Value} {us : Nat → Value} {g j : Nat} {a0 a1 a2 a3 a4 : Int} (h : OwM e 5 5 false w F v M xs us) (hj : j < M.length) (hx : M.getD j kd0 = ([a0, a1, a2, a3, a4], [])) (hg : v.ownBlock = some g) (q : Int) :
    ∃ xs', OwM e 5 5 false (((((w.setCell ⟨g, j * 5, none⟩ (.int .i64 (q))).setCell ⟨g, j * 5 + 1, none⟩ (.int .i64 (q + 1))).setCell ⟨g, j * 5 + 2, none⟩ (.int .i64 (q + 1 + 1))).setCell ⟨g, j * 5 + 3, none⟩ (.int .i64 (q + 1 + 1 + 1))).setCell ⟨g, j * 5 + 4, none⟩ (.int .i64 (q + 1 + 1 + 1 + 1))) F v (M.set j ([q, q + 1, q + 1 + 1, q + 1 + 1 + 1, q + 1 + 1 + 1 + 1], [])) xs' us := by
  have h0 := OwM.setNum (t := 0) h (by decide) (by decide) hg (by simpa using hj) (by decide) (q)
  rw [hx] at h0
  simp only [List.set_cons_zero] at h0
  have h1 := OwM.setNum (t := 1) h0 (by decide) (by decide) hg (by simpa using hj) (by decide) (q + 1)
  rw [kd_getD_set hj, if_pos rfl] at h1
  simp only [List.set_cons_zero, List.set_cons_succ, List.set_set] at h1
  have h2 := OwM.setNum (t := 2) h1 (by decide) (by decide) hg (by simpa using hj) (by decide) (q + 1 + 1)
  rw [kd_getD_set hj, if_pos rfl] at h2
  simp only [List.set_cons_zero, List.set_cons_succ, List.set_set] at h2
  have h3 := OwM.setNum (t := 3) h2 (by decide) (by decide) hg (by simpa using hj) (by decide) (q + 1 + 1 + 1)
  rw [kd_getD_set hj, if_pos rfl] at h3
  simp only [List.set_cons_zero, List.set_cons_succ, List.set_set] at h3
  have h4 := OwM.setNum (t := 4) h3 (by decide) (by decide) hg (by simpa using hj) (by decide) (q + 1 + 1 + 1 + 1)
  rw [kd_getD_set hj, if_pos rfl] at h4
  simp only [List.set_cons_zero, List.set_cons_succ, List.set_set] at h4
  exact ⟨_, h4⟩
theorem atK_3n {w : World} {b p : Nat} {x : KD} (h : AtK 3 false w b p x) : ∃ a0 a1 a2, x = ([a0, a1, a2], []) ∧ w.cell? ⟨b, p, none⟩ = some (.int .i64 a0) ∧ w.cell? ⟨b, p + 1, none⟩ = some (.int .i64 a1) ∧ w.cell? ⟨b, p + 2, none⟩ = some (.int .i64 a2) := by
  obtain ⟨xs, l⟩ := x
  have hl := h.len
  match xs, hl, h with
  | [a0, a1, a2], _, h =>
    have hz := h.non rfl
    simp only at hz
    subst hz
    exact ⟨a0, a1, a2, rfl, h.num 0 (by decide), h.num 1 (by decide), h.num 2 (by decide)⟩
theorem kd_3n {x : KD} (h : x.1.length = 3) (hz : x.2 = []) : ∃ a0 a1 a2, x = ([a0, a1, a2], []) := by
  obtain ⟨xs, l⟩ := x
  simp only at hz
  subst hz
  match xs, h with
  | [a0, a1, a2], _ => exact ⟨a0, a1, a2, rfl⟩
theorem relK_3n (q : Int) (a0 a1 a2 : Int) : relK 3 q ([a0, a1, a2], []) = ([q, q + 1, q + 1 + 1], []) := by
  have e : (List.range 3).map (fun j : Nat => q + (j : Int)) = [q, q + 1, q + 1 + 1] := by simp [List.range, List.range.loop] <;> omega
  simp only [relK, e]
  simp [markL]
theorem OwM.mark_3n {e : TypeId} {w : World} {F : Nat → Prop} {v : Value} {M : List KD} {xs : List Value} {us : Nat → Value} {g j : Nat} {a0 a1 a2 : Int} (h : OwM e 3 3 false w F v M xs us) (hj : j < M.length) (hx : M.getD j kd0 = ([a0, a1, a2], [])) (hg : v.ownBlock = some g) (q : Int) :
    ∃ xs', OwM e 3 3 false (((w.setCell ⟨g, j * 3, none⟩ (.int .i64 (q))).setCell ⟨g, j * 3 + 1, none⟩ (.int .i64 (q + 1))).setCell ⟨g, j * 3 + 2, none⟩ (.int .i64 (q + 1 + 1))) F v (M.set j ([q, q + 1, q + 1 + 1], [])) xs' us := by
  have h0 := OwM.setNum (t := 0) h (by decide) (by decide) hg (by simpa using hj) (by decide) (q)
  rw [hx] at h0
  simp only [List.set_cons_zero] at h0
  have h1 := OwM.setNum (t := 1) h0 (by decide) (by decide) hg (by simpa using hj) (by decide) (q + 1)
  rw [kd_getD_set hj, if_pos rfl] at h1
  simp only [List.set_cons_zero, List.set_cons_succ, List.set_set] at h1
  have h2 := OwM.setNum (t := 2) h1 (by decide) (by decide) hg (by simpa using hj) (by decide) (q + 1 + 1)
  rw [kd_getD_set hj, if_pos rfl] at h2
  simp only [List.set_cons_zero, List.set_cons_succ, List.set_set] at h2
  exact ⟨_, h2⟩
theorem atK_1n {w : World} {b p : Nat} {x : KD} (h : AtK 1 false w b p x) : ∃ a0, x = ([a0], []) ∧ w.cell? ⟨b, p, none⟩ = some (.int .i64 a0) := by
  obtain ⟨xs, l⟩ := x
  have hl := h.len
  match xs, hl, h with
  | [a0], _, h =>
    have hz := h.non rfl
    simp only at hz
    subst hz
    exact ⟨a0, rfl, h.num 0 (by decide)⟩
theorem kd_1n {x : KD} (h : x.1.length = 1) (hz : x.2 = []) : ∃ a0, x = ([a0], []) := by
  obtain ⟨xs, l⟩ := x
  simp only at hz
  subst hz
  match xs, h with
  | [a0], _ => exact ⟨a0, rfl⟩
theorem relK_1n (q : Int) (a0 : Int) : relK 1 q ([a0], []) = ([q], []) := by
  have e : (List.range 1).map (fun j : Nat => q + (j : Int)) = [q] := by simp [List.range, List.range.loop]
  simp only [relK, e]
  simp [markL]
theorem OwM.mark_1n {e : TypeId} {w : World} {F : Nat → Prop} {v : Value} {M : List KD} {xs : List Value} {us : Nat → Value} {g j : Nat} {a0 : Int} (h : OwM e 1 1 false w F v M xs us) (hj : j < M.length) (hx : M.getD j kd0 = ([a0], [])) (hg : v.ownBlock = some g) (q : Int) :
    ∃ xs', OwM e 1 1 false (w.setCell ⟨g, j * 1, none⟩ (.int .i64 (q))) F v (M.set j ([q], [])) xs' us := by
  have h0 := OwM.setNum (t := 0) h (by decide) (by decide) hg (by simpa using hj) (by decide) (q)
  rw [hx] at h0
  simp only [List.set_cons_zero] at h0
  exact ⟨_, h0⟩
end Go.Proofs.YtkmhnjgncnoddaaGreat

/- Part: The law's own helpers of Val and of lists of such: contracts. Written by a program (gk.py). -/
namespace Go.Proofs.YtkmhnjgncnoddaaGreat
open Go.RowKit
attribute [local go_sem ↓] Go.wp_at_zero Go.wp_at_succ

theorem eqVal_two' (a0 b0 : Int) (la lb : List (Int × Int)) (va vb : Value) (w : World) (ha : Rd w va la) (hb : Rd w vb lb) :
    Calls Tryz.prog 112 #[.agg #[.int .i64 a0, va], .agg #[.int .i64 b0, vb]] w fun e w' => e = .returned (.bool (eqK ([a0], la) ([b0], lb))) ∧ Below w.heap.size w w' :=
  (eqVal_any _ _ _ _ _ _ _ ha hb).mono fun e w' ⟨he, hb⟩ => ⟨by rw [he]; simp [eqK, eqL, Bool.decide_and, BEq.beq], hb⟩

set_option maxRecDepth 100000 in
set_option maxHeartbeats 2000000 in
theorem eqValS_kd (va vb : Value) (la lb : List KD) (w : World) (ha : RdM 2 1 true w va la) (hb : RdM 2 1 true w vb lb) :
    Calls Tryz.prog 53 #[va, vb] w fun e w' => e = .returned (.bool (eqM la lb)) ∧ Below w.heap.size w w' := by
  obtain ⟨aa, ca, rfl, hla, hca⟩ := ha
  obtain ⟨ab, cb, rfl, hlb, hcb⟩ := hb
  unfold maxLen at hla hlb
  by_cases hne : ((la.length : Int) != (lb.length : Int)) = true
  · have : la ≠ lb := fun h => by simp [h] at hne
    go_enter Tryz.func53, Tryz.ntmps53
    go_wp2
    go_ret
    exact ⟨by simp [eqM_no this], Below.refl _ _⟩
  · have hlen : la.length = lb.length := by simp at hne; omega
    have HL : Hid (la.length = lb.length) := hlen
    clear hlen
    go_enter Tryz.func53, Tryz.ntmps53
    go_wp2
    go_loopw [5] (fun i wr => ∃ k : Nat, k ≤ la.length ∧ i = .int .i64 k ∧ Hid (la.take k = lb.take k) ∧ Below w.heap.size w wr) (fun i _ => la.length - (intOf i).toNat)
    case atStart => exact ⟨0, Nat.zero_le _, rfl, rfl, Below.refl _ _⟩
    case round =>
      obtain ⟨k, hk, rfl, hpre, hbel⟩ := hrel
      by_cases hlt : k < la.length
      · obtain ⟨ba, oa, rfl, hba, hcca⟩ := hca (by omega)
        obtain ⟨bb, ob, rfl, hbb, hccb⟩ := hcb (by have := HL.out; omega)
        have hkb : (k : Int) < (lb.length : Int) := by have := HL.out; omega
        obtain ⟨p0, lx, ux, hx, c0, c1, hux⟩ := atK_1k ((hcca k hlt).later hba hbel)
        obtain ⟨t0, ly, uy, hy, d0, d1, huy⟩ := atK_1k ((hccb k (by have := HL.out; omega)).later hbb hbel)
        have hnext : Hid (la.getD k kd0 = lb.getD k kd0 → la.take (k + 1) = lb.take (k + 1)) := hid (fun h => take_more la lb kd0 k hlt (by have := HL.out; omega) hpre h)
        have hdiff : Hid (¬ la.getD k kd0 = lb.getD k kd0 → eqM la lb = false) := hid (fun h => eqM_no (fun e => h (by rw [e])))
        rw [hx, hy] at hnext hdiff
        have hsz := hbel.size
        clear hcca hccb hca hcb hx hy
        have HUA := hid hux
        have HUB := hid huy
        clear hux huy
        have r0 := cell_regrown c0
        have r1 := cell_regrown c1
        have s0 := cell_regrown d0
        have s1 := cell_regrown d1
        cases hxy : eqK ([p0], lx) ([t0], ly) with
        | true =>
          have hN := hid (hnext.out (eqK_iff.1 hxy))
          clear hnext hdiff
          have hcal := fun (W : World) (h1 : Rd W ux lx) (h2 : Rd W uy ly) => eqVal_two' p0 t0 lx ly ux uy W h1 h2
          rw [hxy] at hcal
          go_wp2_with fail
          refine wp_region_quiet_below (by kernel_rfl) (by kernel_rfl) ?_
          repeat (first | go_big_quiet_skip | (go_big_quiet_want; go_big_quiet_op; first | go_big_quiet_on | go_big_quiet_call (first | (go_at_call 112; exact Calls.regrown_of (hcal _ (HUA.out.later (below_regrown _ _ _)) (HUB.out.later (below_regrown _ _ _)))))))
          refine wpQuiet_nil ?_
          rintro wq ⟨pq, hwq⟩
          have hq : Below wr.heap.size wr wq := by rw [hwq]; exact below_regrown _ _ _
          clear hwq pq
          go_wp2
          go_roundw
          case rel => exact ⟨k + 1, by omega, by go_num, hN, hbel.trans (hq.mono hsz)⟩
          case measure => simp [intOf]; omega
        | false =>
          have hN := hid (hdiff.out (fun e => by rw [eqK_iff.2 e] at hxy; cases hxy))
          clear hnext hdiff
          have hcal := fun (W : World) (h1 : Rd W ux lx) (h2 : Rd W uy ly) => eqVal_two' p0 t0 lx ly ux uy W h1 h2
          rw [hxy] at hcal
          go_wp2_with fail
          refine wp_region_quiet_below (by kernel_rfl) (by kernel_rfl) ?_
          repeat (first | go_big_quiet_skip | (go_big_quiet_want; go_big_quiet_op; first | go_big_quiet_on | go_big_quiet_call (first | (go_at_call 112; exact Calls.regrown_of (hcal _ (HUA.out.later (below_regrown _ _ _)) (HUB.out.later (below_regrown _ _ _)))))))
          refine wpQuiet_nil ?_
          rintro wq ⟨pq, hwq⟩
          have hq : Below wr.heap.size wr wq := by rw [hwq]; exact below_regrown _ _ _
          clear hwq pq
          go_wp2
          go_ret
          exact ⟨by simp [hN.out], hbel.trans (hq.mono hsz)⟩
      · have hall : eqM la lb = true := eqM_yes (by have h1 := HL.out; have h2 := hpre.out; rwa [List.take_of_length_le (by omega), List.take_of_length_le (by omega)] at h2)
        go_wp2
        go_ret
        exact ⟨by simp [hall], hbel⟩

end Go.Proofs.YtkmhnjgncnoddaaGreat

/- Part: How much a list of elements weighs. -/
namespace Go.Proofs.YtkmhnjgncnoddaaGreat
open Go.RowKit
def bulkM (L : List KD) : Nat := (L.map fun x => x.2.length).sum
theorem bulkM_step (L : List KD) (k : Nat) (h : k < L.length) : bulkM (L.take (k + 1)) = bulkM (L.take k) + (L.getD k kd0).2.length := by
  rw [bulkM, bulkM, List.take_succ_eq_append_getElem h, List.map_append, List.sum_append, List.getD_eq_getElem?_getD, List.getElem?_eq_getElem h]
  simp only [List.map_cons, List.map_nil, List.sum_cons, List.sum_nil, Option.getD_some, Nat.add_zero]
theorem bulkM_take (L : List KD) (k : Nat) : bulkM (L.take k) ≤ bulkM L := by
  have h : bulkM L = bulkM (L.take k) + bulkM (L.drop k) := by
    rw [bulkM, bulkM, bulkM, ← List.sum_append, ← List.map_append, List.take_append_drop]
  omega
theorem bulkM_get (L : List KD) (k : Nat) (h : k < L.length) : (L.getD k kd0).2.length ≤ bulkM L := by
  have := bulkM_step L k h
  have := bulkM_take L (k + 1)
  omega
theorem sum_zero (l : List Nat) (h : ∀ x ∈ l, x = 0) : l.sum = 0 := by
  induction l with
  | nil => rfl
  | cons x r ih => rw [List.sum_cons, h x (by simp), ih (fun y hy => h y (by simp [hy]))]
theorem bulkM_none {sz m : Nat} {w : World} {v : Value} {L : List KD} (h : RdM sz m false w v L) : bulkM L = 0 := by
  obtain ⟨ao, cap, _, _, hc⟩ := h
  have : ∀ x ∈ L.map (fun x : KD => x.2.length), x = 0 := by
    intro x hx
    obtain ⟨y, hy, rfl⟩ := List.mem_map.1 hx
    obtain ⟨i, hi, rfl⟩ := List.mem_iff_getElem.1 hy
    obtain ⟨b, off, _, _, hcc⟩ := hc (by omega)
    have := (hcc i hi).non rfl
    simp [List.getD_eq_getElem?_getD, hi] at this
    simp [this]
  exact sum_zero _ this
/-- What sz of a struct answers. -/
def SzD (Ls : List (List KD)) (left : Int) (e : Ending) : Prop := (∃ r : Int, e = .returned (.int .i64 r) ∧ 0 ≤ r ∧ r ≤ left ∧ ∀ L ∈ Ls, L.length + bulkM L ≤ 1048576) ∨ e = .returned (.int .i64 (-1))
/-- What szTS answers. -/
def SzM (L : List KD) (left : Int) (e : Ending) : Prop := (e = .returned (.int .i64 (left - L.length - bulkM L)) ∧ 0 ≤ left - L.length - bulkM L) ∨ (e = .returned (.int .i64 (-1)) ∧ left - L.length - bulkM L < 0)
end Go.Proofs.YtkmhnjgncnoddaaGreat

/- Part: The law's own sz helpers of Val and of lists of such: contracts. Written by a program (gk.py). -/
namespace Go.Proofs.YtkmhnjgncnoddaaGreat
open Go.RowKit
attribute [local go_sem ↓] Go.wp_at_zero Go.wp_at_succ

set_option maxRecDepth 100000 in
set_option maxHeartbeats 2000000 in
theorem szValS_kd (v : Value) (L : List KD) (left : Int) (w : World) (h : RdM 2 1 true w v L) (h0 : 0 ≤ left) (h1 : left ≤ 1048576) :
    Calls Tryz.prog 51 #[v, .int .i64 left] w fun e w' => SzM L left e ∧ Below w.heap.size w w' := by
  obtain ⟨ao, cap, rfl, hl, hc⟩ := h
  unfold maxLen at hl
  by_cases hbig : left < (L.length : Int)
  · have HS : Hid (left - L.length - bulkM L < 0) := hid (by omega)
    go_enter Tryz.func51, Tryz.ntmps51
    go_wp2
    go_ret
    exact ⟨Or.inr ⟨by simp, HS.out⟩, Below.refl _ _⟩
  · go_enter Tryz.func51, Tryz.ntmps51
    go_wp2
    go_loopw [1, 5] (fun s i wr => ∃ (k : Nat) (r : Int), k ≤ L.length ∧ i = .int .i64 k ∧ s = .int .i64 r ∧ Hid (r = left - L.length - bulkM (L.take k)) ∧ 0 ≤ r ∧ r ≤ 1048576 ∧ Below w.heap.size w wr) (fun _ i _ => L.length - (intOf i).toNat)
    case atStart => exact ⟨0, left - L.length, Nat.zero_le _, rfl, by first | rfl | (simp; done), hid (by simp [bulkM]), by omega, by omega, Below.refl _ _⟩
    case round =>
      obtain ⟨k, r, hk, rfl, rfl, hr, hr0, hr1, hbel⟩ := hrel
      by_cases hlt : k < L.length
      · obtain ⟨b, o, rfl, hb, hcc⟩ := hc (by omega)
        obtain ⟨p0, lx, ux, hx, c0, c1, hux⟩ := atK_1k ((hcc k hlt).later hb hbel)
        have HU := hid hux
        have HB := hid (bulkM_step L k hlt)
        rw [hx] at HB
        have HT := hid (bulkM_take L (k + 1))
        have hsz := hbel.size
        clear hcc hc hux hx
        go_wp2_with fail
        refine (szVal_two p0 ux lx r _ HU.out hr0 hr1).mono ?_
        rintro e w2 ⟨⟨q, rfl, hq⟩, b2⟩
        have c2' := hbel.trans (b2.mono hsz)
        by_cases hneg : q < 0
        · have HS : Hid (left - L.length - bulkM L < 0) := hid (by
            have := hr.out; have := HB.out; have := HT.out
            rcases hq.out with ⟨_, h2⟩ | ⟨_, h2⟩ <;> omega)
          go_wp2
          go_ret
          exact ⟨Or.inr ⟨by simp, HS.out⟩, c2'⟩
        · have HQ : Hid (q = left - L.length - bulkM (L.take (k + 1))) := hid (by
            have := hr.out; have := HB.out
            rcases hq.out with ⟨h2, _⟩ | ⟨h2, _⟩ <;> omega)
          have hq1 : q ≤ 1048576 := by rcases hq.out with ⟨h2, _⟩ | ⟨h2, _⟩ <;> omega
          clear hq hr HB HT
          go_wp2
          go_roundw
          case rel => exact ⟨k + 1, q, by omega, by go_num, rfl, HQ, by omega, hq1, c2'⟩
          case measure => simp [intOf]; omega
      · obtain rfl : k = L.length := by omega
        have HQ : Hid (r = left - L.length - bulkM L) := hid (by have := hr.out; rwa [List.take_length] at this)
        clear hr
        go_wp2
        go_ret
        exact ⟨Or.inl ⟨by rw [← HQ.out]; simp, by rw [← HQ.out]; exact hr0⟩, hbel⟩

end Go.Proofs.YtkmhnjgncnoddaaGreat

/- Part: The law's own to helpers of Val and of lists of such: contracts. Written by a program (gk.py). -/
namespace Go.Proofs.YtkmhnjgncnoddaaGreat
open Go.RowKit
attribute [local go_sem ↓] Go.wp_at_zero Go.wp_at_succ

set_option maxRecDepth 100000 in
set_option maxHeartbeats 2000000 in
theorem toValS_own (v : Value) (L : List KD) (w : World) (h : RdM 2 1 true w v L) (hl : L.length ≤ 1048576) (hbk : ∀ i, i < L.length → (L.getD i kd0).2.length ≤ 1048576) :
    Calls Tryz.prog 52 #[v] w fun e w' => ∃ v', e = .returned v' ∧ OwnM 38 2 1 true w' (Span w.heap.size w'.heap.size) v' L ∧ Below w.heap.size w w' := by
  obtain ⟨ao, cap, rfl, _, hc⟩ := h
  obtain ⟨i0, hi, hz0, hz1, hz2⟩ := info_parts Tryz.info38
  have hby : i0.bytes * L.length ≤ 281474976710656 := by rw [hz2]; omega
  have hml : L.length ≤ maxLen := by unfold maxLen; omega
  have HBK := hid hbk
  clear hbk
  go_enter Tryz.func52, Tryz.ntmps52
  go_wp2_with (first | (at_make; refine wpList_make_full _ rfl (.tmp 6) (.tmp 6) 23 rfl w.heap.size 38 i0 _ 2 Tryz.underlying23 hi hz0 hz1 .i64 .i64 _ _ L.length rfl rfl rfl rfl hby hml (Nat.le_refl _) ?_; intro w1 hown hgrow))
  go_loopw [4] (fun i wr => ∃ (k : Nat) (xs : List Value) (us : Nat → Value), k ≤ L.length ∧ i = .int .i64 k ∧ Hid (FilM 2 1 true wr (Span (w.heap.size + 1) wr.heap.size) (some w.heap.size) xs us L k) ∧ Below w.heap.size w wr ∧
      wr.ownsRow w.heap.size 38 2 (.slice (some ⟨w.heap.size, 0, none⟩) L.length L.length) L.length xs) (fun i _ => L.length - (intOf i).toNat)
  case atStart => exact ⟨0, _, fun _ => .bool false, Nat.zero_le _, rfl, hid (FilM.zero _ _ _ _ _ _), (Below.refl _ _).grown hgrow (Nat.le_refl _) (by simp), hown⟩
  case round =>
    obtain ⟨k, xs, us, hk, rfl, hfil, hbel, hrow⟩ := hrel
    clear hown hgrow hby hi hz0 hz1 hz2
    by_cases hlt : k < L.length
    · obtain ⟨b, o, rfl, hb, hcc⟩ := hc (by omega)
      obtain ⟨p0, lx, ux, hx, c0, c1, hux⟩ := atK_1k ((hcc k hlt).later hb hbel)
      have hxl : xs.length = L.length * 2 := hrow.1
      have hgl := (hrow.lt w.heap.size rfl).2
      have HX := hid hx
      have HROW := hid hrow
      have hsz := hbel.size
      have HU := hid hux
      have hlen : lx.length ≤ 1048576 := by have := HBK.out k hlt; rw [hx] at this; exact this
      clear hux
      clear hcc hc hx
      go_wp2_with (first | (go_at_call 111; refine (toVal_any p0 ux lx _ HU.out hlen).mono ?_; rintro e w2 ⟨z, rfl, oz, hb2⟩; obtain ⟨zo, zc, hzv, _⟩ := oz.rd; subst hzv; have HOZ := hid oz; clear oz; have hrow2 := row_later hrow hb2; have HR2 := hid hrow2; have HB2 := hid hb2; have hz2 := hb2.size; obtain ⟨q0, hq0⟩ := row_cell hrow2 (k * 2) (by omega); obtain ⟨q1, hq1⟩ := row_cell hrow2 (k * 2 + 1) (by omega); have f0 := hrow2.frozenAt (k * 2); have f1 := hrow2.frozenAt (k * 2 + 1); clear hrow2 hrow hb2))
      go_roundw
      case rel =>
        have hsl : ∀ p, p < k * 2 → ((xs.set (k * 2) (.int .i64 p0)).set (k * 2 + 1) (.slice zo lx.length zc))[p]? = xs[p]? := fun p hp => by rw [List.getElem?_set_ne (by omega), List.getElem?_set_ne (by omega)]
        have hs0 : ((xs.set (k * 2) (.int .i64 p0)).set (k * 2 + 1) (.slice zo lx.length zc))[k * 2]? = some (.int .i64 p0) := by rw [List.getElem?_set_ne (by omega), List.getElem?_set_self (by first | omega | (simp only [List.length_set]; omega))]
        have hs1 : ((xs.set (k * 2) (.int .i64 p0)).set (k * 2 + 1) (.slice zo lx.length zc))[k * 2 + 1]? = some (.slice zo lx.length zc) := by rw [List.getElem?_set_self (by first | omega | (simp only [List.length_set]; omega))]
        refine ⟨k + 1, _, _, by omega, by go_num, hid (FilM.step hfil.out (.slice zo lx.length zc) (fun b _ hne hl => (heap_set_ne (j := k * 2 + 1) (x := (.slice zo lx.length zc)) (fun q => hne (by rw [q])) (heap_set_ne (j := k * 2) (x := (.int .i64 p0)) (fun q => hne (by rw [q])) (HB2.out.block b hl)))) (fun b hb hl => ⟨hb.1, by have := hb.2; simp only [World.setCell, Array.size_modify]; omega⟩) (by decide) (by decide) hsl (by rw [HX.out]; rfl) (by rw [HX.out]; intro j hj; match j, hj with | 0, _ => exact hs0) (fun _ => by rw [HX.out]; exact ⟨hs1, (Own.agree (Own.mono HOZ.out (Nat.zero_le _)) (fun b hb => (heap_set_ne (j := k * 2 + 1) (x := (.slice zo lx.length zc)) (fun q => Nat.lt_irrefl _ (Nat.lt_of_lt_of_le (q ▸ hgl) (HOZ.out.block b hb).1)) (heap_set_ne (j := k * 2) (x := (.int .i64 p0)) (fun q => Nat.lt_irrefl _ (Nat.lt_of_lt_of_le (q ▸ hgl) (HOZ.out.block b hb).1)) rfl)))), (fun b hb => by have h1 := (HOZ.out.block b hb).1; have h2 := (HOZ.out.block b hb).2; exact ⟨⟨by omega, by simp only [World.setCell, Array.size_modify]; exact h2⟩, fun q => by injection q with q; omega, h1⟩)⟩) (fun q => by cases q)), (((hbel.trans (HB2.out.mono hsz)).setCell (p := ⟨w.heap.size, k * 2, none⟩) (Nat.le_refl _) (.int .i64 p0)).setCell (p := ⟨w.heap.size, k * 2 + 1, none⟩) (Nat.le_refl _) (.slice zo lx.length zc)), (row_put1 (row_put1 HR2.out (k * 2) (.int .i64 p0)) (k * 2 + 1) (.slice zo lx.length zc))⟩
      case measure => simp [intOf]; omega
    · have hkl : k = L.length := by omega
      go_wp2
      go_ret
      subst hkl
      exact ⟨_, rfl, ⟨xs, us, row_mono0 hrow, fun g hg => by cases hg; exact ⟨Nat.le_refl _, (hrow.lt _ rfl).2⟩, hfil.out.agree (fun _ _ _ _ => rfl) (fun b hb _ => ⟨Nat.le_of_succ_le hb.1, hb.2⟩)⟩, hbel⟩
end Go.Proofs.YtkmhnjgncnoddaaGreat

/- Part: The law's own mark and held helpers of lists of Val: contracts. Written by a program (gk.py). -/
namespace Go.Proofs.YtkmhnjgncnoddaaGreat
open Go.RowKit
attribute [local go_sem ↓] Go.wp_at_zero Go.wp_at_succ

set_option maxRecDepth 100000 in
set_option maxHeartbeats 2000000 in
theorem markValS_any {ty : TypeId} (v : Value) (L : List KD) (k : Int) (F : Nat → Prop) (w : World) (h : OwnM ty 2 1 true w F v L) (hk : 0 ≤ k) (hk2 : k + cntM 1 L ≤ 1099511627776) :
    Calls Tryz.prog 54 #[v, .int .i64 k] w fun e w' => e = .returned (.int .i64 (k + cntM 1 L)) ∧ OwnM ty 2 1 true w' F v (relM 1 k L) ∧ Only F w w' := by
  obtain ⟨xs0, us, h⟩ := h
  rcases h.row.2 with ⟨rfl, hn⟩ | ⟨g, cap, cur, hv, hb, hg, hnc, hcm, hcs, htake⟩
  · have : L = [] := List.eq_nil_of_length_eq_zero hn
    subst this
    clear h hn
    go_enter Tryz.func54, Tryz.ntmps54
    go_wp2
    go_loop [1, 5] (fun kk i => i = .int .i64 0 ∧ kk = .int .i64 k) (fun _ _ => 0)
    case atStart => exact ⟨rfl, rfl⟩
    case round =>
      obtain ⟨rfl, rfl⟩ := hrel
      go_wp2
      go_ret
      exact ⟨by simp [cntM], by simpa [relM] using OwnM.nil _ _, Only.refl _ _⟩
  · have hgF : F g := h.inF g (by rw [hv]; rfl)
    subst hv
    have HO := hid h
    have HF := hid hgF
    have HK := hid hk2
    have hLm : L.length ≤ maxLen := Nat.le_trans hnc hcm
    unfold maxLen at hLm
    clear h hg hcs htake hgF hb hnc hcm hk2
    go_enter Tryz.func54, Tryz.ntmps54
    go_wp2
    go_loopw [1, 5] (fun kk i wr => ∃ (j : Nat) (M : List KD) (xs : List Value) (q : Int), j ≤ L.length ∧ i = .int .i64 j ∧ kk = .int .i64 q ∧ Hid (q = k + cntM 1 (L.take j)) ∧ Hid (MidM 1 k L M j) ∧
        Hid (OwM ty 2 1 true wr F (.slice (some ⟨g, 0, none⟩) L.length cap) M xs us) ∧ Hid (Only F w wr)) (fun _ i _ => L.length - (intOf i).toNat)
    case atStart => exact ⟨0, L, xs0, k, Nat.zero_le _, rfl, rfl, hid (by simp [cntM]), hid (MidM.start _ _ _), HO, hid (Only.refl _ _)⟩
    case round =>
      obtain ⟨j, M, xs, q, hj, rfl, rfl, hq, hmid, how, honly⟩ := hrel
      by_cases hlt : j < L.length
      · have hML : Hid (M.length = L.length) := hid hmid.out.1
        have hjM : Hid (j < M.length) := hid (by have := hML.out; omega)
        have hMx := hid (hmid.out.2.2 j (Nat.le_refl _) hlt)
        have HOW := hid how.out
        obtain ⟨p0, lx, hx⟩ := kd_1k (how.out.fil.len j (by rw [hML.out]; exact hlt))
        have HX := hid hx
        have hq0 : 0 ≤ q := by have := hq.out; have := cntM_pos 1 (L.take j); omega
        have hq1 : q + 1 + 2 * ((L.getD j kd0).2.length : Int) ≤ 1099511627776 := by
          have := hq.out; have := cntM_step 1 L j hlt; have := cntM_le 1 L (j + 1); have := HK.out; have h9 : cntK 1 (L.getD j kd0) = 1 + 2 * ((L.getD j kd0).2.length : Int) := rfl; omega
        rw [← hMx.out, hx] at hq1
        have hrow := HOW.out.row
        rw [hML.out] at hrow
        obtain ⟨z0, hz0⟩ := row_cell hrow (j * 2) (by omega)
        have f0 := hrow.frozenAt (j * 2)
        obtain ⟨xs1, hm1⟩ := HOW.out.mark_1k hjM.out HX.out rfl q
        have HM1 := hid hm1
        have hu0 := (HOW.out.fil.kin rfl j (by rw [hML.out]; exact hlt)).1
        have hu1 := (hrow.cellAt (j * 2 + 1) (by omega)).trans hu0
        have hu := (hm1.fil.kin rfl j (by rw [List.length_set]; exact hjM.out)).2
        rw [kd_getD_set hjM.out, if_pos rfl] at hu
        have HU := hid hu
        obtain ⟨uo, uc, huv, _⟩ := hu.1.rd
        simp only at huv
        rw [huv] at hu1
        clear how hx hrow hu0 hu hm1
        go_wp2_with fail
        have HU1 : Hid (Own (wr.setCell ⟨g, j * 2, none⟩ (.int .i64 (q))) 0 (.slice uo lx.length uc) lx) := hid (huv ▸ HU.out.1)
        refine (mark_any (.slice uo lx.length uc) lx (q + 1) 0 _ HU1.out (by omega) (by omega) (by omega)).mono ?_
        rintro e w2 ⟨rfl, ho, hg2⟩
        have HN := hid (HM1.out.setKin (by rw [List.length_set]; exact hjM.out) (huv.symm ▸ ho) (huv.symm ▸ hg2))
        rw [kd_getD_set hjM.out, if_pos rfl, List.set_set, ← relK_1k q p0 lx, ← HX.out, hMx.out] at HN
        have HN2 := hid ((honly.out.trans (Only.set _ (p := ⟨g, j * 2, none⟩) HF.out (.int .i64 (q)))).trans (Only.of_grown hg2 (fun b hb => (HU.out.2 b (by rw [huv]; exact hb)).1)))
        have HQ : Hid (q + 1 + 2 * (lx.length : Int) = k + cntM 1 (L.take (j + 1))) := hid (by
          have h1 := cntM_step 1 L j hlt
          have h9 : cntK 1 (L.getD j kd0) = 1 + 2 * ((L.getD j kd0).2.length : Int) := rfl
          rw [← hMx.out, HX.out] at h9 h1
          simp only at h9
          rw [h1, h9]
          have := hq.out
          omega)
        clear ho hg2 HU HU1 HM1 HOW huv
        go_wp2
        go_roundw
        case rel =>
          have hstep := hmid.out.step hlt
          rw [← hq.out] at hstep
          exact ⟨j + 1, _, _, _, by omega, by go_num, rfl, HQ, hid hstep, HN, HN2⟩
        case measure => simp [intOf]; omega
      · obtain rfl : j = L.length := by omega
        have HQ : Hid (q = k + cntM 1 L) := hid (by have := hq.out; rwa [List.take_length] at this)
        have HN := hid (show OwnM ty 2 1 true wr F (.slice (some ⟨g, 0, none⟩) L.length cap) (relM 1 k L) from ⟨xs, us, hmid.out.all ▸ how.out⟩)
        clear how hmid hq
        go_wp2
        go_ret
        exact ⟨by rw [HQ.out]; simp, HN.out, honly.out⟩

set_option maxRecDepth 100000 in
set_option maxHeartbeats 2000000 in
theorem heldValS_any (v : Value) (L : List KD) (k : Int) (w : World) (h : RdM 2 1 true w v (relM 1 k L)) (hlen : ∀ i, i < L.length → (L.getD i kd0).1.length = 1) (hk : 0 ≤ k) (hk2 : k + cntM 1 L ≤ 1099511627776) :
    Calls Tryz.prog 55 #[v, .int .i64 k] w fun e w' => e = .returned (.int .i64 (k + cntM 1 L)) ∧ Below w.heap.size w w' := by
  obtain ⟨ao, cap, rfl, hl, hc⟩ := h
  rw [relM_length] at hl hc ⊢
  unfold maxLen at hl
  have HK := hid hk2
  have HL := hid hlen
  clear hk2 hlen
  go_enter Tryz.func55, Tryz.ntmps55
  go_wp2
  go_loopw [1, 5] (fun kk i wr => ∃ (j : Nat) (q : Int), j ≤ L.length ∧ i = .int .i64 j ∧ kk = .int .i64 q ∧ Hid (q = k + cntM 1 (L.take j)) ∧ Below w.heap.size w wr) (fun _ i _ => L.length - (intOf i).toNat)
  case atStart => exact ⟨0, k, Nat.zero_le _, rfl, rfl, hid (by simp [cntM]), Below.refl _ _⟩
  case round =>
    obtain ⟨j, q, hj, rfl, rfl, hq, hbel⟩ := hrel
    by_cases hlt : j < L.length
    · obtain ⟨b, o, rfl, hb, hcc⟩ := hc (by omega)
      have hat := (hcc j hlt).later hb hbel
      have HS := hid (cntM_step 1 L j hlt)
      have hle := cntM_le 1 L (j + 1)
      have hpos := cntM_pos 1 (L.take j)
      have hll := HL.out j hlt
      rw [relM_get 1 L k j hlt, ← hq.out] at hat
      obtain ⟨p0, lx, hx⟩ := kd_1k hll
      rw [hx, relK_1k] at hat
      obtain ⟨t0, ly, ux, he, c0, c1, hux⟩ := atK_1k hat
      injection he with he1 he2
      simp only [List.cons.injEq, and_true] at he1
      obtain rfl := he1
      subst he2
      have h9 : cntK 1 (L.getD j kd0) = 1 + 2 * ((L.getD j kd0).2.length : Int) := rfl
      rw [hx] at h9
      simp only at h9
      have HQ : Hid (q + 1 + 2 * (lx.length : Int) = k + cntM 1 (L.take (j + 1))) := hid (by have h1 := HS.out; rw [hx, h9] at h1; rw [h1]; have := hq.out; omega)
      have hq0 : 0 ≤ q := by have := hq.out; omega
      have hq1 : q + 1 + 2 * (lx.length : Int) ≤ 1099511627776 := by have := HQ.out; have := HK.out; omega
      have HU := hid hux
      obtain ⟨uo, uc, huv, _⟩ := hux
      rw [markL_length] at huv
      subst huv
      clear hcc hc HS hx h9 hll hle hpos
      go_wp2_with fail
      refine (held_any _ lx.length (q + 1) _ HU.out (by omega) (by omega) (by omega)).mono ?_
      rintro e w2 ⟨rfl, rfl⟩
      go_wp2
      all_goals first
        | (exfalso; omega)
        | (go_roundw
           case rel => exact ⟨j + 1, _, by omega, by go_num, rfl, HQ, hbel⟩
           case measure => simp [intOf]; omega)
    · obtain rfl : j = L.length := by omega
      have HQ : Hid (q = k + cntM 1 L) := hid (by have := hq.out; rwa [List.take_length] at this)
      go_wp2
      go_ret
      exact ⟨by rw [HQ.out]; simp, hbel⟩
end Go.Proofs.YtkmhnjgncnoddaaGreat

/- Part: The law's own helpers markVal, heldVal: contracts. -/
namespace Go.Proofs.YtkmhnjgncnoddaaGreat
open Go.RowKit
attribute [local go_sem ↓] Go.wp_at_zero Go.wp_at_succ

theorem grown_two {w w' w'' : World} {row : Option Nat} (h : w.grownBy w' row) (k : w'.grownBy w'' row) : w.grownBy w'' row :=
  ⟨k.os.trans h.os, k.tape.trans h.tape, k.output.trans h.output, Nat.le_trans h.size k.size, fun i hi hne => (k.block i (Nat.lt_of_lt_of_le hi h.size) hne).trans (h.block i hi hne)⟩

end Go.Proofs.YtkmhnjgncnoddaaGreat

/- Part: The law's own helpers of Graph: contracts. Written by a program (gs.py). -/
namespace Go.Proofs.YtkmhnjgncnoddaaGreat
open Go.RowKit
attribute [local go_sem ↓] Go.wp_at_zero Go.wp_at_succ

set_option maxRecDepth 100000 in
set_option maxHeartbeats 2000000 in
theorem eqGraph_self (a0 b0 : Value) (L0 : List KD) (w : World) (ha0 : RdM 2 1 true w a0 L0) (hb0 : RdM 2 1 true w b0 L0) :
    Calls Tryz.prog 19 #[.agg #[a0], .agg #[b0]] w fun e w' => e = .returned (.bool true) ∧ Below w.heap.size w w' := by
  have HA0 := hid ha0
  have HB0 := hid hb0
  obtain ⟨ao0, ac0, hv, _⟩ := ha0
  subst hv
  obtain ⟨bo0, bc0, hv, _⟩ := hb0
  subst hv
  go_enter Tryz.func19, Tryz.ntmps19
  go_wp2_with fail
  have a0_1 : ((w.alloc (.cells #[.slice ao0 L0.length ac0] 25)).alloc (.cells #[.slice bo0 L0.length bc0] 25)).cell? ⟨w.heap.size, 0, none⟩ = some (.slice ao0 L0.length ac0) := by go_cell
  have al_1 : w.heap.size < ((w.alloc (.cells #[.slice ao0 L0.length ac0] 25)).alloc (.cells #[.slice bo0 L0.length bc0] 25)).heap.size := by first | (simp; done) | (simp; omega)
  have b0_1 : ((w.alloc (.cells #[.slice ao0 L0.length ac0] 25)).alloc (.cells #[.slice bo0 L0.length bc0] 25)).cell? ⟨w.heap.size + 1, 0, none⟩ = some (.slice bo0 L0.length bc0) := by go_cell
  have bl_1 : w.heap.size + 1 < ((w.alloc (.cells #[.slice ao0 L0.length ac0] 25)).alloc (.cells #[.slice bo0 L0.length bc0] 25)).heap.size := by first | (simp; done) | (simp; omega)
  have c1 : Below w.heap.size w ((w.alloc (.cells #[.slice ao0 L0.length ac0] 25)).alloc (.cells #[.slice bo0 L0.length bc0] 25)) := by go_grown
  have s1 : ((w.alloc (.cells #[.slice ao0 L0.length ac0] 25)).alloc (.cells #[.slice bo0 L0.length bc0] 25)).heap.size = w.heap.size + 2 := by simp
  generalize ((w.alloc (.cells #[.slice ao0 L0.length ac0] 25)).alloc (.cells #[.slice bo0 L0.length bc0] 25)) = w1 at a0_1 al_1 b0_1 bl_1 c1 s1 ⊢
  have qa0_1 := cell_regrown a0_1
  have qb0_1 := cell_regrown b0_1
  refine (eqValS_kd _ _ L0 L0 _ (HA0.out.later c1) (HB0.out.later c1)).mono ?_
  rintro e w2 ⟨rfl, b2⟩
  rw [eqM_refl]
  have d2 : Below w1.heap.size w1 w2 := (Below.trans (by go_grown) (b2.mono (by first | omega | (simp; done) | (simp; omega))))
  have c2 : Below w.heap.size w w2 := c1.trans (d2.mono c1.size)
  have a0_2 : w2.cell? ⟨w.heap.size, 0, none⟩ = some (.slice ao0 L0.length ac0) := (by rw [b2.cell (by first | omega | (simp; done) | (simp; omega))]; go_cell)
  have al_2 : w.heap.size < w2.heap.size := (by have := b2.size; first | omega | (revert this; simp; done) | (revert this; simp; omega))
  have b0_2 : w2.cell? ⟨w.heap.size + 1, 0, none⟩ = some (.slice bo0 L0.length bc0) := (by rw [b2.cell (by first | omega | (simp; done) | (simp; omega))]; go_cell)
  have bl_2 : w.heap.size + 1 < w2.heap.size := (by have := b2.size; first | omega | (revert this; simp; done) | (revert this; simp; omega))
  clear a0_1 al_1 b0_1 bl_1
  clear b2 d2
  go_wp2
  go_ret
  exact ⟨by simp, c2⟩

set_option maxRecDepth 100000 in
set_option maxHeartbeats 2000000 in
theorem szGraph_all (a0 : Value) (L0 : List KD) (left : Int) (w : World) (ha0 : RdM 2 1 true w a0 L0) (h0 : 0 ≤ left) (h1 : left ≤ 1048576) :
    Calls Tryz.prog 16 #[.agg #[a0], .int .i64 left] w fun e w' => SzD [L0] left e ∧ Below w.heap.size w w' := by
  have HA0 := hid ha0
  obtain ⟨ao0, ac0, hv, _⟩ := ha0
  subst hv
  go_enter Tryz.func16, Tryz.ntmps16
  go_wp2_with fail
  have a0_1 : (w.alloc (.cells #[.slice ao0 L0.length ac0] 42)).cell? ⟨w.heap.size, 0, none⟩ = some (.slice ao0 L0.length ac0) := by go_cell
  have al_1 : w.heap.size < (w.alloc (.cells #[.slice ao0 L0.length ac0] 42)).heap.size := by first | (simp; done) | (simp; omega)
  have c1 : Below w.heap.size w (w.alloc (.cells #[.slice ao0 L0.length ac0] 42)) := by go_grown
  have s1 : (w.alloc (.cells #[.slice ao0 L0.length ac0] 42)).heap.size = w.heap.size + 1 := by simp
  generalize (w.alloc (.cells #[.slice ao0 L0.length ac0] 42)) = w1 at a0_1 al_1 c1 s1 ⊢
  have qa0_1 := cell_regrown a0_1
  refine (szValS_kd _ L0 left _ (HA0.out.later c1) (by omega) (by omega)).mono ?_
  rintro e w2 ⟨hs, b2⟩
  have d2 : Below w1.heap.size w1 w2 := (Below.trans (by go_grown) (b2.mono (by first | omega | (simp; done) | (simp; omega))))
  have c2 : Below w.heap.size w w2 := c1.trans (d2.mono c1.size)
  have a0_2 : w2.cell? ⟨w.heap.size, 0, none⟩ = some (.slice ao0 L0.length ac0) := (by rw [b2.cell (by first | omega | (simp; done) | (simp; omega))]; go_cell)
  have al_2 : w.heap.size < w2.heap.size := (by have := b2.size; first | omega | (revert this; simp; done) | (revert this; simp; omega))
  clear a0_1 al_1
  clear b2 d2
  rcases hs with ⟨rfl, hs⟩ | ⟨rfl, hs⟩
  · have HS0 := hid (show L0.length + bulkM L0 ≤ 1048576 by omega)
    have hn0 : ¬ (left - (L0.length : Int) - (bulkM L0 : Int) < 0) := by omega
    have hn0' : left - (L0.length : Int) - (bulkM L0 : Int) ≤ 1048576 := by omega
    have hle0 : left - (L0.length : Int) - (bulkM L0 : Int) ≤ left := by omega
    obtain ⟨r0, hr0⟩ : ∃ r : Int, left - (L0.length : Int) - (bulkM L0 : Int) = r := ⟨_, rfl⟩
    rw [hr0] at hn0 hn0' hle0 ⊢
    clear hr0 hs
    go_wp2
    go_ret
    exact ⟨Or.inl ⟨r0, by simp, by omega, hle0, fun L hL => by
      simp only [List.mem_cons, List.not_mem_nil, or_false] at hL
      rcases hL with rfl
      · exact HS0.out⟩, c2⟩
  · clear hs
    go_wp2
    go_ret
    exact ⟨Or.inr (by simp), c2⟩

def ToGraph (w w' : World) (L0 : List KD) (e : Ending) : Prop :=
  ∃ (v0 : Value), e = .returned (.agg #[v0]) ∧ OwnM 38 2 1 true w' (Span w.heap.size w'.heap.size) v0 L0 ∧ w.heap.size ≤ w'.heap.size
set_option maxRecDepth 100000 in
set_option maxHeartbeats 4000000 in
theorem toGraph_own (a0 : Value) (L0 : List KD) (w : World) (ha0 : RdM 2 1 true w a0 L0) (hl0 : L0.length ≤ 1048576) (hk0 : ∀ i, i < L0.length → (L0.getD i kd0).2.length ≤ 1048576) :
    Calls Tryz.prog 17 #[.agg #[a0]] w fun e w' => ToGraph w w' L0 e ∧ Below w.heap.size w w' := by
  have HA0 := hid ha0
  have HK0 := hid hk0
  clear hk0
  obtain ⟨ao0, ac0, hv, _⟩ := ha0
  subst hv
  go_enter Tryz.func17, Tryz.ntmps17
  go_wp2_with fail
  have a0_1 : (((w.alloc (.cells #[.slice ao0 L0.length ac0] 42)).alloc (.cells #[.slice none 0 0] 25)).alloc (.cells #[.slice none 0 0] 25)).cell? ⟨w.heap.size, 0, none⟩ = some (.slice ao0 L0.length ac0) := by go_cell
  have r0_1 : (((w.alloc (.cells #[.slice ao0 L0.length ac0] 42)).alloc (.cells #[.slice none 0 0] 25)).alloc (.cells #[.slice none 0 0] 25)).cell? ⟨w.heap.size + 1, 0, none⟩ = some (.slice none 0 0) := by go_cell
  have rf0_1 : (((w.alloc (.cells #[.slice ao0 L0.length ac0] 42)).alloc (.cells #[.slice none 0 0] 25)).alloc (.cells #[.slice none 0 0] 25)).frozen? ⟨w.heap.size + 1, 0, none⟩ = false := by (first | go_cell | (simp [World.frozen?, World.alloc]; done) | rfl)
  have o0_1 : (((w.alloc (.cells #[.slice ao0 L0.length ac0] 42)).alloc (.cells #[.slice none 0 0] 25)).alloc (.cells #[.slice none 0 0] 25)).cell? ⟨w.heap.size + 1 + 1, 0, none⟩ = some (.slice none 0 0) := by go_cell
  have of0_1 : (((w.alloc (.cells #[.slice ao0 L0.length ac0] 42)).alloc (.cells #[.slice none 0 0] 25)).alloc (.cells #[.slice none 0 0] 25)).frozen? ⟨w.heap.size + 1 + 1, 0, none⟩ = false := by (first | go_cell | (simp [World.frozen?, World.alloc]; done) | rfl)
  have c1 : Below w.heap.size w (((w.alloc (.cells #[.slice ao0 L0.length ac0] 42)).alloc (.cells #[.slice none 0 0] 25)).alloc (.cells #[.slice none 0 0] 25)) := by go_grown
  have s1 : (((w.alloc (.cells #[.slice ao0 L0.length ac0] 42)).alloc (.cells #[.slice none 0 0] 25)).alloc (.cells #[.slice none 0 0] 25)).heap.size = w.heap.size + 3 := by simp
  generalize (((w.alloc (.cells #[.slice ao0 L0.length ac0] 42)).alloc (.cells #[.slice none 0 0] 25)).alloc (.cells #[.slice none 0 0] 25)) = w1 at a0_1 r0_1 rf0_1 o0_1 of0_1 c1 s1 ⊢
  have al_1 : w.heap.size < w1.heap.size := by omega
  have rl_1 : w.heap.size + 1 < w1.heap.size := by omega
  have ol_1 : w.heap.size + 1 + 1 < w1.heap.size := by omega
  clear s1
  have hz1 : w.heap.size + 3 ≤ w1.heap.size := by omega
  refine (toValS_own _ L0 _ (HA0.out.later c1) hl0 HK0.out).mono ?_
  rintro e w2 ⟨x0, rfl, ho, b2⟩
  have hx0 := ho.rd'
  obtain ⟨xo0, xc0, hv, _⟩ := hx0
  subst hv
  have hz2 : w1.heap.size ≤ w2.heap.size := b2.size
  have d2 : Below w1.heap.size w1 w2 := (Below.trans (by go_grown) (b2.mono (by first | omega | (simp; done) | (simp; omega))))
  have c2 : Below w.heap.size w w2 := c1.trans (d2.mono c1.size)
  have a0_2 : w2.cell? ⟨w.heap.size, 0, none⟩ = some (.slice ao0 L0.length ac0) := (by rw [b2.cell (by first | omega | (simp; done) | (simp; omega))]; go_cell)
  have al_2 : w.heap.size < w2.heap.size := (by have := b2.size; first | omega | (revert this; simp; done) | (revert this; simp; omega))
  have r0_2 : w2.cell? ⟨w.heap.size + 1, 0, none⟩ = some (.slice none 0 0) := (by rw [b2.cell (by first | omega | (simp; done) | (simp; omega))]; go_cell)
  have rf0_2 : w2.frozen? ⟨w.heap.size + 1, 0, none⟩ = false := (by rw [b2.frozen (by first | omega | (simp; done) | (simp; omega))]; (first | go_cell | (simp [World.frozen?, World.alloc]; done) | rfl))
  have rl_2 : w.heap.size + 1 < w2.heap.size := (by have := b2.size; first | omega | (revert this; simp; done) | (revert this; simp; omega))
  have o0_2 : w2.cell? ⟨w.heap.size + 1 + 1, 0, none⟩ = some (.slice none 0 0) := (by rw [b2.cell (by first | omega | (simp; done) | (simp; omega))]; go_cell)
  have of0_2 : w2.frozen? ⟨w.heap.size + 1 + 1, 0, none⟩ = false := (by rw [b2.frozen (by first | omega | (simp; done) | (simp; omega))]; (first | go_cell | (simp [World.frozen?, World.alloc]; done) | rfl))
  have ol_2 : w.heap.size + 1 + 1 < w2.heap.size := (by have := b2.size; first | omega | (revert this; simp; done) | (revert this; simp; omega))
  clear a0_1 al_1 r0_1 rf0_1 rl_1 o0_1 of0_1 ol_1
  have HO0_2 := hid ho
  clear ho b2 d2
  go_wp2
  have e0 : ((w2.setCell ⟨w.heap.size + 1 + 1, 0, none⟩ (.slice xo0 L0.length xc0)).setCell ⟨w.heap.size + 1, 0, none⟩ (.slice xo0 L0.length xc0)).cell? ⟨w.heap.size + 1, 0, none⟩ = some (.slice xo0 L0.length xc0) := by go_cell
  refine bodyPost_ret (v := .agg #[.slice xo0 L0.length xc0]) (by simp [results, Tryz.results17, go_sem, e0]) rfl ⟨⟨_, rfl, ?_, ?_⟩, ?_⟩
  · exact OwnM.mono ((HO0_2.out.set (p := ⟨w.heap.size + 1 + 1, 0, none⟩) (fun q => by have := q.1; first | omega | (simp only at this; omega)) (.slice xo0 L0.length xc0)).set (p := ⟨w.heap.size + 1, 0, none⟩) (fun q => by have := q.1; first | omega | (simp only at this; omega)) (.slice xo0 L0.length xc0)) (fun b hb _ => ⟨by have := hb.1; omega, by have := hb.2; first | omega | (simp only [World.setCell, Array.size_modify]; omega)⟩)
  · first | omega | (simp only [World.setCell, Array.size_modify]; omega)
  · exact ((c2.setCell (p := ⟨w.heap.size + 1 + 1, 0, none⟩) (by show w.heap.size ≤ w.heap.size + 1 + 1; omega) (.slice xo0 L0.length xc0)).setCell (p := ⟨w.heap.size + 1, 0, none⟩) (by show w.heap.size ≤ w.heap.size + 1; omega) (.slice xo0 L0.length xc0))

set_option maxRecDepth 100000 in
set_option maxHeartbeats 2000000 in
theorem markGraph_all {y0 : TypeId} (a0 : Value) (L0 : List KD) (k : Int) (F0 : Nat → Prop) (w : World) (ha0 : OwnM y0 2 1 true w F0 a0 L0) (hk : 0 ≤ k) (hk2 : k + cntM 1 L0 ≤ 1099511627776) :
    Calls Tryz.prog 20 #[.agg #[a0], .int .i64 k] w fun e w' => e = .returned (.int .i64 (k + cntM 1 L0)) ∧ OwnM y0 2 1 true w' F0 a0 (relM 1 (k) L0) ∧ Only (fun b => F0 b) w w' := by
  have HA0 := hid ha0
  have hv0 := ha0.rd'
  have hp0 := cntM_pos 1 L0
  obtain ⟨ao0, ac0, hv, _⟩ := hv0
  subst hv
  clear ha0
  go_enter Tryz.func20, Tryz.ntmps20
  go_wp2_with fail
  have a0_1 : (w.alloc (.cells #[.slice ao0 L0.length ac0] 25)).cell? ⟨w.heap.size, 0, none⟩ = some (.slice ao0 L0.length ac0) := by go_cell
  have al_1 : w.heap.size < (w.alloc (.cells #[.slice ao0 L0.length ac0] 25)).heap.size := by first | (simp; done) | (simp; omega)
  have c1 : Below w.heap.size w (w.alloc (.cells #[.slice ao0 L0.length ac0] 25)) := by go_grown
  have s1 : (w.alloc (.cells #[.slice ao0 L0.length ac0] 25)).heap.size = w.heap.size + 1 := by simp
  generalize (w.alloc (.cells #[.slice ao0 L0.length ac0] 25)) = w1 at a0_1 al_1 c1 s1 ⊢
  have qa0_1 := cell_regrown a0_1
  have HA0_1 := hid ((HA0.out.mono (G := fun b => F0 b ∧ b < w.heap.size) (fun b hb hl => ⟨hb, hl⟩)).later c1)
  have HN1 : Hid (Only (fun b => F0 b) w w1) := hid (Only.later c1)
  refine (markValS_any _ L0 (k) (fun b => F0 b ∧ b < w.heap.size) _ (HA0_1.out) (by omega) (by omega)).mono ?_
  rintro e w2 ⟨rfl, ho, hn⟩
  have a0_2 := (World.cell?_of_block (a := ⟨w.heap.size, 0, none⟩) (hn.block w.heap.size (by have := al_1; omega) (fun q => Nat.lt_irrefl _ q.2))).trans a0_1
  have al_2 : w.heap.size < w2.heap.size := Nat.lt_of_lt_of_le al_1 hn.size
  have HN2 := hid (HN1.out.trans (hn.mono (fun b hb => hb.1)))
  have HA0_2 := hid ho
  clear ho hn HN1 HA0_1 a0_1
  go_wp2
  go_ret
  exact ⟨by simp, HA0_2.out.mono (fun b hb _ => hb.1), HN2.out⟩

set_option maxRecDepth 100000 in
set_option maxHeartbeats 2000000 in
theorem heldGraph_all (a0 : Value) (L0 : List KD) (k : Int) (w : World) (ha0 : RdM 2 1 true w a0 (relM 1 (k) L0)) (hl0 : ∀ i, i < L0.length → (L0.getD i kd0).1.length = 1) (hk : 0 ≤ k) (hk2 : k + cntM 1 L0 ≤ 1099511627776) :
    Calls Tryz.prog 21 #[.agg #[a0], .int .i64 k] w fun e w' => e = .returned (.int .i64 (k + cntM 1 L0)) ∧ Below w.heap.size w w' := by
  have HA0 := hid ha0
  have HL0 := hid hl0
  have hp0 := cntM_pos 1 L0
  obtain ⟨ao0, ac0, hv, _⟩ := ha0
  rw [relM_length] at hv
  subst hv
  clear hl0
  go_enter Tryz.func21, Tryz.ntmps21
  go_wp2_with fail
  have a0_1 : (w.alloc (.cells #[.slice ao0 L0.length ac0] 25)).cell? ⟨w.heap.size, 0, none⟩ = some (.slice ao0 L0.length ac0) := by go_cell
  have al_1 : w.heap.size < (w.alloc (.cells #[.slice ao0 L0.length ac0] 25)).heap.size := by first | (simp; done) | (simp; omega)
  have c1 : Below w.heap.size w (w.alloc (.cells #[.slice ao0 L0.length ac0] 25)) := by go_grown
  have s1 : (w.alloc (.cells #[.slice ao0 L0.length ac0] 25)).heap.size = w.heap.size + 1 := by simp
  generalize (w.alloc (.cells #[.slice ao0 L0.length ac0] 25)) = w1 at a0_1 al_1 c1 s1 ⊢
  have qa0_1 := cell_regrown a0_1
  refine (heldValS_any _ L0 (k) _ (HA0.out.later c1) HL0.out (by omega) (by omega)).mono ?_
  rintro e w2 ⟨rfl, b2⟩
  have d2 : Below w1.heap.size w1 w2 := (Below.trans (by go_grown) (b2.mono (by first | omega | (simp; done) | (simp; omega))))
  have c2 : Below w.heap.size w w2 := c1.trans (d2.mono c1.size)
  have a0_2 : w2.cell? ⟨w.heap.size, 0, none⟩ = some (.slice ao0 L0.length ac0) := (by rw [b2.cell (by first | omega | (simp; done) | (simp; omega))]; go_cell)
  have al_2 : w.heap.size < w2.heap.size := (by have := b2.size; first | omega | (revert this; simp; done) | (revert this; simp; omega))
  clear a0_1 al_1
  clear b2 d2
  have hn0 : ¬ (k + cntM 1 L0 < 0) := by omega
  go_wp2
  go_ret
  exact ⟨by simp, c2⟩

/-- The lists of a Graph read so. -/
structure RSGraph (w : World) (v0 : Value) (L0 : List KD) : Prop where
  h0 : RdM 2 1 true w v0 L0
theorem RSGraph.later {w w' : World} {v0 : Value} {L0 : List KD} (h : RSGraph w v0 L0) (hb : Below w.heap.size w w') : RSGraph w' v0 L0 := ⟨h.h0.later hb⟩
theorem RSGraph.open {w : World} {v0 : Value} {L0 : List KD} (h : RSGraph w v0 L0) : ∃ (o0 : Option Addr) (c0 : Nat), v0 = .slice o0 L0.length c0 := by
  obtain ⟨o0, c0, e0, _⟩ := h.h0
  exact ⟨o0, c0, e0⟩
theorem toGraph_rd (a0 : Value) (L0 : List KD) (w : World) (h : RSGraph w a0 L0) (hl : ∀ L ∈ [L0], L.length + bulkM L ≤ 1048576) :
    Calls Tryz.prog 17 #[.agg #[a0]] w fun e w' => (∃ (xo0 : Option Addr) (xc0 : Nat), e = .returned (.agg #[.slice xo0 L0.length xc0]) ∧ RSGraph w' (.slice xo0 L0.length xc0) L0) ∧ Below w.heap.size w w' :=
  (toGraph_own a0 L0 w h.h0 (Nat.le_trans (Nat.le_add_right _ _) (hl L0 (by simp))) (fun i hi => Nat.le_trans (bulkM_get L0 i hi) (Nat.le_trans (Nat.le_add_left _ _) (hl L0 (by simp))))).mono fun e w' ⟨he, hb⟩ => by
    obtain ⟨v0, he, q0, _⟩ := he
    have hR : RSGraph w' v0 L0 := ⟨q0.rd (by decide) (by decide)⟩
    obtain ⟨o0, c0, rfl⟩ := hR.open
    exact ⟨⟨_, _, he, hR⟩, hb⟩
theorem eqGraph_rd (a0 b0 : Value) (L0 : List KD) (w : World) (h : RSGraph w a0 L0) (h' : RSGraph w b0 L0) :
    Calls Tryz.prog 19 #[.agg #[a0], .agg #[b0]] w fun e w' => e = .returned (.bool true) ∧ Below w.heap.size w w' := eqGraph_self a0 b0 L0 w h.h0 h'.h0
theorem szGraph_rd (a0 : Value) (L0 : List KD) (left : Int) (w : World) (h : RSGraph w a0 L0) (h0 : 0 ≤ left) (h1 : left ≤ 1048576) :
    Calls Tryz.prog 16 #[.agg #[a0], .int .i64 left] w fun e w' => SzD [L0] left e ∧ Below w.heap.size w w' := szGraph_all a0 L0 left w h.h0 h0 h1
end Go.Proofs.YtkmhnjgncnoddaaGreat

/- Part: spec.l2Copy: contract. -/
namespace Go.Proofs.YtkmhnjgncnoddaaGreat
open Go.RowKit
attribute [local go_sem ↓] Go.wp_at_zero Go.wp_at_succ

theorem run_append_cap {P : Program} {w : World} (base : Nat) (t ty e : TypeId) (i : TypeInfo) (size cp : Nat) (ht : P.underlying t = some (.slice e)) (hi : P.info? e = some i)
    (v : Value) (n : Nat) (xs : List Value) (hown : w.ownsRow base e size v n xs) :
    (Builtin.append_ #[t, t] ty #[v, .slice none 0 cp]).run P w = .ok v w := by
  rcases hown.2 with ⟨rfl, rfl⟩ | ⟨g, cap, cur, rfl, _, _, hnc, _⟩
  · simp [Builtin.append_, run_underlying ht, sizeOf, typeInfo, hi, Builtin.lenOf, Builtin.firstCells]
  · simp [Builtin.append_, run_underlying ht, sizeOf, typeInfo, hi, Builtin.lenOf, Builtin.firstCells, hnc, storeCells]
theorem wpList_append_cap {P : Program} {w : World} {ops : Array Oper} {rest : List Oper} {o : Oper} {a : Act} {Q : Exit → Act → World → Prop} (hgd : o.guard = none) (s x : Operand) (t : TypeId)
    (ho : o.op = .call { callee := .builtin .append, args := #[s, x], argTypes := #[t, t] })
    (base : Nat) (e : TypeId) (i : TypeInfo) (size cp : Nat) (ht : P.underlying t = some (.slice e)) (hi : P.info? e = some i)
    (v : Value) (n : Nat) (xs : List Value) (hs : a.eval s = v) (hown : w.ownsRow base e size v n xs) (hx : a.eval x = .slice none 0 cp)
    (h : wpList P ops Q rest (a.put o.dst v) w) : wpList P ops Q (o :: rest) a w := by
  refine wpList_plain hgd fun K hK => ?_
  have hrun := run_append_cap (P := P) (w := w) base t o.type e i size cp ht hi v n xs hown
  unfold Oper.wp
  simp [execOp, ho, resolve, invoke, builtin, hs, hx, hrun, Result.andThen]
  exact hK _ _ h

theorem copy_none (cap : Nat) (w : World) :
    Calls Tryz.prog 150 #[.slice none 0 cap] w fun x w' => ∃ v', x = .returned v' ∧ Own w' w.heap.size v' [] ∧ Below w.heap.size w w' := by
  obtain ⟨i0, hi, hz0, hz1, hz2⟩ := info_parts Tryz.info137
  have HR := hid (World.ownsRow_lit (e := 137) (size := 2) w #[] 0 (Nat.le_refl _) (Nat.zero_le _) rfl)
  go_enter Tryz.func150, Tryz.ntmps150
  go_wp2_with (at_builtin; refine wpList_append_cap rfl _ _ 36 rfl w.heap.size 137 i0 2 cap Tryz.underlying36 hi _ _ _ rfl HR.out rfl ?_)
  go_ret
  exact ⟨_, rfl, HR.out, by go_grown⟩
theorem copy_some (ad : Addr) (cap : Nat) (w : World) :
    Calls Tryz.prog 150 #[.slice (some ad) 0 cap] w fun x w' => ∃ v', x = .returned v' ∧ Own w' w.heap.size v' [] ∧ Below w.heap.size w w' := by
  obtain ⟨i0, hi, hz0, hz1, hz2⟩ := info_parts Tryz.info137
  have HR := hid (World.ownsRow_lit (e := 137) (size := 2) w #[] 0 (Nat.le_refl _) (Nat.zero_le _) rfl)
  have hbs : w.heap.size ≤ (w.alloc (.cells #[] 137)).heap.size := by simp
  go_enter Tryz.func150, Tryz.ntmps150
  go_wp2_with (at_builtin; refine wpList_append_own _ rfl _ _ 36 rfl w.heap.size 137 i0 (.agg #[.int .i64 0, .int .i64 0]) 2 16 Tryz.underlying36 hi hz0 hz1 hz2 rfl (by decide) _ _ _ rfl HR.out ad 0 cap [] rfl rfl (fun _ _ h => by simp at h) (fun _ h => by simp at h) (by decide) (by decide) hbs ?_; intro v' w1 hown' hgrow' hnil)
  go_ret
  have hown2 : Own w1 w.heap.size v' [] := by
    show World.ownsRow _ _ _ _ _ _ _
    simpa [ecells] using hown'
  exact ⟨v', rfl, hown2, ((Below.refl _ w).alloc (Nat.le_refl _) _).grown hgrow' hbs (fun j ej => (HR.out.lt j ej).1)⟩
theorem l1Copy_any (v : Value) (l : List (Int × Int)) (w : World) (h : Rd w v l) (hl : l.length ≤ 1099511627776) :
    Calls Tryz.prog 150 #[v] w fun x w' => ∃ v', x = .returned v' ∧ Own w' w.heap.size v' l ∧ Below w.heap.size w w' := by
  have HR := h
  obtain ⟨ao, cap, rfl, _, hc⟩ := h
  by_cases h0 : 0 < l.length
  · obtain ⟨b, off, rfl, _⟩ := hc h0
    exact (copy_any b off l.length cap l w rfl HR hl).mono fun _ _ ⟨v', e, ho, hb, _⟩ => ⟨v', e, ho, hb⟩
  · have hz : l = [] := List.eq_nil_of_length_eq_zero (by omega)
    subst hz
    match ao with
    | none => exact copy_none cap w
    | some a => exact copy_some a cap w

set_option maxHeartbeats 1000000 in
theorem l2Copy_any (n : Int) (v : Value) (l : List (Int × Int)) (w : World) (h : Rd w v l) (hl : l.length ≤ 1099511627776) :
    Calls Tryz.prog 100 #[.agg #[.int .i64 n, v]] w fun e w' => ∃ v', e = .returned (.agg #[.int .i64 n, v']) ∧ Own w' w.heap.size v' l ∧ Below w.heap.size w w' := by
  have HR := hid h
  obtain ⟨ao, cap, hv, _⟩ := h
  subst hv
  go_enter Tryz.func100, Tryz.ntmps100
  go_wp2_with fail
  have a0_1 : ((w.alloc (.cells #[.int .i64 n, .slice ao l.length cap] 38)).alloc (.cells #[.int .i64 0, .slice none 0 0] 38)).cell? ⟨w.heap.size, 0, none⟩ = some (.int .i64 n) := by go_cell
  have a1_1 : ((w.alloc (.cells #[.int .i64 n, .slice ao l.length cap] 38)).alloc (.cells #[.int .i64 0, .slice none 0 0] 38)).cell? ⟨w.heap.size, 1, none⟩ = some (.slice ao l.length cap) := by go_cell
  have al_1 : w.heap.size < ((w.alloc (.cells #[.int .i64 n, .slice ao l.length cap] 38)).alloc (.cells #[.int .i64 0, .slice none 0 0] 38)).heap.size := by first | (simp; done) | (simp; omega)
  have r0_1 : ((w.alloc (.cells #[.int .i64 n, .slice ao l.length cap] 38)).alloc (.cells #[.int .i64 0, .slice none 0 0] 38)).cell? ⟨w.heap.size + 1, 0, none⟩ = some (.int .i64 0) := by go_cell
  have rf0_1 : ((w.alloc (.cells #[.int .i64 n, .slice ao l.length cap] 38)).alloc (.cells #[.int .i64 0, .slice none 0 0] 38)).frozen? ⟨w.heap.size + 1, 0, none⟩ = false := by (first | go_cell | (simp [World.frozen?, World.alloc]; done) | rfl)
  have r1_1 : ((w.alloc (.cells #[.int .i64 n, .slice ao l.length cap] 38)).alloc (.cells #[.int .i64 0, .slice none 0 0] 38)).cell? ⟨w.heap.size + 1, 1, none⟩ = some (.slice none 0 0) := by go_cell
  have rf1_1 : ((w.alloc (.cells #[.int .i64 n, .slice ao l.length cap] 38)).alloc (.cells #[.int .i64 0, .slice none 0 0] 38)).frozen? ⟨w.heap.size + 1, 1, none⟩ = false := by (first | go_cell | (simp [World.frozen?, World.alloc]; done) | rfl)
  have rl_1 : w.heap.size + 1 < ((w.alloc (.cells #[.int .i64 n, .slice ao l.length cap] 38)).alloc (.cells #[.int .i64 0, .slice none 0 0] 38)).heap.size := by first | (simp; done) | (simp; omega)
  have c1 : Below w.heap.size w ((w.alloc (.cells #[.int .i64 n, .slice ao l.length cap] 38)).alloc (.cells #[.int .i64 0, .slice none 0 0] 38)) := by go_grown
  have s1 : ((w.alloc (.cells #[.int .i64 n, .slice ao l.length cap] 38)).alloc (.cells #[.int .i64 0, .slice none 0 0] 38)).heap.size = w.heap.size + 2 := by simp
  generalize ((w.alloc (.cells #[.int .i64 n, .slice ao l.length cap] 38)).alloc (.cells #[.int .i64 0, .slice none 0 0] 38)) = w1 at a0_1 a1_1 al_1 r0_1 rf0_1 r1_1 rf1_1 rl_1 c1 s1 ⊢
  have qa0_1 := cell_regrown a0_1
  have qa1_1 := cell_regrown a1_1
  have qr0_1 := cell_regrown r0_1
  have qr1_1 := cell_regrown r1_1
  go_region_with (first
    | (go_at_call 150; go_loud (refine (l1Copy_any _ l _ (HR.out.later (by go_grown)) hl).mono ?_; rintro e w2 ⟨v', rfl, ho, b2⟩; have HO := hid (Own.mono ho (B' := w1.heap.size) (by show w1.heap.size ≤ w1.heap.size; omega)); clear ho; have d2 : Below w1.heap.size w1 w2 := (Below.trans (by go_grown) (b2.mono (by first | omega | (simp; done) | (simp; omega)))); have c2 : Below w.heap.size w w2 := c1.trans (d2.mono c1.size); have a0_2 : w2.cell? ⟨w.heap.size, 0, none⟩ = some (.int .i64 n) := (by rw [b2.cell (by first | omega | (simp; done) | (simp; omega))]; go_cell); have a1_2 : w2.cell? ⟨w.heap.size, 1, none⟩ = some (.slice ao l.length cap) := (by rw [b2.cell (by first | omega | (simp; done) | (simp; omega))]; go_cell); have al_2 : w.heap.size < w2.heap.size := (by have := b2.size; first | omega | (revert this; simp; done) | (revert this; simp; omega)); have r0_2 : w2.cell? ⟨w.heap.size + 1, 0, none⟩ = some (.int .i64 0) := (by rw [b2.cell (by first | omega | (simp; done) | (simp; omega))]; go_cell); have rf0_2 : w2.frozen? ⟨w.heap.size + 1, 0, none⟩ = false := (by rw [b2.frozen (by first | omega | (simp; done) | (simp; omega))]; (first | go_cell | (simp [World.frozen?, World.alloc]; done) | rfl)); have r1_2 : w2.cell? ⟨w.heap.size + 1, 1, none⟩ = some (.slice none 0 0) := (by rw [b2.cell (by first | omega | (simp; done) | (simp; omega))]; go_cell); have rf1_2 : w2.frozen? ⟨w.heap.size + 1, 1, none⟩ = false := (by rw [b2.frozen (by first | omega | (simp; done) | (simp; omega))]; (first | go_cell | (simp [World.frozen?, World.alloc]; done) | rfl)); have rl_2 : w.heap.size + 1 < w2.heap.size := (by have := b2.size; first | omega | (revert this; simp; done) | (revert this; simp; omega)); clear r0_1 rf0_1 r1_1 rf1_1 rl_1; obtain ⟨uo, uc, huv, _⟩ := HO.out.rd; subst huv)))
  all_goals
    have e0 : ((w2.setCell ⟨w.heap.size + 1, 0, none⟩ (.int .i64 n)).setCell ⟨w.heap.size + 1, 1, none⟩ (.slice uo l.length uc)).cell? ⟨w.heap.size + 1, 0, none⟩ = some (.int .i64 n) := by go_cell
    have e1 : ((w2.setCell ⟨w.heap.size + 1, 0, none⟩ (.int .i64 n)).setCell ⟨w.heap.size + 1, 1, none⟩ (.slice uo l.length uc)).cell? ⟨w.heap.size + 1, 1, none⟩ = some (.slice uo l.length uc) := by go_cell
    have HF := hid (((HO.out.apartSet (p := ⟨w.heap.size + 1, 0, none⟩) (by show w.heap.size + 1 < w1.heap.size; omega) (.int .i64 n)).apartSet (p := ⟨w.heap.size + 1, 1, none⟩) (by show w.heap.size + 1 < w1.heap.size; omega) (.slice uo l.length uc)).mono (B' := w.heap.size) (by omega))
    have c3 := hid ((c2.setCell (p := ⟨w.heap.size + 1, 0, none⟩) (by show w.heap.size ≤ w.heap.size + 1; omega) (.int .i64 n)).setCell (p := ⟨w.heap.size + 1, 1, none⟩) (by show w.heap.size ≤ w.heap.size + 1; omega) (.slice uo l.length uc))
    go_wp2
    refine bodyPost_ret (v := .agg #[.int .i64 n, .slice uo l.length uc]) (by simp [results, Tryz.results100, go_sem, e0, e1]) rfl ⟨_, rfl, HF.out, c3.out⟩
end Go.Proofs.YtkmhnjgncnoddaaGreat

/- Part: spec.l3Copy: contract. -/
namespace Go.Proofs.YtkmhnjgncnoddaaGreat
open Go.RowKit
attribute [local go_sem ↓] Go.wp_at_zero Go.wp_at_succ

/-- A call of a Go function, as one step of a region that draws its order and holds an append too. -/
theorem step_call {P : Program} {ops : Array Oper} {o : Oper} {a : Act} {w : World} {K : Act → World → Prop} {Q : Exit → Act → World → Prop} {E : Prop} (hgd : o.guard = none) (f : FuncId) (x : Operand) (t : TypeId)
    (ho : o.op = .call { callee := .value (.func f), args := #[x], argTypes := #[t] }) (v : Value) (hx : a.eval x = v)
    (en : ∀ args w, (callFunc f args).run P w = .ok (.enter f args) w) (R : Ending → World → Prop) (hc : Calls P f #[v] w R)
    (h : ∀ e w', R e w' → ∃ v', e = .returned v' ∧ K (a.put o.dst v') w') :
    if Region.wanted o (yielded ops a.tmps) = true then Oper.wp P o a w K Q else E := by
  have hw : Region.wanted o (yielded ops a.tmps) = true := by simp [Region.wanted, hgd]
  rw [if_pos hw]
  have hf : a.eval (.func f) = .func (.func f) #[] #[] := rfl
  unfold Oper.wp
  simp [execOp, ho, resolve, invoke, hx, hf, Deferred.ofValue, en, Oper.upon]
  refine hc.mono fun e w' hR => ?_
  obtain ⟨v', rfl, hK⟩ := h e w' hR
  exact hK

/-- The kin of the first n elements lie in blocks of their own each. -/
def DisX (xs : List Value) (n : Nat) : Prop := ∀ i j, i < n → j < n → i ≠ j → ∀ ui uj, xs[i * 2 + 1]? = some ui → xs[j * 2 + 1]? = some uj → ∀ b, ui.ownBlock = some b → uj.ownBlock ≠ some b
/-- ... below block C. -/
def BelX (xs : List Value) (n C : Nat) : Prop := ∀ i, i < n → ∀ ui, xs[i * 2 + 1]? = some ui → ∀ b, ui.ownBlock = some b → b < C
theorem DisX.zero (xs : List Value) : DisX xs 0 := fun _ _ hi => absurd hi (Nat.not_lt_zero _)
/-- The first n elements of a row are L's, their kin in memory of their own. -/
structure RowN (w : World) (B : Nat) (v : Value) (L : List ValD) (n : Nat) (xs : List Value) : Prop where
  row : w.ownsRow B 38 2 v n xs
  fil : FilledV w B xs L n
  dis : DisX xs n
theorem RowN.later {w w' : World} {B : Nat} {v : Value} {L : List ValD} {n : Nat} {xs : List Value} (h : RowN w B v L n xs) (hb : Below w.heap.size w w') : RowN w' B v L n xs :=
  ⟨row_later h.1 hb, h.2.later hb, h.3⟩
theorem RowN.set {w : World} {B : Nat} {v : Value} {L : List ValD} {n : Nat} {xs : List Value} (h : RowN w B v L n xs) {p : Addr} (hp : p.block < B) (x : Value) : RowN (w.setCell p x) B v L n xs :=
  ⟨row_same h.1 (fun k hk _ => Below.heap_setCell _ _ _ _ (by omega)), h.2.set hp x, h.3⟩
theorem Own.grownOff {w w' : World} {B : Nat} {u : Value} {l : List (Int × Int)} {row : Option Nat} (h : Own w B u l) (hg : w.grownBy w' row) (hne : ∀ g, row = some g → u.ownBlock ≠ some g) : Own w' B u l := by
  refine ⟨h.1, ?_⟩
  rcases h.2 with hn | ⟨g, cap, cur, rfl, hbg, hgg, rest⟩
  · exact .inl hn
  · refine .inr ⟨g, cap, cur, rfl, hbg, (hg.block g (Array.getElem?_eq_some_iff.1 hgg).1 (fun e => hne g e.symm rfl)).trans hgg, rest⟩
theorem own_off_row {w : World} {B B' n : Nat} {v u : Value} {xs : List Value} {l : List (Int × Int)} (h : w.ownsRow B 38 2 v n xs) (hu : Own w B' u l) : ∀ g, v.ownBlock = some g → u.ownBlock ≠ some g := by
  intro g hv hg
  rcases h.2 with ⟨rfl, _⟩ | ⟨g1, cap1, cur1, rfl, _, h1, _⟩
  · cases hv
  · rcases hu.2 with ⟨rfl, _⟩ | ⟨g2, cap2, cur2, rfl, _, h2, _⟩
    · cases hg
    · cases hv
      cases hg
      rw [h1] at h2
      have := (Option.some.inj h2)
      simp at this
theorem RowN.bel {w : World} {B : Nat} {v : Value} {L : List ValD} {n : Nat} {xs : List Value} (h : RowN w B v L n xs) : BelX xs n w.heap.size := fun i hi ui h1 b hb => by
  obtain ⟨_, u, h2, h3⟩ := h.2 i hi
  rw [h1] at h2
  cases h2
  exact (h3.block b hb).2
theorem DisX.add {xs : List Value} {n C : Nat} {x u : Value} (h : DisX xs n) (hx : xs.length = n * 2) (hC : BelX xs n C) (hu : ∀ b, u.ownBlock = some b → C ≤ b) : DisX (xs ++ [x, u]) (n + 1) := by
  have old : ∀ i, i < n → (xs ++ [x, u])[i * 2 + 1]? = xs[i * 2 + 1]? := fun i hi => List.getElem?_append_left (by omega)
  have new : (xs ++ [x, u])[n * 2 + 1]? = some u := by rw [List.getElem?_append_right (by omega), show n * 2 + 1 - xs.length = 1 from by omega]; rfl
  intro i j hi hj hij ui uj h1 h2 b hb hb'
  by_cases ei : i = n
  · have ej : j < n := by omega
    rw [ei, new] at h1
    rw [old j ej] at h2
    cases h1
    have := hC j ej uj h2 b hb'
    have := hu b hb
    omega
  · rw [old i (by omega)] at h1
    by_cases ej : j = n
    · rw [ej, new] at h2
      cases h2
      have := hC i (by omega) ui h1 b hb
      have := hu b hb'
      omega
    · rw [old j (by omega)] at h2
      exact h i j (by omega) (by omega) hij ui uj h1 h2 b hb hb'
theorem RowN.add {w w' : World} {B : Nat} {v v' u : Value} {L : List ValD} {n : Nat} {xs : List Value} (h : RowN w B v L n xs) (hx : xs.length = n * 2) (hu : Own w B u (L.getD n valD0).2)
    (hg : w.grownBy w' v.ownBlock) (ho : w'.ownsRow B 38 2 v' (n + 1) (xs ++ [.int .i64 (L.getD n valD0).1, u])) {C : Nat} (hC : BelX xs n C) (hCu : ∀ b, u.ownBlock = some b → C ≤ b) : RowN w' B v' L (n + 1) (xs ++ [.int .i64 (L.getD n valD0).1, u]) := by
  refine ⟨ho, fun i hi => ?_, h.3.add hx hC hCu⟩
  by_cases e : i = n
  · subst e
    rw [List.getElem?_append_right (by omega), List.getElem?_append_right (by omega)]
    rw [show i * 2 - xs.length = 0 from by omega, show i * 2 + 1 - xs.length = 1 from by omega]
    exact ⟨rfl, u, rfl, hu.grownOff hg (own_off_row h.1 hu)⟩
  · obtain ⟨h0, y, h1, h2⟩ := h.2 i (by omega)
    rw [List.getElem?_append_left (by omega), List.getElem?_append_left (by omega)]
    exact ⟨h0, y, h1, h2.grownOff hg (own_off_row h.1 h2)⟩

theorem after_add {w1 w5 w6 : World} {O k : Nat} {o : Obj} {v v6 u : Value} {L : List ValD} {xs : List Value} {x : ValD} (hO : O < w1.heap.size) (hz : w1.heap.size ≤ w5.heap.size)
    (hk : RowN (w5.alloc o) w1.heap.size v L k xs) (hxl : xs.length = k * 2) (hx : L.getD k valD0 = x) (hu : Own (w5.alloc o) w1.heap.size u x.2) (hg : (w5.alloc o).grownBy w6 v.ownBlock)
    (ho : w6.ownsRow w1.heap.size 38 2 v6 (k + 1) (xs ++ [.int .i64 x.1, u])) (hc : w5.cell? ⟨O, 0, none⟩ = some v) (hf : w5.frozen? ⟨O, 0, none⟩ = false) (hb : Below O w1 w5) {C : Nat} (hC : BelX xs k C) (hCu : ∀ b, u.ownBlock = some b → C ≤ b) :
    RowN w6 w1.heap.size v6 L (k + 1) (xs ++ [.int .i64 x.1, u]) ∧ w6.cell? ⟨O, 0, none⟩ = some v ∧ w6.frozen? ⟨O, 0, none⟩ = false ∧ Below O w1 w6 := by
  subst hx
  have ha : Below w5.heap.size w5 (w5.alloc o) := (Below.refl _ _).alloc (Nat.le_refl _) o
  have hOz : O < w5.heap.size := by omega
  have hoff : ∀ g, v.ownBlock = some g → O ≠ g := fun g hv => by have := (hk.1.lt g hv).1; omega
  refine ⟨hk.add hxl hu hg ho hC hCu, hg.cell ((ha.cell (p := ⟨O, 0, none⟩) hOz).trans hc) (fun e => hoff _ e.symm rfl), ?_, ?_⟩
  · exact (World.frozen?_of_block (w := w5.alloc o) (a := ⟨O, 0, none⟩) (hg.block O (Nat.lt_of_lt_of_le hOz ha.size) (fun e => hoff _ e.symm rfl))).trans ((ha.frozen (p := ⟨O, 0, none⟩) hOz).trans hf)
  · exact (hb.trans (ha.mono (Nat.le_of_lt hOz))).grown hg (Nat.le_trans (Nat.le_of_lt hOz) ha.size) (fun g hv => by have := (hk.1.lt g hv).1; omega)

set_option maxRecDepth 100000 in
set_option maxHeartbeats 4000000 in
theorem l3Copy_any (va : Value) (L : List ValD) (w : World) (h : RdG w va L) (hl : L.length = 24) (hm : ∀ k, k < 24 → (L.getD k valD0).2.length ≤ 1099511627776) :
    Calls Tryz.prog 37 #[.agg #[va]] w fun e w' => (∃ v xs, e = .returned (.agg #[v]) ∧ RowN w' w.heap.size v L 24 xs) ∧ Below w.heap.size w w' := by
  obtain ⟨i0, hi, hz0, hz1, hz2⟩ := info_parts Tryz.info38
  have HR := hid h
  obtain ⟨ao, cap, hv, _, hc⟩ := h
  obtain ⟨b, off, rfl, hlt, hcc⟩ := hc (by omega)
  subst hv
  rw [hl] at hcc HR ⊢
  have hcc := hid hcc
  have hm := hid hm
  clear hc hl
  go_enter Tryz.func37, Tryz.ntmps37
  go_wp2_with fail
  have a0_1 : (((w.alloc (.cells #[.slice (some ⟨b, off, none⟩) 24 cap] 25)).alloc (.cells #[.slice none 0 0] 25)).alloc (.cells #[.slice none 0 0] 25)).cell? ⟨w.heap.size, 0, none⟩ = some (.slice (some ⟨b, off, none⟩) 24 cap) := by go_cell
  have al_1 : w.heap.size < (((w.alloc (.cells #[.slice (some ⟨b, off, none⟩) 24 cap] 25)).alloc (.cells #[.slice none 0 0] 25)).alloc (.cells #[.slice none 0 0] 25)).heap.size := by first | (simp; done) | (simp; omega)
  have r0_1 : (((w.alloc (.cells #[.slice (some ⟨b, off, none⟩) 24 cap] 25)).alloc (.cells #[.slice none 0 0] 25)).alloc (.cells #[.slice none 0 0] 25)).cell? ⟨w.heap.size + 1, 0, none⟩ = some (.slice none 0 0) := by go_cell
  have rf0_1 : (((w.alloc (.cells #[.slice (some ⟨b, off, none⟩) 24 cap] 25)).alloc (.cells #[.slice none 0 0] 25)).alloc (.cells #[.slice none 0 0] 25)).frozen? ⟨w.heap.size + 1, 0, none⟩ = false := by (first | go_cell | (simp [World.frozen?, World.alloc]; done) | rfl)
  have rl_1 : w.heap.size + 1 < (((w.alloc (.cells #[.slice (some ⟨b, off, none⟩) 24 cap] 25)).alloc (.cells #[.slice none 0 0] 25)).alloc (.cells #[.slice none 0 0] 25)).heap.size := by first | (simp; done) | (simp; omega)
  have o0_1 : (((w.alloc (.cells #[.slice (some ⟨b, off, none⟩) 24 cap] 25)).alloc (.cells #[.slice none 0 0] 25)).alloc (.cells #[.slice none 0 0] 25)).cell? ⟨w.heap.size + 1 + 1, 0, none⟩ = some (.slice none 0 0) := by go_cell
  have of0_1 : (((w.alloc (.cells #[.slice (some ⟨b, off, none⟩) 24 cap] 25)).alloc (.cells #[.slice none 0 0] 25)).alloc (.cells #[.slice none 0 0] 25)).frozen? ⟨w.heap.size + 1 + 1, 0, none⟩ = false := by (first | go_cell | (simp [World.frozen?, World.alloc]; done) | rfl)
  have ol_1 : w.heap.size + 1 + 1 < (((w.alloc (.cells #[.slice (some ⟨b, off, none⟩) 24 cap] 25)).alloc (.cells #[.slice none 0 0] 25)).alloc (.cells #[.slice none 0 0] 25)).heap.size := by first | (simp; done) | (simp; omega)
  have c1 : Below w.heap.size w (((w.alloc (.cells #[.slice (some ⟨b, off, none⟩) 24 cap] 25)).alloc (.cells #[.slice none 0 0] 25)).alloc (.cells #[.slice none 0 0] 25)) := by go_grown
  have s1 : (((w.alloc (.cells #[.slice (some ⟨b, off, none⟩) 24 cap] 25)).alloc (.cells #[.slice none 0 0] 25)).alloc (.cells #[.slice none 0 0] 25)).heap.size = w.heap.size + 3 := by simp
  generalize (((w.alloc (.cells #[.slice (some ⟨b, off, none⟩) 24 cap] 25)).alloc (.cells #[.slice none 0 0] 25)).alloc (.cells #[.slice none 0 0] 25)) = w1 at a0_1 al_1 r0_1 rf0_1 rl_1 o0_1 of0_1 ol_1 c1 s1 ⊢
  have qa0_1 := cell_regrown a0_1
  have qr0_1 := cell_regrown r0_1
  have qo0_1 := cell_regrown o0_1
  have hrow0 := hid (show RowN w1 w1.heap.size (.slice none 0 0) L 0 [] from ⟨World.ownsRow_nil _ _ _ _, FilledV.zero _ _ _ _, DisX.zero _⟩)
  go_loopw [4] (fun i wr => ∃ (k : Nat) (v : Value) (xs : List Value), k ≤ 24 ∧ i = .int .i64 k ∧ Hid (wr.cell? ⟨w.heap.size + 1 + 1, 0, none⟩ = some v) ∧ Hid (wr.frozen? ⟨w.heap.size + 1 + 1, 0, none⟩ = false) ∧ Hid (RowN wr w1.heap.size v L k xs) ∧ Hid (xs.length = k * 2) ∧ Hid (Below (w.heap.size + 1 + 1) w1 wr)) (fun i _ => 24 - (intOf i).toNat)
  case atStart => exact ⟨0, _, [], Nat.zero_le _, rfl, o0_1, of0_1, hrow0, rfl, Below.refl _ _⟩
  case round =>
    clear hrow0 o0_1 of0_1
    obtain ⟨k, v, xs, hk, rfl, hco, hfo, hrow, hxl, hbel⟩ := hrel
    have o0 := hco.out
    have of0 := hfo.out
    have a0 := (hbel.out.cell (p := ⟨w.heap.size, 0, none⟩) (by show w.heap.size < w.heap.size + 1 + 1; omega)).trans a0_1
    have r0 := (hbel.out.cell (p := ⟨w.heap.size + 1, 0, none⟩) (by show w.heap.size + 1 < w.heap.size + 1 + 1; omega)).trans r0_1
    have rf0 := (hbel.out.frozen (p := ⟨w.heap.size + 1, 0, none⟩) (by show w.heap.size + 1 < w.heap.size + 1 + 1; omega)).trans rf0_1
    have hz := hbel.out.size
    by_cases hlt' : k < 24
    · obtain ⟨h0, u, h1, hr⟩ := hcc.out k hlt'
      have cw := c1.trans (hbel.out.mono (show w.heap.size ≤ w.heap.size + 1 + 1 from by omega))
      rw [← cw.cell (p := ⟨b, off + k * 2, none⟩) hlt] at h0
      rw [← cw.cell (p := ⟨b, off + k * 2 + 1, none⟩) hlt] at h1
      have hmk := hm.out k hlt'
      have HU := hid (hr.later cw)
      obtain ⟨x, hx⟩ : ∃ x, L.getD k valD0 = x := ⟨_, rfl⟩
      rw [hx] at h0 HU hmk hr
      obtain ⟨uo, uc, rfl, _⟩ := id hr
      have HX := hid hx
      have hbz : b < wr.heap.size := by have := cw.size; omega
      have hk1 : k + 1 ≤ maxLen := by unfold maxLen; omega
      have hk2 : (k + 1) * 32 ≤ 140737488355328 := by omega
      have hltI : (k : Int) < 24 := by omega
      clear hr hx cw hco hfo
      go_upto_region 5 with fail
      go_region_law (first
        | (refine step_call rfl 100 _ _ rfl _ (by simp [Act.eval]) Tryz.call100 _ (l2Copy_any x.1 _ x.2 _ (HU.out.later (by go_grown)) hmk) ?_; rintro e w5 ⟨u', rfl, ho, b5⟩; refine ⟨_, rfl, ?_⟩; obtain ⟨uo', uc', huv, _⟩ := ho.rd; subst huv; have d5 : Below wr.heap.size wr w5 := (Below.refl _ wr).drew.trans b5; have HK5 := hid (hrow.out.later d5); have o0_5 := (d5.cell (p := ⟨w.heap.size + 1 + 1, 0, none⟩) (by show w.heap.size + 1 + 1 < wr.heap.size; omega)).trans o0; have of0_5 := (d5.frozen (p := ⟨w.heap.size + 1 + 1, 0, none⟩) (by show w.heap.size + 1 + 1 < wr.heap.size; omega)).trans of0; have HO5 := hid (Own.mono ho (B' := w1.heap.size) hz); have HCU := hid (show ∀ b, (Value.slice uo' x.2.length uc').ownBlock = some b → wr.heap.size ≤ b from fun b hb => (ho.block b hb).1); have HBEL := hid hrow.out.bel; have hz5 := d5.size; have HB5 := hid (hbel.out.trans (d5.mono (by omega))); have HK6 := hid (HK5.out.later ((Below.refl _ w5).alloc (Nat.le_refl _) (.cells #[.int .i64 x.1, .slice uo' x.2.length uc'] 38))); have HNW := hid (cells_two_new w5 (.int .i64 x.1) (.slice uo' x.2.length uc') 38); have HO6 := hid (HO5.out.later ((Below.refl _ w5).alloc (Nat.le_refl _) (.cells #[.int .i64 x.1, .slice uo' x.2.length uc'] 38))); have hz6 : w1.heap.size ≤ (w5.alloc (.cells #[.int .i64 x.1, .slice uo' x.2.length uc'] 38)).heap.size := (by simp; omega); have hz5' : w1.heap.size ≤ w5.heap.size := Nat.le_trans hz hz5; have o0_6 := (((Below.refl _ w5).alloc (Nat.le_refl _) (.cells #[.int .i64 x.1, .slice uo' x.2.length uc'] 38)).cell (p := ⟨w.heap.size + 1 + 1, 0, none⟩) (Nat.lt_of_lt_of_le ol_1 hz5')).trans o0_5; clear ho b5 d5)
        | (refine step_append_own rfl _ _ 23 rfl w1.heap.size 38 i0 (.agg #[.int .i64 0, .slice none 0 0]) 2 32 Tryz.underlying23 hi hz0 hz1 hz2 rfl (by decide) v k xs (by simp [Act.eval]) HK6.out.1 ⟨w5.heap.size, 0, none⟩ 1 1 [.int .i64 x.1, .slice uo' x.2.length uc'] (by simp [Act.eval]) rfl HNW.out (by simp [Value.oneCell']) hk1 hk2 hz6 ?_; intro v6 w6 hown6 hgrow6 _; obtain ⟨g6, c6, hv6⟩ := ownsRow_succ hown6; subst hv6; obtain ⟨HK7', o0_7, of0_7, HB7'⟩ := after_add (O := w.heap.size + 1 + 1) ol_1 hz5' HK6.out hxl.out HX.out HO6.out hgrow6 hown6 o0_5 of0_5 HB5.out HBEL.out HCU.out; have HK7 := hid HK7'; have HB7 := hid HB7'; clear hown6 hgrow6 HK7' HB7'))
      all_goals
        have HK8 := hid (HK7.out.set (p := ⟨w.heap.size + 1 + 1, 0, none⟩) (by show w.heap.size + 1 + 1 < w1.heap.size; omega) (.slice (some ⟨g6, 0, none⟩) (k + 1) c6))
        have hc8 : Hid ((w6.setCell ⟨w.heap.size + 1 + 1, 0, none⟩ (.slice (some ⟨g6, 0, none⟩) (k + 1) c6)).cell? ⟨w.heap.size + 1 + 1, 0, none⟩ = some (.slice (some ⟨g6, 0, none⟩) (k + 1) c6)) := by
          show _ = _
          go_cell
        have hf8 : Hid ((w6.setCell ⟨w.heap.size + 1 + 1, 0, none⟩ (.slice (some ⟨g6, 0, none⟩) (k + 1) c6)).frozen? ⟨w.heap.size + 1 + 1, 0, none⟩ = false) := by
          show _ = _
          simpa using of0_7
        have HB8 := hid (HB7.out.setCell (p := ⟨w.heap.size + 1 + 1, 0, none⟩) (Nat.le_refl _) (.slice (some ⟨g6, 0, none⟩) (k + 1) c6))
        have hx8 : Hid ((xs ++ [Value.int .i64 x.1, Value.slice uo' x.2.length uc']).length = (k + 1) * 2) := by
          show _ = _
          have := hxl.out
          simp
          omega
        go_wp2
        go_roundw
        case rel => exact ⟨k + 1, _, _, by omega, by go_num, hc8, hf8, HK8, hx8, HB8⟩
        case measure => simp [intOf]; omega
    · have hk24 : k = 24 := by omega
      subst hk24
      have hv1 : v.oneCell' = true := by
        rcases hrow.out.1.2 with ⟨rfl, _⟩ | ⟨g, cp, cur, rfl, _⟩ <;> rfl
      have hF := hid ((hrow.out.set (p := ⟨w.heap.size + 1, 0, none⟩) (by show w.heap.size + 1 < w1.heap.size; omega) v))
      have c3 := hid ((c1.trans (hbel.out.mono (by omega))).setCell (p := ⟨w.heap.size + 1, 0, none⟩) (by show w.heap.size ≤ w.heap.size + 1; omega) v)
      obtain ⟨g, cp, rfl⟩ := ownsRow_succ hrow.out.1
      have e0 : (wr.setCell ⟨w.heap.size + 1, 0, none⟩ (.slice (some ⟨g, 0, none⟩) 24 cp)).cell? ⟨w.heap.size + 1, 0, none⟩ = some (.slice (some ⟨g, 0, none⟩) 24 cp) := by go_cell
      go_wp2
      refine bodyPost_ret (v := .agg #[.slice (some ⟨g, 0, none⟩) 24 cp]) (by simp [results, Tryz.results37, go_sem, e0]) rfl ⟨⟨_, _, rfl, row_mono hF.out.1 (by omega), ?_, hF.out.3⟩, c3.out⟩
      exact fun i hi => by obtain ⟨h0, u, h1, h2⟩ := hF.out.2 i hi; exact ⟨h0, u, h1, h2.mono (by omega)⟩
end Go.Proofs.YtkmhnjgncnoddaaGreat

/- Part: Plain: two edges put into a list that is ok, in either order; what a list is without the one who was put in. -/
namespace Go.Proofs.YtkmhnjgncnoddaaGreat

/-- l with (who, at'). -/
def putL (l : List (Int × Int)) (who at' : Int) : List (Int × Int) := insL (l.filter (notWho who)) (who, at')
theorem addL_yes {l : List (Int × Int)} {who at' : Int} (h : addB l who at' = true) : addL l who at' = putL l who at' := by
  unfold addL; rw [if_pos h]; rfl
theorem addL_no {l : List (Int × Int)} {who at' : Int} (h : addB l who at' = false) : addL l who at' = [] := by
  unfold addL; rw [if_neg (by rw [h]; decide)]
theorem addB_iff {l : List (Int × Int)} {who at' : Int} : addB l who at' = true ↔ okL l = true ∧ rightB (who, at') = true := by
  simp [addB]
theorem mem_put {l : List (Int × Int)} {who at' : Int} {x : Int × Int} : x ∈ putL l who at' ↔ x = (who, at') ∨ (x ∈ l ∧ x.1 ≠ who) := by
  unfold putL; rw [mem_insL, mem_filter_notWho]
theorem okL_put {l : List (Int × Int)} {who at' : Int} (h : okL l = true) (he : rightB (who, at') = true) : okL (putL l who at') = true := okL_add h he
theorem put_put_ne {l : List (Int × Int)} {who at' other when' : Int} (h : okL l = true) (he : rightB (who, at') = true) (hf : rightB (other, when') = true) (hne : who ≠ other) :
    putL (putL l who at') other when' = putL (putL l other when') who at' := by
  refine okL_ext (okL_put (okL_put h he) hf) (okL_put (okL_put h hf) he) fun x => ?_
  rw [mem_put, mem_put, mem_put, mem_put]
  constructor
  · rintro (rfl | ⟨rfl | ⟨hx, h1⟩, h2⟩)
    · exact .inr ⟨.inl rfl, fun e => hne e.symm⟩
    · exact .inl rfl
    · exact .inr ⟨.inr ⟨hx, h2⟩, h1⟩
  · rintro (rfl | ⟨rfl | ⟨hx, h1⟩, h2⟩)
    · exact .inr ⟨.inl rfl, hne⟩
    · exact .inl rfl
    · exact .inr ⟨.inr ⟨hx, h2⟩, h1⟩
theorem put_put_eq {l : List (Int × Int)} {who at' when' : Int} (h : okL l = true) (he : rightB (who, at') = true) (hf : rightB (who, when') = true) :
    putL (putL l who at') who when' = putL l who when' := by
  refine okL_ext (okL_put (okL_put h he) hf) (okL_put h hf) fun x => ?_
  rw [mem_put, mem_put, mem_put]
  constructor
  · rintro (rfl | ⟨rfl | ⟨hx, h1⟩, h2⟩)
    · exact .inl rfl
    · exact absurd rfl h2
    · exact .inr ⟨hx, h2⟩
  · rintro (rfl | ⟨hx, h1⟩)
    · exact .inl rfl
    · exact .inr ⟨.inr ⟨hx, h1⟩, h1⟩
theorem put_drop {l : List (Int × Int)} {who at' : Int} (h : okL l = true) (he : rightB (who, at') = true) : (putL l who at').filter (notWho who) = l.filter (notWho who) := by
  refine okL_ext (okL_filter _ _ (okL_put h he)) (okL_filter _ _ h) fun x => ?_
  rw [mem_filter_notWho, mem_filter_notWho, mem_put]
  constructor
  · rintro ⟨rfl | ⟨hx, _⟩, h2⟩
    · exact absurd rfl h2
    · exact ⟨hx, h2⟩
  · rintro ⟨hx, h2⟩
    exact ⟨.inr ⟨hx, h2⟩, h2⟩
theorem put_has {l : List (Int × Int)} {who at' : Int} (h : okL l = true) (he : rightB (who, at') = true) : hasL (putL l who at') who = (at', true) :=
  hasL_of_mem (okL_put h he) (mem_put.2 (.inl rfl))
theorem put_other {l : List (Int × Int)} {who at' i : Int} (h : okL l = true) (he : rightB (who, at') = true) (hi : i ≠ who) : hasL (putL l who at') i = hasL l i := by
  cases hh : (hasL l i).2 with
  | true =>
    have hm := hasL_mem hh
    have := hasL_of_mem (okL_put (at' := at') h he) (mem_put.2 (.inr ⟨hm, hi⟩))
    have h2 := hasL_of_mem h hm
    rw [this, h2]
  | false =>
    have hn := hasL_none hh
    rw [hasL_fst hh]
    cases hp : (hasL (putL l who at') i).2 with
    | true =>
      rcases mem_put.1 (hasL_mem hp) with e | ⟨hm, _⟩
      · exact absurd (congrArg Prod.fst e) hi
      · exact absurd rfl (hn _ hm)
    | false => exact hasL_fst hp
theorem put_length {l : List (Int × Int)} {who at' : Int} (h : okL l = true) : (putL l who at').length = if (hasL l who).2 = true then l.length else l.length + 1 := by
  unfold putL
  rw [insL_length]
  cases hh : (hasL l who).2 with
  | true => have := filter_one h hh; simp; omega
  | false => simp [filter_none (hasL_none hh)]
end Go.Proofs.YtkmhnjgncnoddaaGreat

/- Part: A graph that is ok, behind a write: plain facts. -/
namespace Go.Proofs.YtkmhnjgncnoddaaGreat
open Go.RowKit

/-- Each bond is told by both of its ends, as what is in the rows. -/
def Both (L : List ValD) : Prop := ∀ a b : Nat, a < 8 → b < 8 → ∀ t : Int, ((b : Int), t) ∈ (L.getD (16 + a) valD0).2 ↔ ((a : Int), t) ∈ (L.getD (8 + b) valD0).2
theorem okG_iff {L : List ValD} : okG L = true ↔ L.length = 24 ∧ RightTo L 24 ∧ Both L := by
  constructor
  · intro h
    obtain ⟨hl, hR, h1, h2⟩ := okG_true h
    rw [ends_mem hR (by omega) (by omega)] at h1 h2
    refine ⟨hl, hR, fun a b ha hb t => ⟨fun hx => ?_, fun hx => ?_⟩⟩
    · have := h1 a ha _ hx
      simpa using this
    · have := h2 b hb _ hx
      simpa using this
  · rintro ⟨hl, hR, hB⟩
    rw [okG, decide_eq_true hl, rightG_iff.2 hR, Bool.true_and, Bool.true_and, Bool.and_eq_true, endsG_iff, endsG_iff, ends_mem hR (by omega) (by omega), ends_mem hR (by omega) (by omega)]
    refine ⟨fun a ha x hx => ?_, fun a ha x hx => ?_⟩
    · have r := rightB_iff.1 (okL_mem (hR.ok (k := 16 + a) (by omega)) hx)
      refine (hB a x.1.toNat ha (by omega) x.2).1 ?_
      rw [show ((x.1.toNat : Nat) : Int) = x.1 from by omega]
      exact hx
    · have r := rightB_iff.1 (okL_mem (hR.ok (k := 8 + a) (by omega)) hx)
      refine (hB x.1.toNat a (by omega) ha x.2).2 ?_
      rw [show ((x.1.toNat : Nat) : Int) = x.1 from by omega]
      exact hx
theorem RightTo.put {L : List ValD} (h : RightTo L 24) (hl : L.length = 24) {j : Nat} (hj : j < 24) {x : ValD} (hx : okV (j : Int) x.1 x.2 = true) : RightTo (L.set j x) 24 := fun i hi => by
  rw [getD_set (by rw [hl]; exact hj)]
  by_cases e : i = j
  · subst e; rw [if_pos rfl]; exact hx
  · rw [if_neg e]; exact h i hi
theorem okV_kinL {j : Nat} (h8 : 8 ≤ j) (hj : j < 24) {l : List (Int × Int)} (hl : okL l = true) : okV (j : Int) 0 l = true := by
  rw [okV_kin (by omega) (by omega) (by omega), hl]
  rfl
/-- Two rows of a bond, changed alike, leave a graph ok. -/
theorem okG_two {L : List ValD} (h : okG L = true) {a b : Nat} (ha : a < 8) (hb : b < 8) {l m : List (Int × Int)} (hl : okL l = true) (hm : okL m = true)
    (h1 : ∀ x, x.1 ≠ (b : Int) → (x ∈ l ↔ x ∈ (L.getD (16 + a) valD0).2)) (h2 : ∀ x, x.1 ≠ (a : Int) → (x ∈ m ↔ x ∈ (L.getD (8 + b) valD0).2)) (h3 : ∀ t, ((b : Int), t) ∈ l ↔ ((a : Int), t) ∈ m) :
    okG ((L.set (16 + a) (0, l)).set (8 + b) (0, m)) = true := by
  obtain ⟨hL, hR, hB⟩ := okG_iff.1 h
  have hL1 : (L.set (16 + a) (0, l)).length = 24 := by rw [List.length_set]; exact hL
  refine okG_iff.2 ⟨by rw [List.length_set]; exact hL1, (hR.put hL (by omega) (okV_kinL (by omega) (by omega) hl)).put hL1 (by omega) (okV_kinL (by omega) (by omega) hm), fun a' b' ha' hb' t => ?_⟩
  rw [getD_set (by rw [hL1]; omega), getD_set (by rw [hL]; omega), getD_set (by rw [hL1]; omega), getD_set (by rw [hL]; omega)]
  rw [if_neg (show ¬ 16 + a' = 8 + b by omega), if_neg (show ¬ 8 + b' = 16 + a by omega)]
  by_cases e1 : a' = a <;> by_cases e2 : b' = b
  · subst e1; subst e2
    rw [if_pos rfl, if_pos rfl]
    exact h3 t
  · subst e1
    rw [if_pos rfl, if_neg (by omega)]
    rw [show (((0 : Int), l).2) = l from rfl, h1 ((b' : Int), t) (by show (b' : Int) ≠ b; omega)]
    exact hB a' b' ha' hb' t
  · subst e2
    rw [if_neg (by omega), if_pos rfl]
    rw [show (((0 : Int), m).2) = m from rfl, h2 ((a' : Int), t) (by show (a' : Int) ≠ a; omega)]
    exact hB a' b' ha' hb' t
  · rw [if_neg (by omega), if_neg (by omega)]
    exact hB a' b' ha' hb' t
theorem okG_set {L : List ValD} (h : okG L = true) {a : Nat} (ha : a < 8) {n : Int} (h0 : 0 ≤ n) (h1 : n ≤ 1000000) : okG (L.set a (n, [])) = true := by
  obtain ⟨hL, hR, hB⟩ := okG_iff.1 h
  refine okG_iff.2 ⟨by rw [List.length_set]; exact hL, hR.put hL (by omega) (by rw [okV_numD (by omega) (by omega) (by omega) h0 h1]; rfl), fun a' b' ha' hb' t => ?_⟩
  rw [getD_set (by rw [hL]; omega), getD_set (by rw [hL]; omega), if_neg (by omega), if_neg (by omega)]
  exact hB a' b' ha' hb' t
/-- A graph that is ok stays so behind a write. -/
theorem okG_do {L : List ValD} (h : okG L = true) (k a b n : Int) : okG (doG L k a b n) = true := by
  obtain ⟨hL, hR, hB⟩ := okG_iff.1 h
  unfold doG
  split
  · next hs =>
    obtain ⟨_, ha, _, hn⟩ := hs
    exact okG_set h (by omega) hn.1 hn.2
  · split
    · next hs =>
      obtain ⟨_, ha, hb, _, hn⟩ := hs
      have o1 := hR.ok (k := 16 + a.toNat) (by omega)
      have o2 := hR.ok (k := 8 + b.toNat) (by omega)
      have r1 : rightB (b, n) = true := rightB_iff.2 ⟨hb.1, hb.2, hn.1, hn.2⟩
      have r2 : rightB (a, n) = true := rightB_iff.2 ⟨ha.1, ha.2, hn.1, hn.2⟩
      rw [addL_yes (addB_iff.2 ⟨o1, r1⟩), addL_yes (addB_iff.2 ⟨o2, r2⟩)]
      refine okG_two h (by omega) (by omega) (okL_put o1 r1) (okL_put o2 r2) (fun x hx => ?_) (fun x hx => ?_) (fun t => ?_)
      · rw [mem_put]
        have hx' : x.1 ≠ b := by omega
        constructor
        · rintro (rfl | ⟨h1, _⟩)
          · exact absurd rfl hx'
          · exact h1
        · exact fun h1 => .inr ⟨h1, hx'⟩
      · rw [mem_put]
        have hx' : x.1 ≠ a := by omega
        constructor
        · rintro (rfl | ⟨h1, _⟩)
          · exact absurd rfl hx'
          · exact h1
        · exact fun h1 => .inr ⟨h1, hx'⟩
      · rw [mem_put, mem_put]
        have eb : ((b.toNat : Nat) : Int) = b := by omega
        have ea : ((a.toNat : Nat) : Int) = a := by omega
        rw [eb, ea]
        simp
    · split
      · next hs =>
        obtain ⟨_, ha, hb, _, _⟩ := hs
        have o1 := hR.ok (k := 16 + a.toNat) (by omega)
        have o2 := hR.ok (k := 8 + b.toNat) (by omega)
        rw [dropL_yes o1, dropL_yes o2]
        have eb : ((b.toNat : Nat) : Int) = b := by omega
        have ea : ((a.toNat : Nat) : Int) = a := by omega
        refine okG_two h (by omega) (by omega) (okL_filter _ _ o1) (okL_filter _ _ o2) (fun x hx => ?_) (fun x hx => ?_) (fun t => ?_)
        · rw [mem_filter_notWho]
          exact ⟨fun h1 => h1.1, fun h1 => ⟨h1, by omega⟩⟩
        · rw [mem_filter_notWho]
          exact ⟨fun h1 => h1.1, fun h1 => ⟨h1, by omega⟩⟩
        · rw [mem_filter_notWho, mem_filter_notWho, eb, ea]
          simp
      · exact h
/-- A graph behind a write, key by key. -/
theorem doG_ways (L : List ValD) {k a b n : Int} (h : opOk k a b n = true) : ∃ J : Nat, J < 24 ∧ opKey k a b n = (J : Int) ∧
    ((opOther k a b n = -1 ∧ doG L k a b n = L.set J (doN k a b n, doL k a b n (L.getD J valD0).2)) ∨
     (∃ I : Nat, I < 24 ∧ I ≠ J ∧ opOther k a b n = (I : Int) ∧ doG L k a b n = (L.set J (doN k a b n, doL k a b n (L.getD J valD0).2)).set I (0, backL k a b n (L.getD I valD0).2))) := by
  rcases op_ways k a b n with ⟨hs, -, e1, e2⟩ | ⟨hs, -, e1, e2⟩ | ⟨hs, -, e1, e2⟩ | ⟨-, -, -, e, -⟩
  · obtain ⟨_, ha, _⟩ := id hs
    refine ⟨a.toNat, by omega, by rw [e1]; omega, .inl ⟨e2, ?_⟩⟩
    rcases do_ways k a b n (L.getD a.toNat valD0).2 with ⟨_, h1, h2, _⟩ | ⟨h0, _⟩ | ⟨h0, _⟩ | ⟨h0, _⟩
    · rw [doG, if_pos hs, h1, h2]
    · have := h0.1; have := hs.1; omega
    · have := h0.1; have := hs.1; omega
    · exact absurd hs h0
  · obtain ⟨_, ha, hb, _⟩ := id hs
    have h1 : ¬ setOk k a b n := fun h => by have := h.1; have := hs.1; omega
    refine ⟨16 + a.toNat, by omega, by rw [e1]; omega, .inr ⟨8 + b.toNat, by omega, by omega, by rw [e2]; omega, ?_⟩⟩
    have d1 := do_ways k a b n (L.getD (16 + a.toNat) valD0).2
    have d2 := do_ways k a b n (L.getD (8 + b.toNat) valD0).2
    rcases d1 with ⟨h0, _⟩ | ⟨_, x1, x2, _⟩ | ⟨h0, _⟩ | ⟨_, h0, _⟩
    · exact absurd h0 h1
    · rcases d2 with ⟨h0, _⟩ | ⟨_, _, _, x3⟩ | ⟨h0, _⟩ | ⟨_, h0, _⟩
      · exact absurd h0 h1
      · rw [doG, if_neg h1, if_pos hs, x1, x2, x3]
      · have := h0.1; have := hs.1; omega
      · exact absurd hs h0
    · have := h0.1; have := hs.1; omega
    · exact absurd hs h0
  · obtain ⟨_, ha, hb, _⟩ := id hs
    have h1 : ¬ setOk k a b n := fun h => by have := h.1; have := hs.1; omega
    have h2 : ¬ bindOk k a b n := fun h => by have := h.1; have := hs.1; omega
    refine ⟨16 + a.toNat, by omega, by rw [e1]; omega, .inr ⟨8 + b.toNat, by omega, by omega, by rw [e2]; omega, ?_⟩⟩
    have d1 := do_ways k a b n (L.getD (16 + a.toNat) valD0).2
    have d2 := do_ways k a b n (L.getD (8 + b.toNat) valD0).2
    rcases d1 with ⟨h0, _⟩ | ⟨h0, _⟩ | ⟨_, x1, x2, _⟩ | ⟨_, _, h0, _⟩
    · exact absurd h0 h1
    · exact absurd h0 h2
    · rcases d2 with ⟨h0, _⟩ | ⟨h0, _⟩ | ⟨_, _, _, x3⟩ | ⟨_, _, h0, _⟩
      · exact absurd h0 h1
      · exact absurd h0 h2
      · rw [doG, if_neg h1, if_neg h2, if_pos hs, x1, x2, x3]
      · exact absurd hs h0
    · exact absurd hs h0
  · rw [h] at e; cases e
end Go.Proofs.YtkmhnjgncnoddaaGreat

/- Part: spec.GraphOk: contract. -/
namespace Go.Proofs.YtkmhnjgncnoddaaGreat
open Go.RowKit
attribute [local go_sem ↓] Go.wp_at_zero Go.wp_at_succ

def formG (L : List ValD) : Bool := decide (L.length = 24) && rightG L
theorem formG_len {L : List ValD} (h : L.length ≠ 24) : formG L = false := by simp [formG, h]
theorem formG_yes {L : List ValD} (hl : L.length = 24) : formG L = rightG L := by simp [formG, hl]
theorem okG_form (L : List ValD) : okG L = (formG L && (endsG L 16 8 && endsG L 8 16)) := rfl

set_option maxRecDepth 100000 in
set_option maxHeartbeats 1000000 in
theorem l3Form_any (va : Value) (L : List ValD) (w : World) (h : RdG w va L) :
    Calls Tryz.prog 48 #[.agg #[va]] w fun e w' => e = .returned (.bool (formG L)) ∧ Below w.heap.size w w' := by
  obtain ⟨ao, cap, rfl, _, hc⟩ := h
  by_cases hl : L.length = 24
  · obtain ⟨b, off, rfl, hlt, hcc⟩ := hc (by omega)
    rw [hl] at hcc ⊢
    rw [formG_yes hl]
    have g1 : Below w.heap.size w (w.alloc (.cells #[.slice (some ⟨b, off, none⟩) 24 cap] 25)) := by go_grown
    have e0 : (w.alloc (.cells #[.slice (some ⟨b, off, none⟩) 24 cap] 25)).cell? ⟨w.heap.size, 0, none⟩ = some (.slice (some ⟨b, off, none⟩) 24 cap) := by go_cell
    have z0 : w.heap.size < (w.alloc (.cells #[.slice (some ⟨b, off, none⟩) 24 cap] 25)).heap.size := by simp
    have hcc := hid hcc
    clear hc
    go_enter Tryz.func48, Tryz.ntmps48
    go_wp2_with fail
    generalize w.alloc (.cells #[.slice (some ⟨b, off, none⟩) 24 cap] 25) = w1 at *
    go_loopw [3] (fun i wr => ∃ k : Nat, k ≤ 24 ∧ i = .int .i64 k ∧ Hid (RightTo L k) ∧ Below w1.heap.size w1 wr) (fun i _ => 24 - (intOf i).toNat)
    case atStart => exact ⟨0, Nat.zero_le _, rfl, RightTo.zero L, Below.refl _ _⟩
    case round =>
      obtain ⟨k, hk, rfl, hpre, hbel⟩ := hrel
      by_cases hlt' : k < 24
      · obtain ⟨h0, u, h1, hr⟩ := hcc.out k hlt'
        have g2 := g1.trans (hbel.mono g1.size)
        rw [← g2.cell (p := ⟨b, off + k * 2, none⟩) hlt] at h0
        rw [← g2.cell (p := ⟨b, off + k * 2 + 1, none⟩) hlt] at h1
        have e1 := (hbel.cell (p := ⟨w.heap.size, 0, none⟩) z0).trans e0
        have HR := hid (hr.later g2)
        obtain ⟨uo, uc, rfl, _⟩ := id hr
        have hyes : Hid (okV (k : Int) (L.getD k valD0).1 (L.getD k valD0).2 = true → RightTo L (k + 1)) := hid (fun h => hpre.out.step h)
        have hno : Hid (okV (k : Int) (L.getD k valD0).1 (L.getD k valD0).2 = false → rightG L = false) := hid (fun h => rightG_no k hlt' h)
        have hsz := hbel.size
        clear hpre g2 hr
        generalize L.getD k valD0 = x at *
        go_wp2_with fail
        refine (specOkV_any (k : Int) x.1 _ x.2 _ (HR.out.later (by go_grown))).mono ?_
        rintro e w2 ⟨rfl, b2⟩
        have c2 := hid (hbel.trans ((show Below wr.heap.size wr w2 from (Below.trans (by go_grown) (b2.mono (by first | omega | (simp; done) | (simp; omega))))).mono hsz))
        clear b2
        cases hok : okV (k : Int) x.1 x.2 with
        | true =>
          have hN := hid (hyes.out hok)
          go_wp2
          go_roundw
          case rel => exact ⟨k + 1, by omega, by go_num, hN, c2⟩
          case measure => simp [intOf]; omega
        | false =>
          have hN := hno.out hok
          go_wp2
          go_ret
          exact ⟨by simp [hN], g1.trans (c2.out.mono g1.size)⟩
      · have hk24 : k = 24 := by omega
        subst hk24
        have hall : rightG L = true := rightG_iff.2 hpre.out
        go_wp2
        go_ret
        exact ⟨by simp [hall], g1.trans (hbel.mono g1.size)⟩
  · rw [formG_len hl]
    have hlI : ((L.length : Int) != 24) = true := by simp; omega
    go_enter Tryz.func48, Tryz.ntmps48
    go_wp2
    go_ret
    exact ⟨by simp, by go_grown⟩

theorem EndsTo.step {L : List ValD} {p q a : Nat} (h : EndsTo L p q a) (hr : ∀ i, i < (L.getD (p + a) valD0).2.length →
    hasL (L.getD (q + ((L.getD (p + a) valD0).2.getD i (0, 0)).1.toNat) valD0).2 (a : Int) = (((L.getD (p + a) valD0).2.getD i (0, 0)).2, true)) : EndsTo L p q (a + 1) := fun j hj => by
  rcases Nat.lt_succ_iff_lt_or_eq.1 hj with hj | rfl
  · exact h j hj
  · exact hr
theorem endsG_no {L : List ValD} {p q a i : Nat} (ha : a < 8) (hi : i < (L.getD (p + a) valD0).2.length)
    (hn : ¬ hasL (L.getD (q + ((L.getD (p + a) valD0).2.getD i (0, 0)).1.toNat) valD0).2 (a : Int) = (((L.getD (p + a) valD0).2.getD i (0, 0)).2, true)) : endsG L p q = false := by
  rw [Bool.eq_false_iff]
  intro e
  exact hn (endsG_iff.1 e a ha i hi)
theorem make_at (kk : Int) (p : Nat) (hk : ∀ a : Int, 0 ≤ a → a < 8 → keyOf kk a = (p : Int) + a) (a : Nat) (ha : a < 8) (w : World) :
    Calls Tryz.prog 101 #[.int .i64 kk, .int .i64 (a : Int)] w fun e w' => e = .returned (.int .i64 ((p + a : Nat) : Int)) ∧ Below w.heap.size w w' := by
  refine (specMake_any kk (a : Int) w).mono ?_
  rintro e w1 ⟨rfl, rfl⟩
  refine ⟨?_, Below.refl _ _⟩
  rw [hk _ (by omega) (by omega)]
  congr 2
theorem make_to (kk : Int) (q : Nat) (hk : ∀ a : Int, 0 ≤ a → a < 8 → keyOf kk a = (q : Int) + a) (who : Int) (h0 : 0 ≤ who) (h1 : who < 8) (w : World) :
    Calls Tryz.prog 101 #[.int .i64 kk, .int .i64 who] w fun e w' => e = .returned (.int .i64 ((q + who.toNat : Nat) : Int)) ∧ Below w.heap.size w w' := by
  refine (specMake_any kk who w).mono ?_
  rintro e w1 ⟨rfl, rfl⟩
  refine ⟨?_, Below.refl _ _⟩
  rw [hk _ h0 h1]
  congr 2
  omega
theorem has_at (v : Value) (l : List (Int × Int)) (who : Int) (w : World) (h : Rd w v l) :
    Calls Tryz.prog 108 #[v, .int .i64 who] w fun e w' => e = .returned (.tuple #[.int .i64 (hasL l who).1, .bool (hasL l who).2]) ∧ Below w.heap.size w w' :=
  (specHas_any v l who w h).mono fun _ _ ⟨he, hw⟩ => ⟨he, hw ▸ Below.refl _ _⟩

set_option maxRecDepth 100000 in
set_option maxHeartbeats 2000000 in
theorem l3Ends_any (b off cap : Nat) (L : List ValD) (w : World) (kk oo : Int) (p q : Nat) (hlt : b < w.heap.size)
    (hcc : ∀ i, i < 24 → w.cell? ⟨b, off + i * 2, none⟩ = some (.int .i64 (L.getD i valD0).1) ∧ ∃ u, w.cell? ⟨b, off + i * 2 + 1, none⟩ = some u ∧ Rd w u (L.getD i valD0).2)
    (hR : RightTo L 24) (hp : p + 8 ≤ 24) (hq : q + 8 ≤ 24)
    (hk : ∀ a : Int, 0 ≤ a → a < 8 → keyOf kk a = (p : Int) + a) (ho : ∀ a : Int, 0 ≤ a → a < 8 → keyOf oo a = (q : Int) + a) :
    Calls Tryz.prog 49 #[.agg #[.slice (some ⟨b, off, none⟩) 24 cap], .int .i64 kk, .int .i64 oo] w fun e w' => e = .returned (.bool (endsG L p q)) ∧ Below w.heap.size w w' := by
  have g1 : Below w.heap.size w (w.alloc (.cells #[.slice (some ⟨b, off, none⟩) 24 cap] 25)) := by go_grown
  have e0 : (w.alloc (.cells #[.slice (some ⟨b, off, none⟩) 24 cap] 25)).cell? ⟨w.heap.size, 0, none⟩ = some (.slice (some ⟨b, off, none⟩) 24 cap) := by go_cell
  have z0 : w.heap.size < (w.alloc (.cells #[.slice (some ⟨b, off, none⟩) 24 cap] 25)).heap.size := by simp
  have hcc := hid hcc
  have hR := hid hR
  have hk := hid hk
  have ho := hid ho
  go_enter Tryz.func49, Tryz.ntmps49
  go_wp2_with fail
  generalize w.alloc (.cells #[.slice (some ⟨b, off, none⟩) 24 cap] 25) = w1 at *
  go_loopw [7] (fun i wr => ∃ a : Nat, a ≤ 8 ∧ i = .int .i64 a ∧ Hid (EndsTo L p q a) ∧ Below w1.heap.size w1 wr) (fun i _ => 8 - (intOf i).toNat)
  case atStart => exact ⟨0, Nat.zero_le _, rfl, fun _ h => absurd h (Nat.not_lt_zero _), Below.refl _ _⟩
  case round =>
    obtain ⟨a, ha, rfl, hpre, hbel⟩ := hrel
    by_cases hlt' : a < 8
    · obtain ⟨_, u, h1, hr⟩ := hcc.out (p + a) (by omega)
      have g2 := g1.trans (hbel.mono g1.size)
      rw [← g2.cell (p := ⟨b, off + (p + a) * 2 + 1, none⟩) hlt] at h1
      have e1 := (hbel.cell (p := ⟨w.heap.size, 0, none⟩) z0).trans e0
      have HR := hid hr
      obtain ⟨uo, uc, rfl, hul, _⟩ := id hr
      unfold maxLen at hul
      have hltI : (a : Int) < 8 := by omega
      have hcm := fun W => make_at kk p hk.out a hlt' W
      have hyes : Hid ((∀ i, i < (L.getD (p + a) valD0).2.length → hasL (L.getD (q + ((L.getD (p + a) valD0).2.getD i (0, 0)).1.toNat) valD0).2 (a : Int) = (((L.getD (p + a) valD0).2.getD i (0, 0)).2, true)) → EndsTo L p q (a + 1)) := hid (fun h => hpre.out.step h)
      have hno : Hid (∀ i, i < (L.getD (p + a) valD0).2.length → ¬ hasL (L.getD (q + ((L.getD (p + a) valD0).2.getD i (0, 0)).1.toNat) valD0).2 (a : Int) = (((L.getD (p + a) valD0).2.getD i (0, 0)).2, true) → endsG L p q = false) := hid (fun i hi hn => endsG_no hlt' hi hn)
      have hok := hid (hR.out.ok (k := p + a) (by omega))
      have hsz := hbel.size
      obtain ⟨r, hr'⟩ : ∃ r, p + a = r := ⟨_, rfl⟩
      have hr24 : r < 24 := by omega
      rw [hr'] at h1 HR hyes hno hok hcm hul
      clear hpre g2 hr hr'
      generalize (L.getD r valD0).2 = x at *
      go_upto_region 4 with fail
      have q1 := cell_regrown e1
      have q2 := cell_regrown h1
      refine wp_region_quiet_below (by kernel_rfl) (by kernel_rfl) ?_
      repeat (first | go_big_quiet_skip | (go_big_quiet_want; go_big_quiet_op; first | go_big_quiet_on | go_big_quiet_call (first | (go_at_call 101; exact Calls.regrown_of (hcm _)))))
      refine wpQuiet_nil ?_
      rintro wq ⟨pq, hwq⟩
      have hq : Below wr.heap.size wr wq := by rw [hwq]; exact below_regrown _ _ _
      clear hwq pq
      have hb2 := hid (hbel.trans (hq.mono hsz))
      clear hq q1 q2 hbel hsz hcm
      generalize wq = w2 at *
      go_wp2_with fail
      go_loopw [9] (fun i wr => ∃ j : Nat, j ≤ x.length ∧ i = .int .i64 j ∧ Hid (∀ i, i < j → hasL (L.getD (q + (x.getD i (0, 0)).1.toNat) valD0).2 (a : Int) = ((x.getD i (0, 0)).2, true)) ∧ Below w1.heap.size w1 wr) (fun i _ => x.length - (intOf i).toNat)
      case atStart => exact ⟨0, Nat.zero_le _, rfl, fun _ h => absurd h (Nat.not_lt_zero _), hb2.out⟩
      case round =>
        clear hb2
        obtain ⟨j, hj, rfl, hpre, hbel⟩ := hrel
        by_cases hjl : j < x.length
        · have g2 := g1.trans (hbel.mono g1.size)
          obtain ⟨ao', cap', hv', _, hc⟩ := HR.out
          obtain ⟨b2, off2, hao, hbl, hcx⟩ := hc (by omega)
          obtain ⟨c0, c1⟩ := hcx j hjl
          have hau : uo = some ⟨b2, off2, none⟩ := by cases hv'; exact hao
          subst hau
          rw [← g2.cell (p := ⟨b2, off2 + j * 2, none⟩) hbl] at c0
          rw [← g2.cell (p := ⟨b2, off2 + j * 2 + 1, none⟩) hbl] at c1
          have hrb := rightB_iff.1 (okL_mem hok.out (getD_mem hjl))
          have hnext : Hid (hasL (L.getD (q + (x.getD j (0, 0)).1.toNat) valD0).2 (a : Int) = ((x.getD j (0, 0)).2, true) → ∀ i, i < j + 1 → hasL (L.getD (q + (x.getD i (0, 0)).1.toNat) valD0).2 (a : Int) = ((x.getD i (0, 0)).2, true)) := hid (fun h i hi => by
            rcases Nat.lt_succ_iff_lt_or_eq.1 hi with hi | rfl
            · exact hpre.out i hi
            · exact h)
          have hbad := hid (hno.out j hjl)
          obtain ⟨y, hy⟩ : ∃ y, x.getD j (0, 0) = y := ⟨_, rfl⟩
          rw [hy] at c0 c1 hrb hnext hbad
          obtain ⟨_, u2, h2, hr2⟩ := hcc.out (q + y.1.toNat) (by omega)
          rw [← g2.cell (p := ⟨b, off + (q + y.1.toNat) * 2 + 1, none⟩) hlt] at h2
          have hcm := fun W => make_to oo q ho.out y.1 hrb.1 hrb.2.1 W
          obtain ⟨J, hJ⟩ : ∃ J, q + y.1.toNat = J := ⟨_, rfl⟩
          have hJ24 : J < 24 := by omega
          have e1 := (hbel.cell (p := ⟨w.heap.size, 0, none⟩) z0).trans e0
          rw [hJ] at h2 hcm hr2 hnext hbad
          have HR2 := hid (hr2.later g2)
          obtain ⟨o2, c2, rfl, _⟩ := id hr2
          generalize (L.getD J valD0).2 = z at *
          have hch := fun (W : World) (h : Rd W (.slice o2 z.length c2) z) => has_at _ z (a : Int) W h
          have hsz := hbel.size
          clear hv' hc hcx hao hy hr2 hrb hJ hpre g2
          generalize hasL z (a : Int) = H at *
          have q1 := cell_regrown e1
          have q2 := cell_regrown h2
          have q3 := cell_regrown c0
          go_upto_region 8 with fail
          refine wp_region_quiet_below (by kernel_rfl) (by kernel_rfl) ?_
          repeat (first | go_big_quiet_skip | (go_big_quiet_want; go_big_quiet_op; first | go_big_quiet_on | go_big_quiet_call (first | (go_at_call 101; exact Calls.regrown_of (hcm _)) | (go_at_call 108; exact Calls.regrown_of (hch _ (HR2.out.later (below_regrown _ _ _)))))))
          refine wpQuiet_nil ?_
          rintro wq ⟨pq, hwq⟩
          have hq : Below wr.heap.size wr wq := by rw [hwq]; exact below_regrown _ _ _
          clear hwq pq
          have hb3 := hid (hbel.trans (hq.mono hsz))
          have c1' := (hq.cell (p := ⟨b2, off2 + j * 2 + 1, none⟩) (block_lt_of_cell c1)).trans c1
          clear hq q1 q2 q3 c0 c1 hcm hch HR2 hbel hsz e1 h2
          obtain ⟨at', has⟩ := H
          cases has with
          | true =>
            by_cases hat : at' = y.2
            · have hN := hid (hnext.out (by rw [hat]))
              have hne : (at' != y.2) = false := by simp [hat]
              go_wp2
              go_roundw
              case rel => exact ⟨j + 1, by omega, by go_num, hN, hb3.out⟩
              case measure => simp [intOf]; omega
            · have hN := hbad.out (fun e => hat (Prod.mk.inj e).1)
              have hne : (at' != y.2) = true := by simp [hat]
              go_wp2
              go_ret
              exact ⟨by simp [hN], g1.trans (hb3.out.mono g1.size)⟩
          | false =>
            have hN := hbad.out (fun e => by cases (Prod.mk.inj e).2)
            go_wp2
            go_ret
            exact ⟨by simp [hN], g1.trans (hb3.out.mono g1.size)⟩
        · have hjx : j = x.length := by omega
          subst hjx
          have hN := hid (hyes.out hpre.out)
          go_wp2
          go_roundw
          case rel => exact ⟨a + 1, by omega, by go_num, hN, hbel⟩
          case measure => simp [intOf]; omega
    · have ha8 : a = 8 := by omega
      subst ha8
      have hall : endsG L p q = true := endsG_iff.2 hpre.out
      go_wp2
      go_ret
      exact ⟨by simp [hall], g1.trans (hbel.mono g1.size)⟩

set_option maxRecDepth 100000 in
set_option maxHeartbeats 1000000 in
theorem specGOk_any (va : Value) (L : List ValD) (w : World) (h : RdG w va L) :
    Calls Tryz.prog 12 #[.agg #[va]] w fun e w' => e = .returned (.bool (okG L)) ∧ Below w.heap.size w w' := by
  have HR := hid h
  obtain ⟨ao, cap, rfl, _, hc⟩ := h
  rw [okG_form]
  have e0 : (w.alloc (.cells #[.slice ao L.length cap] 25)).cell? ⟨w.heap.size, 0, none⟩ = some (.slice ao L.length cap) := by go_cell
  have g1 : Below w.heap.size w (w.alloc (.cells #[.slice ao L.length cap] 25)) := by go_grown
  have z1 : w.heap.size < (w.alloc (.cells #[.slice ao L.length cap] 25)).heap.size := by simp
  go_enter Tryz.func12, Tryz.ntmps12
  cases hf : formG L with
  | false =>
    have CF := fun W (h : RdG W (.slice ao L.length cap) L) => l3Form_any _ L W h
    rw [hf] at CF
    go_wp2_with fail
    refine (CF _ (HR.out.later (by go_grown))).mono ?_
    rintro e w2 ⟨rfl, b2⟩
    have c2 : Below w.heap.size w w2 := (Below.trans (by go_grown) (b2.mono (by first | omega | (simp; done) | (simp; omega))))
    go_wp2
    go_ret
    exact ⟨by simp, c2⟩
  | true =>
    have CF := fun W (h : RdG W (.slice ao L.length cap) L) => l3Form_any _ L W h
    rw [hf] at CF
    have hl : L.length = 24 := by
      rcases Decidable.em (L.length = 24) with h | h
      · exact h
      · rw [formG_len h] at hf; cases hf
    have hR : RightTo L 24 := by rw [formG_yes hl] at hf; exact rightG_iff.1 hf
    obtain ⟨b, off, rfl, hlt, hcc⟩ := hc (by omega)
    rw [hl] at hcc CF HR e0 g1 z1 ⊢
    have hcc := hid hcc
    have hR := hid hR
    clear hc hf hl
    have CE := fun (W : World) (hb : Below w.heap.size w W) => l3Ends_any b off cap L W 2 1 16 8 (Nat.lt_of_lt_of_le hlt hb.size) (fun i hi => by
      obtain ⟨h0, u, h1, hr⟩ := hcc.out i hi
      exact ⟨(hb.cell (p := ⟨b, off + i * 2, none⟩) hlt).trans h0, u, (hb.cell (p := ⟨b, off + i * 2 + 1, none⟩) hlt).trans h1, hr.later hb⟩) hR.out (by omega) (by omega) (fun a h0 h1 => keyOf_in (by omega) (by omega) h0 h1) (fun a h0 h1 => keyOf_in (by omega) (by omega) h0 h1)
    have CF2 := fun (W : World) (hb : Below w.heap.size w W) => l3Ends_any b off cap L W 1 2 8 16 (Nat.lt_of_lt_of_le hlt hb.size) (fun i hi => by
      obtain ⟨h0, u, h1, hr⟩ := hcc.out i hi
      exact ⟨(hb.cell (p := ⟨b, off + i * 2, none⟩) hlt).trans h0, u, (hb.cell (p := ⟨b, off + i * 2 + 1, none⟩) hlt).trans h1, hr.later hb⟩) hR.out (by omega) (by omega) (fun a h0 h1 => keyOf_in (by omega) (by omega) h0 h1) (fun a h0 h1 => keyOf_in (by omega) (by omega) h0 h1)
    go_wp2_with fail
    refine (CF _ (HR.out.later g1)).mono ?_
    rintro e w2 ⟨rfl, b2⟩
    have c2 : Below w.heap.size w w2 := (Below.trans (by go_grown) (b2.mono (by first | omega | (simp; done) | (simp; omega))))
    have e2 := (b2.cell (p := ⟨w.heap.size, 0, none⟩) z1).trans e0
    have z2 : w.heap.size < w2.heap.size := Nat.lt_of_lt_of_le z1 b2.size
    clear b2
    cases h1 : endsG L 16 8 with
    | false =>
      rw [h1] at CE
      go_wp2_with fail
      refine (CE _ c2).mono ?_
      rintro e w3 ⟨rfl, b3⟩
      go_wp2
      go_ret
      exact ⟨by simp [h1], c2.trans (b3.mono c2.size)⟩
    | true =>
      rw [h1] at CE
      go_wp2_with fail
      refine (CE _ c2).mono ?_
      rintro e w3 ⟨rfl, b3⟩
      have c3 := c2.trans (b3.mono c2.size)
      have e3 := (b3.cell (p := ⟨w.heap.size, 0, none⟩) z2).trans e2
      clear e2 e0
      go_wp2_with fail
      refine (CF2 _ c3).mono ?_
      rintro e w4 ⟨rfl, b4⟩
      go_wp2
      go_ret
      exact ⟨by simp [h1], c3.trans (b4.mono c3.size)⟩
end Go.Proofs.YtkmhnjgncnoddaaGreat

/- Part: spec.OpDo, OpBack: contracts. -/
namespace Go.Proofs.YtkmhnjgncnoddaaGreat
open Go.RowKit
attribute [local go_sem ↓] Go.wp_at_zero Go.wp_at_succ

set_option maxRecDepth 100000 in
set_option maxHeartbeats 1000000 in
theorem specKin_bad (k a b n m who : Int) (v : Value) (l : List (Int × Int)) (w : World) (h : Rd w v l) (hok : okL l = false) :
    Calls Tryz.prog 102 #[.agg #[.int .i64 m, v], .agg #[.int .i64 k, .int .i64 a, .int .i64 b, .int .i64 n], .int .i64 who] w fun e w' => ValA w.heap.size w' e 0 [] ∧ Below w.heap.size w w' := by
  have HR := hid h
  obtain ⟨ao, cap, hv, _⟩ := h
  subst hv
  go_enter Tryz.func102, Tryz.ntmps102
  go_wp2_with fail
  have x0_1 : (((w.alloc (.cells #[.int .i64 m, .slice ao l.length cap] 38)).alloc (.cells #[.int .i64 k, .int .i64 a, .int .i64 b, .int .i64 n] 27)).alloc (.cells #[.int .i64 0, .slice none 0 0] 38)).cell? ⟨w.heap.size, 0, none⟩ = some (.int .i64 m) := by go_cell
  have x1_1 : (((w.alloc (.cells #[.int .i64 m, .slice ao l.length cap] 38)).alloc (.cells #[.int .i64 k, .int .i64 a, .int .i64 b, .int .i64 n] 27)).alloc (.cells #[.int .i64 0, .slice none 0 0] 38)).cell? ⟨w.heap.size, 1, none⟩ = some (.slice ao l.length cap) := by go_cell
  have xl_1 : w.heap.size < (((w.alloc (.cells #[.int .i64 m, .slice ao l.length cap] 38)).alloc (.cells #[.int .i64 k, .int .i64 a, .int .i64 b, .int .i64 n] 27)).alloc (.cells #[.int .i64 0, .slice none 0 0] 38)).heap.size := by first | (simp; done) | (simp; omega)
  have o0_1 : (((w.alloc (.cells #[.int .i64 m, .slice ao l.length cap] 38)).alloc (.cells #[.int .i64 k, .int .i64 a, .int .i64 b, .int .i64 n] 27)).alloc (.cells #[.int .i64 0, .slice none 0 0] 38)).cell? ⟨w.heap.size + 1, 0, none⟩ = some (.int .i64 k) := by go_cell
  have o1_1 : (((w.alloc (.cells #[.int .i64 m, .slice ao l.length cap] 38)).alloc (.cells #[.int .i64 k, .int .i64 a, .int .i64 b, .int .i64 n] 27)).alloc (.cells #[.int .i64 0, .slice none 0 0] 38)).cell? ⟨w.heap.size + 1, 1, none⟩ = some (.int .i64 a) := by go_cell
  have o2_1 : (((w.alloc (.cells #[.int .i64 m, .slice ao l.length cap] 38)).alloc (.cells #[.int .i64 k, .int .i64 a, .int .i64 b, .int .i64 n] 27)).alloc (.cells #[.int .i64 0, .slice none 0 0] 38)).cell? ⟨w.heap.size + 1, 2, none⟩ = some (.int .i64 b) := by go_cell
  have o3_1 : (((w.alloc (.cells #[.int .i64 m, .slice ao l.length cap] 38)).alloc (.cells #[.int .i64 k, .int .i64 a, .int .i64 b, .int .i64 n] 27)).alloc (.cells #[.int .i64 0, .slice none 0 0] 38)).cell? ⟨w.heap.size + 1, 3, none⟩ = some (.int .i64 n) := by go_cell
  have ol_1 : w.heap.size + 1 < (((w.alloc (.cells #[.int .i64 m, .slice ao l.length cap] 38)).alloc (.cells #[.int .i64 k, .int .i64 a, .int .i64 b, .int .i64 n] 27)).alloc (.cells #[.int .i64 0, .slice none 0 0] 38)).heap.size := by first | (simp; done) | (simp; omega)
  have r0_1 : (((w.alloc (.cells #[.int .i64 m, .slice ao l.length cap] 38)).alloc (.cells #[.int .i64 k, .int .i64 a, .int .i64 b, .int .i64 n] 27)).alloc (.cells #[.int .i64 0, .slice none 0 0] 38)).cell? ⟨w.heap.size + 1 + 1, 0, none⟩ = some (.int .i64 0) := by go_cell
  have rf0_1 : (((w.alloc (.cells #[.int .i64 m, .slice ao l.length cap] 38)).alloc (.cells #[.int .i64 k, .int .i64 a, .int .i64 b, .int .i64 n] 27)).alloc (.cells #[.int .i64 0, .slice none 0 0] 38)).frozen? ⟨w.heap.size + 1 + 1, 0, none⟩ = false := by (first | go_cell | (simp [World.frozen?, World.alloc]; done) | rfl)
  have r1_1 : (((w.alloc (.cells #[.int .i64 m, .slice ao l.length cap] 38)).alloc (.cells #[.int .i64 k, .int .i64 a, .int .i64 b, .int .i64 n] 27)).alloc (.cells #[.int .i64 0, .slice none 0 0] 38)).cell? ⟨w.heap.size + 1 + 1, 1, none⟩ = some (.slice none 0 0) := by go_cell
  have rf1_1 : (((w.alloc (.cells #[.int .i64 m, .slice ao l.length cap] 38)).alloc (.cells #[.int .i64 k, .int .i64 a, .int .i64 b, .int .i64 n] 27)).alloc (.cells #[.int .i64 0, .slice none 0 0] 38)).frozen? ⟨w.heap.size + 1 + 1, 1, none⟩ = false := by (first | go_cell | (simp [World.frozen?, World.alloc]; done) | rfl)
  have rl_1 : w.heap.size + 1 + 1 < (((w.alloc (.cells #[.int .i64 m, .slice ao l.length cap] 38)).alloc (.cells #[.int .i64 k, .int .i64 a, .int .i64 b, .int .i64 n] 27)).alloc (.cells #[.int .i64 0, .slice none 0 0] 38)).heap.size := by first | (simp; done) | (simp; omega)
  have c1 : Below w.heap.size w (((w.alloc (.cells #[.int .i64 m, .slice ao l.length cap] 38)).alloc (.cells #[.int .i64 k, .int .i64 a, .int .i64 b, .int .i64 n] 27)).alloc (.cells #[.int .i64 0, .slice none 0 0] 38)) := by go_grown
  have s1 : (((w.alloc (.cells #[.int .i64 m, .slice ao l.length cap] 38)).alloc (.cells #[.int .i64 k, .int .i64 a, .int .i64 b, .int .i64 n] 27)).alloc (.cells #[.int .i64 0, .slice none 0 0] 38)).heap.size = w.heap.size + 3 := by simp
  generalize (((w.alloc (.cells #[.int .i64 m, .slice ao l.length cap] 38)).alloc (.cells #[.int .i64 k, .int .i64 a, .int .i64 b, .int .i64 n] 27)).alloc (.cells #[.int .i64 0, .slice none 0 0] 38)) = w1 at x0_1 x1_1 xl_1 o0_1 o1_1 o2_1 o3_1 ol_1 r0_1 rf0_1 r1_1 rf1_1 rl_1 c1 s1 ⊢
  have qx0_1 := cell_regrown x0_1
  have qx1_1 := cell_regrown x1_1
  have qo0_1 := cell_regrown o0_1
  have qo1_1 := cell_regrown o1_1
  have qo2_1 := cell_regrown o2_1
  have qo3_1 := cell_regrown o3_1
  have qr0_1 := cell_regrown r0_1
  have qr1_1 := cell_regrown r1_1
  refine (specOk_any _ l _ (HR.out.later c1)).mono ?_
  rintro e w2 ⟨rfl, b2⟩
  rw [hok]
  have d2 : Below w1.heap.size w1 w2 := (Below.trans (by go_grown) (b2.mono (by first | omega | (simp; done) | (simp; omega))))
  have c2 : Below w.heap.size w w2 := c1.trans (d2.mono c1.size)
  have r0_2 : w2.cell? ⟨w.heap.size + 1 + 1, 0, none⟩ = some (.int .i64 0) := (by rw [b2.cell (by first | omega | (simp; done) | (simp; omega))]; go_cell)
  have rf0_2 : w2.frozen? ⟨w.heap.size + 1 + 1, 0, none⟩ = false := (by rw [b2.frozen (by first | omega | (simp; done) | (simp; omega))]; (first | go_cell | (simp [World.frozen?, World.alloc]; done) | rfl))
  have r1_2 : w2.cell? ⟨w.heap.size + 1 + 1, 1, none⟩ = some (.slice none 0 0) := (by rw [b2.cell (by first | omega | (simp; done) | (simp; omega))]; go_cell)
  have rf1_2 : w2.frozen? ⟨w.heap.size + 1 + 1, 1, none⟩ = false := (by rw [b2.frozen (by first | omega | (simp; done) | (simp; omega))]; (first | go_cell | (simp [World.frozen?, World.alloc]; done) | rfl))
  have rl_2 : w.heap.size + 1 + 1 < w2.heap.size := (by have := b2.size; first | omega | (revert this; simp; done) | (revert this; simp; omega))
  clear r0_1 rf0_1 r1_1 rf1_1 rl_1
  clear b2 d2
  go_wp2
  have e0 : ((w2.setCell ⟨w.heap.size + 1 + 1, 0, none⟩ (.int .i64 0)).setCell ⟨w.heap.size + 1 + 1, 1, none⟩ (.slice none 0 0)).cell? ⟨w.heap.size + 1 + 1, 0, none⟩ = some (.int .i64 0) := by go_cell
  have e1 : ((w2.setCell ⟨w.heap.size + 1 + 1, 0, none⟩ (.int .i64 0)).setCell ⟨w.heap.size + 1 + 1, 1, none⟩ (.slice none 0 0)).cell? ⟨w.heap.size + 1 + 1, 1, none⟩ = some (.slice none 0 0) := by go_cell
  refine bodyPost_ret (v := .agg #[.int .i64 0, .slice none 0 0]) (by simp [results, Tryz.results102, go_sem, e0, e1]) rfl ⟨valA_nil _ _ _, (c2.setCell (p := ⟨w.heap.size + 1 + 1, 0, none⟩) (by show w.heap.size ≤ w.heap.size + 1 + 1; omega) _).setCell (p := ⟨w.heap.size + 1 + 1, 1, none⟩) (by show w.heap.size ≤ w.heap.size + 1 + 1; omega) _⟩

set_option maxRecDepth 100000 in
set_option maxHeartbeats 1000000 in
theorem specKin_bind (a b n m who : Int) (v : Value) (l : List (Int × Int)) (w : World) (h : Rd w v l) (hll : l.length ≤ 1099511627776) (hok : okL l = true) :
    Calls Tryz.prog 102 #[.agg #[.int .i64 m, v], .agg #[.int .i64 2, .int .i64 a, .int .i64 b, .int .i64 n], .int .i64 who] w fun e w' => ValA w.heap.size w' e 0 (insL (l.filter (notWho who)) (who, n)) ∧ Below w.heap.size w w' := by
  have HR := hid h
  obtain ⟨ao, cap, hv, _⟩ := h
  subst hv
  go_enter Tryz.func102, Tryz.ntmps102
  go_wp2_with fail
  have x0_1 : (((w.alloc (.cells #[.int .i64 m, .slice ao l.length cap] 38)).alloc (.cells #[.int .i64 2, .int .i64 a, .int .i64 b, .int .i64 n] 27)).alloc (.cells #[.int .i64 0, .slice none 0 0] 38)).cell? ⟨w.heap.size, 0, none⟩ = some (.int .i64 m) := by go_cell
  have x1_1 : (((w.alloc (.cells #[.int .i64 m, .slice ao l.length cap] 38)).alloc (.cells #[.int .i64 2, .int .i64 a, .int .i64 b, .int .i64 n] 27)).alloc (.cells #[.int .i64 0, .slice none 0 0] 38)).cell? ⟨w.heap.size, 1, none⟩ = some (.slice ao l.length cap) := by go_cell
  have xl_1 : w.heap.size < (((w.alloc (.cells #[.int .i64 m, .slice ao l.length cap] 38)).alloc (.cells #[.int .i64 2, .int .i64 a, .int .i64 b, .int .i64 n] 27)).alloc (.cells #[.int .i64 0, .slice none 0 0] 38)).heap.size := by first | (simp; done) | (simp; omega)
  have o0_1 : (((w.alloc (.cells #[.int .i64 m, .slice ao l.length cap] 38)).alloc (.cells #[.int .i64 2, .int .i64 a, .int .i64 b, .int .i64 n] 27)).alloc (.cells #[.int .i64 0, .slice none 0 0] 38)).cell? ⟨w.heap.size + 1, 0, none⟩ = some (.int .i64 2) := by go_cell
  have o1_1 : (((w.alloc (.cells #[.int .i64 m, .slice ao l.length cap] 38)).alloc (.cells #[.int .i64 2, .int .i64 a, .int .i64 b, .int .i64 n] 27)).alloc (.cells #[.int .i64 0, .slice none 0 0] 38)).cell? ⟨w.heap.size + 1, 1, none⟩ = some (.int .i64 a) := by go_cell
  have o2_1 : (((w.alloc (.cells #[.int .i64 m, .slice ao l.length cap] 38)).alloc (.cells #[.int .i64 2, .int .i64 a, .int .i64 b, .int .i64 n] 27)).alloc (.cells #[.int .i64 0, .slice none 0 0] 38)).cell? ⟨w.heap.size + 1, 2, none⟩ = some (.int .i64 b) := by go_cell
  have o3_1 : (((w.alloc (.cells #[.int .i64 m, .slice ao l.length cap] 38)).alloc (.cells #[.int .i64 2, .int .i64 a, .int .i64 b, .int .i64 n] 27)).alloc (.cells #[.int .i64 0, .slice none 0 0] 38)).cell? ⟨w.heap.size + 1, 3, none⟩ = some (.int .i64 n) := by go_cell
  have ol_1 : w.heap.size + 1 < (((w.alloc (.cells #[.int .i64 m, .slice ao l.length cap] 38)).alloc (.cells #[.int .i64 2, .int .i64 a, .int .i64 b, .int .i64 n] 27)).alloc (.cells #[.int .i64 0, .slice none 0 0] 38)).heap.size := by first | (simp; done) | (simp; omega)
  have r0_1 : (((w.alloc (.cells #[.int .i64 m, .slice ao l.length cap] 38)).alloc (.cells #[.int .i64 2, .int .i64 a, .int .i64 b, .int .i64 n] 27)).alloc (.cells #[.int .i64 0, .slice none 0 0] 38)).cell? ⟨w.heap.size + 1 + 1, 0, none⟩ = some (.int .i64 0) := by go_cell
  have rf0_1 : (((w.alloc (.cells #[.int .i64 m, .slice ao l.length cap] 38)).alloc (.cells #[.int .i64 2, .int .i64 a, .int .i64 b, .int .i64 n] 27)).alloc (.cells #[.int .i64 0, .slice none 0 0] 38)).frozen? ⟨w.heap.size + 1 + 1, 0, none⟩ = false := by (first | go_cell | (simp [World.frozen?, World.alloc]; done) | rfl)
  have r1_1 : (((w.alloc (.cells #[.int .i64 m, .slice ao l.length cap] 38)).alloc (.cells #[.int .i64 2, .int .i64 a, .int .i64 b, .int .i64 n] 27)).alloc (.cells #[.int .i64 0, .slice none 0 0] 38)).cell? ⟨w.heap.size + 1 + 1, 1, none⟩ = some (.slice none 0 0) := by go_cell
  have rf1_1 : (((w.alloc (.cells #[.int .i64 m, .slice ao l.length cap] 38)).alloc (.cells #[.int .i64 2, .int .i64 a, .int .i64 b, .int .i64 n] 27)).alloc (.cells #[.int .i64 0, .slice none 0 0] 38)).frozen? ⟨w.heap.size + 1 + 1, 1, none⟩ = false := by (first | go_cell | (simp [World.frozen?, World.alloc]; done) | rfl)
  have rl_1 : w.heap.size + 1 + 1 < (((w.alloc (.cells #[.int .i64 m, .slice ao l.length cap] 38)).alloc (.cells #[.int .i64 2, .int .i64 a, .int .i64 b, .int .i64 n] 27)).alloc (.cells #[.int .i64 0, .slice none 0 0] 38)).heap.size := by first | (simp; done) | (simp; omega)
  have c1 : Below w.heap.size w (((w.alloc (.cells #[.int .i64 m, .slice ao l.length cap] 38)).alloc (.cells #[.int .i64 2, .int .i64 a, .int .i64 b, .int .i64 n] 27)).alloc (.cells #[.int .i64 0, .slice none 0 0] 38)) := by go_grown
  have s1 : (((w.alloc (.cells #[.int .i64 m, .slice ao l.length cap] 38)).alloc (.cells #[.int .i64 2, .int .i64 a, .int .i64 b, .int .i64 n] 27)).alloc (.cells #[.int .i64 0, .slice none 0 0] 38)).heap.size = w.heap.size + 3 := by simp
  generalize (((w.alloc (.cells #[.int .i64 m, .slice ao l.length cap] 38)).alloc (.cells #[.int .i64 2, .int .i64 a, .int .i64 b, .int .i64 n] 27)).alloc (.cells #[.int .i64 0, .slice none 0 0] 38)) = w1 at x0_1 x1_1 xl_1 o0_1 o1_1 o2_1 o3_1 ol_1 r0_1 rf0_1 r1_1 rf1_1 rl_1 c1 s1 ⊢
  have qx0_1 := cell_regrown x0_1
  have qx1_1 := cell_regrown x1_1
  have qo0_1 := cell_regrown o0_1
  have qo1_1 := cell_regrown o1_1
  have qo2_1 := cell_regrown o2_1
  have qo3_1 := cell_regrown o3_1
  have qr0_1 := cell_regrown r0_1
  have qr1_1 := cell_regrown r1_1
  refine (specOk_any _ l _ (HR.out.later c1)).mono ?_
  rintro e w2 ⟨rfl, b2⟩
  rw [hok]
  have d2 : Below w1.heap.size w1 w2 := (Below.trans (by go_grown) (b2.mono (by first | omega | (simp; done) | (simp; omega))))
  have c2 : Below w.heap.size w w2 := c1.trans (d2.mono c1.size)
  have x0_2 : w2.cell? ⟨w.heap.size, 0, none⟩ = some (.int .i64 m) := (by rw [b2.cell (by first | omega | (simp; done) | (simp; omega))]; go_cell)
  have x1_2 : w2.cell? ⟨w.heap.size, 1, none⟩ = some (.slice ao l.length cap) := (by rw [b2.cell (by first | omega | (simp; done) | (simp; omega))]; go_cell)
  have xl_2 : w.heap.size < w2.heap.size := (by have := b2.size; first | omega | (revert this; simp; done) | (revert this; simp; omega))
  have o0_2 : w2.cell? ⟨w.heap.size + 1, 0, none⟩ = some (.int .i64 2) := (by rw [b2.cell (by first | omega | (simp; done) | (simp; omega))]; go_cell)
  have o1_2 : w2.cell? ⟨w.heap.size + 1, 1, none⟩ = some (.int .i64 a) := (by rw [b2.cell (by first | omega | (simp; done) | (simp; omega))]; go_cell)
  have o2_2 : w2.cell? ⟨w.heap.size + 1, 2, none⟩ = some (.int .i64 b) := (by rw [b2.cell (by first | omega | (simp; done) | (simp; omega))]; go_cell)
  have o3_2 : w2.cell? ⟨w.heap.size + 1, 3, none⟩ = some (.int .i64 n) := (by rw [b2.cell (by first | omega | (simp; done) | (simp; omega))]; go_cell)
  have ol_2 : w.heap.size + 1 < w2.heap.size := (by have := b2.size; first | omega | (revert this; simp; done) | (revert this; simp; omega))
  have r0_2 : w2.cell? ⟨w.heap.size + 1 + 1, 0, none⟩ = some (.int .i64 0) := (by rw [b2.cell (by first | omega | (simp; done) | (simp; omega))]; go_cell)
  have rf0_2 : w2.frozen? ⟨w.heap.size + 1 + 1, 0, none⟩ = false := (by rw [b2.frozen (by first | omega | (simp; done) | (simp; omega))]; (first | go_cell | (simp [World.frozen?, World.alloc]; done) | rfl))
  have r1_2 : w2.cell? ⟨w.heap.size + 1 + 1, 1, none⟩ = some (.slice none 0 0) := (by rw [b2.cell (by first | omega | (simp; done) | (simp; omega))]; go_cell)
  have rf1_2 : w2.frozen? ⟨w.heap.size + 1 + 1, 1, none⟩ = false := (by rw [b2.frozen (by first | omega | (simp; done) | (simp; omega))]; (first | go_cell | (simp [World.frozen?, World.alloc]; done) | rfl))
  have rl_2 : w.heap.size + 1 + 1 < w2.heap.size := (by have := b2.size; first | omega | (revert this; simp; done) | (revert this; simp; omega))
  clear x0_1 x1_1 xl_1 o0_1 o1_1 o2_1 o3_1 ol_1 r0_1 rf0_1 r1_1 rf1_1 rl_1
  clear b2 d2
  go_wp2_with fail
  refine (l1Add_any _ l who n _ (HR.out.later c2) hll hok).mono ?_
  rintro e w3 ⟨v', rfl, ho, b3⟩
  have HO := hid ho
  clear ho
  have hz2 : w.heap.size + 1 + 1 < w2.heap.size := rl_2
  have d3 : Below w2.heap.size w2 w3 := (Below.trans (by go_grown) (b3.mono (by first | omega | (simp; done) | (simp; omega))))
  have c3 : Below w.heap.size w w3 := c2.trans (d3.mono c2.size)
  have r0_3 : w3.cell? ⟨w.heap.size + 1 + 1, 0, none⟩ = some (.int .i64 0) := (by rw [b3.cell (by first | omega | (simp; done) | (simp; omega))]; go_cell)
  have rf0_3 : w3.frozen? ⟨w.heap.size + 1 + 1, 0, none⟩ = false := (by rw [b3.frozen (by first | omega | (simp; done) | (simp; omega))]; (first | go_cell | (simp [World.frozen?, World.alloc]; done) | rfl))
  have r1_3 : w3.cell? ⟨w.heap.size + 1 + 1, 1, none⟩ = some (.slice none 0 0) := (by rw [b3.cell (by first | omega | (simp; done) | (simp; omega))]; go_cell)
  have rf1_3 : w3.frozen? ⟨w.heap.size + 1 + 1, 1, none⟩ = false := (by rw [b3.frozen (by first | omega | (simp; done) | (simp; omega))]; (first | go_cell | (simp [World.frozen?, World.alloc]; done) | rfl))
  have rl_3 : w.heap.size + 1 + 1 < w3.heap.size := (by have := b3.size; first | omega | (revert this; simp; done) | (revert this; simp; omega))
  clear r0_2 rf0_2 r1_2 rf1_2 rl_2
  clear b3 d3
  obtain ⟨uo, uc, huv, _⟩ := HO.out.rd
  subst huv
  obtain ⟨q, hq⟩ : ∃ q, insL (l.filter (notWho who)) (who, n) = q := ⟨_, rfl⟩
  have HQ := hid hq
  rw [hq] at HO ⊢
  clear hq
  go_wp2
  have e0 : ((w3.setCell ⟨w.heap.size + 1 + 1, 0, none⟩ (.int .i64 (0))).setCell ⟨w.heap.size + 1 + 1, 1, none⟩ (.slice uo q.length uc)).cell? ⟨w.heap.size + 1 + 1, 0, none⟩ = some (.int .i64 (0)) := by go_cell
  have e1 : ((w3.setCell ⟨w.heap.size + 1 + 1, 0, none⟩ (.int .i64 (0))).setCell ⟨w.heap.size + 1 + 1, 1, none⟩ (.slice uo q.length uc)).cell? ⟨w.heap.size + 1 + 1, 1, none⟩ = some (.slice uo q.length uc) := by go_cell
  have HF := hid (((HO.out.setApart (p := ⟨w.heap.size + 1 + 1, 0, none⟩) (by show w.heap.size + 1 + 1 < _; omega) (.int .i64 (0))).setApart (p := ⟨w.heap.size + 1 + 1, 1, none⟩) (by show w.heap.size + 1 + 1 < _; omega) (.slice uo q.length uc)).mono (B' := w.heap.size) (by omega))
  refine bodyPost_ret (v := .agg #[.int .i64 (0), .slice uo q.length uc]) (by simp [results, Tryz.results102, go_sem, e0, e1]) rfl ⟨⟨_, rfl, by rw [HQ.out]; exact HF.out⟩, (c3.setCell (p := ⟨w.heap.size + 1 + 1, 0, none⟩) (by show w.heap.size ≤ w.heap.size + 1 + 1; omega) _).setCell (p := ⟨w.heap.size + 1 + 1, 1, none⟩) (by show w.heap.size ≤ w.heap.size + 1 + 1; omega) _⟩

set_option maxRecDepth 100000 in
set_option maxHeartbeats 1000000 in
theorem specKin_part (a b n m who : Int) (v : Value) (l : List (Int × Int)) (w : World) (h : Rd w v l) (hll : l.length ≤ 1099511627776) (hok : okL l = true) :
    Calls Tryz.prog 102 #[.agg #[.int .i64 m, v], .agg #[.int .i64 3, .int .i64 a, .int .i64 b, .int .i64 n], .int .i64 who] w fun e w' => ValA w.heap.size w' e 0 (l.filter (notWho who)) ∧ Below w.heap.size w w' := by
  have HR := hid h
  obtain ⟨ao, cap, hv, _⟩ := h
  subst hv
  go_enter Tryz.func102, Tryz.ntmps102
  go_wp2_with fail
  have x0_1 : (((w.alloc (.cells #[.int .i64 m, .slice ao l.length cap] 38)).alloc (.cells #[.int .i64 3, .int .i64 a, .int .i64 b, .int .i64 n] 27)).alloc (.cells #[.int .i64 0, .slice none 0 0] 38)).cell? ⟨w.heap.size, 0, none⟩ = some (.int .i64 m) := by go_cell
  have x1_1 : (((w.alloc (.cells #[.int .i64 m, .slice ao l.length cap] 38)).alloc (.cells #[.int .i64 3, .int .i64 a, .int .i64 b, .int .i64 n] 27)).alloc (.cells #[.int .i64 0, .slice none 0 0] 38)).cell? ⟨w.heap.size, 1, none⟩ = some (.slice ao l.length cap) := by go_cell
  have xl_1 : w.heap.size < (((w.alloc (.cells #[.int .i64 m, .slice ao l.length cap] 38)).alloc (.cells #[.int .i64 3, .int .i64 a, .int .i64 b, .int .i64 n] 27)).alloc (.cells #[.int .i64 0, .slice none 0 0] 38)).heap.size := by first | (simp; done) | (simp; omega)
  have o0_1 : (((w.alloc (.cells #[.int .i64 m, .slice ao l.length cap] 38)).alloc (.cells #[.int .i64 3, .int .i64 a, .int .i64 b, .int .i64 n] 27)).alloc (.cells #[.int .i64 0, .slice none 0 0] 38)).cell? ⟨w.heap.size + 1, 0, none⟩ = some (.int .i64 3) := by go_cell
  have o1_1 : (((w.alloc (.cells #[.int .i64 m, .slice ao l.length cap] 38)).alloc (.cells #[.int .i64 3, .int .i64 a, .int .i64 b, .int .i64 n] 27)).alloc (.cells #[.int .i64 0, .slice none 0 0] 38)).cell? ⟨w.heap.size + 1, 1, none⟩ = some (.int .i64 a) := by go_cell
  have o2_1 : (((w.alloc (.cells #[.int .i64 m, .slice ao l.length cap] 38)).alloc (.cells #[.int .i64 3, .int .i64 a, .int .i64 b, .int .i64 n] 27)).alloc (.cells #[.int .i64 0, .slice none 0 0] 38)).cell? ⟨w.heap.size + 1, 2, none⟩ = some (.int .i64 b) := by go_cell
  have o3_1 : (((w.alloc (.cells #[.int .i64 m, .slice ao l.length cap] 38)).alloc (.cells #[.int .i64 3, .int .i64 a, .int .i64 b, .int .i64 n] 27)).alloc (.cells #[.int .i64 0, .slice none 0 0] 38)).cell? ⟨w.heap.size + 1, 3, none⟩ = some (.int .i64 n) := by go_cell
  have ol_1 : w.heap.size + 1 < (((w.alloc (.cells #[.int .i64 m, .slice ao l.length cap] 38)).alloc (.cells #[.int .i64 3, .int .i64 a, .int .i64 b, .int .i64 n] 27)).alloc (.cells #[.int .i64 0, .slice none 0 0] 38)).heap.size := by first | (simp; done) | (simp; omega)
  have r0_1 : (((w.alloc (.cells #[.int .i64 m, .slice ao l.length cap] 38)).alloc (.cells #[.int .i64 3, .int .i64 a, .int .i64 b, .int .i64 n] 27)).alloc (.cells #[.int .i64 0, .slice none 0 0] 38)).cell? ⟨w.heap.size + 1 + 1, 0, none⟩ = some (.int .i64 0) := by go_cell
  have rf0_1 : (((w.alloc (.cells #[.int .i64 m, .slice ao l.length cap] 38)).alloc (.cells #[.int .i64 3, .int .i64 a, .int .i64 b, .int .i64 n] 27)).alloc (.cells #[.int .i64 0, .slice none 0 0] 38)).frozen? ⟨w.heap.size + 1 + 1, 0, none⟩ = false := by (first | go_cell | (simp [World.frozen?, World.alloc]; done) | rfl)
  have r1_1 : (((w.alloc (.cells #[.int .i64 m, .slice ao l.length cap] 38)).alloc (.cells #[.int .i64 3, .int .i64 a, .int .i64 b, .int .i64 n] 27)).alloc (.cells #[.int .i64 0, .slice none 0 0] 38)).cell? ⟨w.heap.size + 1 + 1, 1, none⟩ = some (.slice none 0 0) := by go_cell
  have rf1_1 : (((w.alloc (.cells #[.int .i64 m, .slice ao l.length cap] 38)).alloc (.cells #[.int .i64 3, .int .i64 a, .int .i64 b, .int .i64 n] 27)).alloc (.cells #[.int .i64 0, .slice none 0 0] 38)).frozen? ⟨w.heap.size + 1 + 1, 1, none⟩ = false := by (first | go_cell | (simp [World.frozen?, World.alloc]; done) | rfl)
  have rl_1 : w.heap.size + 1 + 1 < (((w.alloc (.cells #[.int .i64 m, .slice ao l.length cap] 38)).alloc (.cells #[.int .i64 3, .int .i64 a, .int .i64 b, .int .i64 n] 27)).alloc (.cells #[.int .i64 0, .slice none 0 0] 38)).heap.size := by first | (simp; done) | (simp; omega)
  have c1 : Below w.heap.size w (((w.alloc (.cells #[.int .i64 m, .slice ao l.length cap] 38)).alloc (.cells #[.int .i64 3, .int .i64 a, .int .i64 b, .int .i64 n] 27)).alloc (.cells #[.int .i64 0, .slice none 0 0] 38)) := by go_grown
  have s1 : (((w.alloc (.cells #[.int .i64 m, .slice ao l.length cap] 38)).alloc (.cells #[.int .i64 3, .int .i64 a, .int .i64 b, .int .i64 n] 27)).alloc (.cells #[.int .i64 0, .slice none 0 0] 38)).heap.size = w.heap.size + 3 := by simp
  generalize (((w.alloc (.cells #[.int .i64 m, .slice ao l.length cap] 38)).alloc (.cells #[.int .i64 3, .int .i64 a, .int .i64 b, .int .i64 n] 27)).alloc (.cells #[.int .i64 0, .slice none 0 0] 38)) = w1 at x0_1 x1_1 xl_1 o0_1 o1_1 o2_1 o3_1 ol_1 r0_1 rf0_1 r1_1 rf1_1 rl_1 c1 s1 ⊢
  have qx0_1 := cell_regrown x0_1
  have qx1_1 := cell_regrown x1_1
  have qo0_1 := cell_regrown o0_1
  have qo1_1 := cell_regrown o1_1
  have qo2_1 := cell_regrown o2_1
  have qo3_1 := cell_regrown o3_1
  have qr0_1 := cell_regrown r0_1
  have qr1_1 := cell_regrown r1_1
  refine (specOk_any _ l _ (HR.out.later c1)).mono ?_
  rintro e w2 ⟨rfl, b2⟩
  rw [hok]
  have d2 : Below w1.heap.size w1 w2 := (Below.trans (by go_grown) (b2.mono (by first | omega | (simp; done) | (simp; omega))))
  have c2 : Below w.heap.size w w2 := c1.trans (d2.mono c1.size)
  have x0_2 : w2.cell? ⟨w.heap.size, 0, none⟩ = some (.int .i64 m) := (by rw [b2.cell (by first | omega | (simp; done) | (simp; omega))]; go_cell)
  have x1_2 : w2.cell? ⟨w.heap.size, 1, none⟩ = some (.slice ao l.length cap) := (by rw [b2.cell (by first | omega | (simp; done) | (simp; omega))]; go_cell)
  have xl_2 : w.heap.size < w2.heap.size := (by have := b2.size; first | omega | (revert this; simp; done) | (revert this; simp; omega))
  have o0_2 : w2.cell? ⟨w.heap.size + 1, 0, none⟩ = some (.int .i64 3) := (by rw [b2.cell (by first | omega | (simp; done) | (simp; omega))]; go_cell)
  have o1_2 : w2.cell? ⟨w.heap.size + 1, 1, none⟩ = some (.int .i64 a) := (by rw [b2.cell (by first | omega | (simp; done) | (simp; omega))]; go_cell)
  have o2_2 : w2.cell? ⟨w.heap.size + 1, 2, none⟩ = some (.int .i64 b) := (by rw [b2.cell (by first | omega | (simp; done) | (simp; omega))]; go_cell)
  have o3_2 : w2.cell? ⟨w.heap.size + 1, 3, none⟩ = some (.int .i64 n) := (by rw [b2.cell (by first | omega | (simp; done) | (simp; omega))]; go_cell)
  have ol_2 : w.heap.size + 1 < w2.heap.size := (by have := b2.size; first | omega | (revert this; simp; done) | (revert this; simp; omega))
  have r0_2 : w2.cell? ⟨w.heap.size + 1 + 1, 0, none⟩ = some (.int .i64 0) := (by rw [b2.cell (by first | omega | (simp; done) | (simp; omega))]; go_cell)
  have rf0_2 : w2.frozen? ⟨w.heap.size + 1 + 1, 0, none⟩ = false := (by rw [b2.frozen (by first | omega | (simp; done) | (simp; omega))]; (first | go_cell | (simp [World.frozen?, World.alloc]; done) | rfl))
  have r1_2 : w2.cell? ⟨w.heap.size + 1 + 1, 1, none⟩ = some (.slice none 0 0) := (by rw [b2.cell (by first | omega | (simp; done) | (simp; omega))]; go_cell)
  have rf1_2 : w2.frozen? ⟨w.heap.size + 1 + 1, 1, none⟩ = false := (by rw [b2.frozen (by first | omega | (simp; done) | (simp; omega))]; (first | go_cell | (simp [World.frozen?, World.alloc]; done) | rfl))
  have rl_2 : w.heap.size + 1 + 1 < w2.heap.size := (by have := b2.size; first | omega | (revert this; simp; done) | (revert this; simp; omega))
  clear x0_1 x1_1 xl_1 o0_1 o1_1 o2_1 o3_1 ol_1 r0_1 rf0_1 r1_1 rf1_1 rl_1
  clear b2 d2
  go_wp2_with fail
  refine (l1Drop_any _ l who _ (HR.out.later c2) hll).mono ?_
  rintro e w3 ⟨v', rfl, ho, _, b3⟩
  have HO := hid ho
  clear ho
  have hz2 : w.heap.size + 1 + 1 < w2.heap.size := rl_2
  have d3 : Below w2.heap.size w2 w3 := (Below.trans (by go_grown) (b3.mono (by first | omega | (simp; done) | (simp; omega))))
  have c3 : Below w.heap.size w w3 := c2.trans (d3.mono c2.size)
  have r0_3 : w3.cell? ⟨w.heap.size + 1 + 1, 0, none⟩ = some (.int .i64 0) := (by rw [b3.cell (by first | omega | (simp; done) | (simp; omega))]; go_cell)
  have rf0_3 : w3.frozen? ⟨w.heap.size + 1 + 1, 0, none⟩ = false := (by rw [b3.frozen (by first | omega | (simp; done) | (simp; omega))]; (first | go_cell | (simp [World.frozen?, World.alloc]; done) | rfl))
  have r1_3 : w3.cell? ⟨w.heap.size + 1 + 1, 1, none⟩ = some (.slice none 0 0) := (by rw [b3.cell (by first | omega | (simp; done) | (simp; omega))]; go_cell)
  have rf1_3 : w3.frozen? ⟨w.heap.size + 1 + 1, 1, none⟩ = false := (by rw [b3.frozen (by first | omega | (simp; done) | (simp; omega))]; (first | go_cell | (simp [World.frozen?, World.alloc]; done) | rfl))
  have rl_3 : w.heap.size + 1 + 1 < w3.heap.size := (by have := b3.size; first | omega | (revert this; simp; done) | (revert this; simp; omega))
  clear r0_2 rf0_2 r1_2 rf1_2 rl_2
  clear b3 d3
  obtain ⟨uo, uc, huv, _⟩ := HO.out.rd
  subst huv
  obtain ⟨q, hq⟩ : ∃ q, l.filter (notWho who) = q := ⟨_, rfl⟩
  have HQ := hid hq
  rw [hq] at HO ⊢
  clear hq
  go_wp2
  have e0 : ((w3.setCell ⟨w.heap.size + 1 + 1, 0, none⟩ (.int .i64 (0))).setCell ⟨w.heap.size + 1 + 1, 1, none⟩ (.slice uo q.length uc)).cell? ⟨w.heap.size + 1 + 1, 0, none⟩ = some (.int .i64 (0)) := by go_cell
  have e1 : ((w3.setCell ⟨w.heap.size + 1 + 1, 0, none⟩ (.int .i64 (0))).setCell ⟨w.heap.size + 1 + 1, 1, none⟩ (.slice uo q.length uc)).cell? ⟨w.heap.size + 1 + 1, 1, none⟩ = some (.slice uo q.length uc) := by go_cell
  have HF := hid (((HO.out.setApart (p := ⟨w.heap.size + 1 + 1, 0, none⟩) (by show w.heap.size + 1 + 1 < _; omega) (.int .i64 (0))).setApart (p := ⟨w.heap.size + 1 + 1, 1, none⟩) (by show w.heap.size + 1 + 1 < _; omega) (.slice uo q.length uc)).mono (B' := w.heap.size) (by omega))
  refine bodyPost_ret (v := .agg #[.int .i64 (0), .slice uo q.length uc]) (by simp [results, Tryz.results102, go_sem, e0, e1]) rfl ⟨⟨_, rfl, by rw [HQ.out]; exact HF.out⟩, (c3.setCell (p := ⟨w.heap.size + 1 + 1, 0, none⟩) (by show w.heap.size ≤ w.heap.size + 1 + 1; omega) _).setCell (p := ⟨w.heap.size + 1 + 1, 1, none⟩) (by show w.heap.size ≤ w.heap.size + 1 + 1; omega) _⟩

theorem rightB_bind {k a b n : Int} (h : bindOk k a b n) : rightB (a, n) = true ∧ rightB (b, n) = true := by
  obtain ⟨_, h1, h2, _, h3, h4⟩ := h
  exact ⟨rightB_iff.2 ⟨h1.1, h1.2, h3, h4⟩, rightB_iff.2 ⟨h2.1, h2.2, h3, h4⟩⟩
/-- l3Kin of an ok bond. -/
theorem specKin_any (k a b n m who : Int) (v : Value) (l : List (Int × Int)) (w : World) (h : Rd w v l) (hll : l.length ≤ 1099511627776) (hw : who = a ∨ who = b) (hk : bindOk k a b n ∨ partOk k a b n) :
    Calls Tryz.prog 102 #[.agg #[.int .i64 m, v], .agg #[.int .i64 k, .int .i64 a, .int .i64 b, .int .i64 n], .int .i64 who] w fun e w' => ValA w.heap.size w' e 0 (if bindOk k a b n then addL l who n else dropL l who) ∧ Below w.heap.size w w' := by
  rcases hk with hk | hk
  · rw [if_pos hk]
    cases hok : okL l with
    | false =>
      have e : addL l who n = [] := by simp [addL, addB, hok]
      rw [e]
      exact specKin_bad k a b n m who v l w h hok
    | true =>
      have hr : rightB (who, n) = true := by
        rcases hw with rfl | rfl
        · exact (rightB_bind hk).1
        · exact (rightB_bind hk).2
      have e : addL l who n = insL (l.filter (notWho who)) (who, n) := by simp [addL, addB, hok, hr]
      rw [e]
      obtain ⟨rfl, _⟩ := hk
      exact specKin_bind a b n m who v l w h hll hok
  · have hnb : ¬ bindOk k a b n := fun h2 => by have := hk.1; have := h2.1; omega
    rw [if_neg hnb]
    cases hok : okL l with
    | false =>
      have e : dropL l who = [] := by simp [dropL, hok]
      rw [e]
      exact specKin_bad k a b n m who v l w h hok
    | true =>
      have e : dropL l who = l.filter (notWho who) := by simp [dropL, hok]
      rw [e]
      obtain ⟨rfl, _⟩ := hk
      exact specKin_part a b n m who v l w h hll hok

end Go.Proofs.YtkmhnjgncnoddaaGreat

/- Part: spec.OpDo: contract. -/
namespace Go.Proofs.YtkmhnjgncnoddaaGreat
open Go.RowKit
attribute [local go_sem ↓] Go.wp_at_zero Go.wp_at_succ

set_option maxRecDepth 100000 in
set_option maxHeartbeats 1000000 in
theorem specDo_no (k a b n m : Int) (v : Value) (l : List (Int × Int)) (w : World) (h : Rd w v l) (_ : l.length ≤ 1099511627776) (HOK : opOk k a b n = false) :
    Calls Tryz.prog 40 #[.agg #[.int .i64 m, v], .agg #[.int .i64 k, .int .i64 a, .int .i64 b, .int .i64 n]] w fun e w' => ValA w.heap.size w' e (0) ([]) ∧ Below w.heap.size w w' := by
  have HS := fun w => specOpOk_any k a b n w
  rw [HOK] at HS
  clear HOK
  obtain ⟨ao, cap, hv, _⟩ := h
  subst hv
  go_enter Tryz.func40, Tryz.ntmps40
  go_wp2_with fail
  have x0_1 : (((w.alloc (.cells #[.int .i64 m, .slice ao l.length cap] 38)).alloc (.cells #[.int .i64 k, .int .i64 a, .int .i64 b, .int .i64 n] 27)).alloc (.cells #[.int .i64 0, .slice none 0 0] 38)).cell? ⟨w.heap.size, 0, none⟩ = some (.int .i64 m) := by go_cell
  have x1_1 : (((w.alloc (.cells #[.int .i64 m, .slice ao l.length cap] 38)).alloc (.cells #[.int .i64 k, .int .i64 a, .int .i64 b, .int .i64 n] 27)).alloc (.cells #[.int .i64 0, .slice none 0 0] 38)).cell? ⟨w.heap.size, 1, none⟩ = some (.slice ao l.length cap) := by go_cell
  have xl_1 : w.heap.size < (((w.alloc (.cells #[.int .i64 m, .slice ao l.length cap] 38)).alloc (.cells #[.int .i64 k, .int .i64 a, .int .i64 b, .int .i64 n] 27)).alloc (.cells #[.int .i64 0, .slice none 0 0] 38)).heap.size := by first | (simp; done) | (simp; omega)
  have o0_1 : (((w.alloc (.cells #[.int .i64 m, .slice ao l.length cap] 38)).alloc (.cells #[.int .i64 k, .int .i64 a, .int .i64 b, .int .i64 n] 27)).alloc (.cells #[.int .i64 0, .slice none 0 0] 38)).cell? ⟨w.heap.size + 1, 0, none⟩ = some (.int .i64 k) := by go_cell
  have o1_1 : (((w.alloc (.cells #[.int .i64 m, .slice ao l.length cap] 38)).alloc (.cells #[.int .i64 k, .int .i64 a, .int .i64 b, .int .i64 n] 27)).alloc (.cells #[.int .i64 0, .slice none 0 0] 38)).cell? ⟨w.heap.size + 1, 1, none⟩ = some (.int .i64 a) := by go_cell
  have o2_1 : (((w.alloc (.cells #[.int .i64 m, .slice ao l.length cap] 38)).alloc (.cells #[.int .i64 k, .int .i64 a, .int .i64 b, .int .i64 n] 27)).alloc (.cells #[.int .i64 0, .slice none 0 0] 38)).cell? ⟨w.heap.size + 1, 2, none⟩ = some (.int .i64 b) := by go_cell
  have o3_1 : (((w.alloc (.cells #[.int .i64 m, .slice ao l.length cap] 38)).alloc (.cells #[.int .i64 k, .int .i64 a, .int .i64 b, .int .i64 n] 27)).alloc (.cells #[.int .i64 0, .slice none 0 0] 38)).cell? ⟨w.heap.size + 1, 3, none⟩ = some (.int .i64 n) := by go_cell
  have ol_1 : w.heap.size + 1 < (((w.alloc (.cells #[.int .i64 m, .slice ao l.length cap] 38)).alloc (.cells #[.int .i64 k, .int .i64 a, .int .i64 b, .int .i64 n] 27)).alloc (.cells #[.int .i64 0, .slice none 0 0] 38)).heap.size := by first | (simp; done) | (simp; omega)
  have r0_1 : (((w.alloc (.cells #[.int .i64 m, .slice ao l.length cap] 38)).alloc (.cells #[.int .i64 k, .int .i64 a, .int .i64 b, .int .i64 n] 27)).alloc (.cells #[.int .i64 0, .slice none 0 0] 38)).cell? ⟨w.heap.size + 1 + 1, 0, none⟩ = some (.int .i64 0) := by go_cell
  have rf0_1 : (((w.alloc (.cells #[.int .i64 m, .slice ao l.length cap] 38)).alloc (.cells #[.int .i64 k, .int .i64 a, .int .i64 b, .int .i64 n] 27)).alloc (.cells #[.int .i64 0, .slice none 0 0] 38)).frozen? ⟨w.heap.size + 1 + 1, 0, none⟩ = false := by (first | go_cell | (simp [World.frozen?, World.alloc]; done) | rfl)
  have r1_1 : (((w.alloc (.cells #[.int .i64 m, .slice ao l.length cap] 38)).alloc (.cells #[.int .i64 k, .int .i64 a, .int .i64 b, .int .i64 n] 27)).alloc (.cells #[.int .i64 0, .slice none 0 0] 38)).cell? ⟨w.heap.size + 1 + 1, 1, none⟩ = some (.slice none 0 0) := by go_cell
  have rf1_1 : (((w.alloc (.cells #[.int .i64 m, .slice ao l.length cap] 38)).alloc (.cells #[.int .i64 k, .int .i64 a, .int .i64 b, .int .i64 n] 27)).alloc (.cells #[.int .i64 0, .slice none 0 0] 38)).frozen? ⟨w.heap.size + 1 + 1, 1, none⟩ = false := by (first | go_cell | (simp [World.frozen?, World.alloc]; done) | rfl)
  have rl_1 : w.heap.size + 1 + 1 < (((w.alloc (.cells #[.int .i64 m, .slice ao l.length cap] 38)).alloc (.cells #[.int .i64 k, .int .i64 a, .int .i64 b, .int .i64 n] 27)).alloc (.cells #[.int .i64 0, .slice none 0 0] 38)).heap.size := by first | (simp; done) | (simp; omega)
  have c1 : Below w.heap.size w (((w.alloc (.cells #[.int .i64 m, .slice ao l.length cap] 38)).alloc (.cells #[.int .i64 k, .int .i64 a, .int .i64 b, .int .i64 n] 27)).alloc (.cells #[.int .i64 0, .slice none 0 0] 38)) := by go_grown
  have s1 : (((w.alloc (.cells #[.int .i64 m, .slice ao l.length cap] 38)).alloc (.cells #[.int .i64 k, .int .i64 a, .int .i64 b, .int .i64 n] 27)).alloc (.cells #[.int .i64 0, .slice none 0 0] 38)).heap.size = w.heap.size + 3 := by simp
  generalize (((w.alloc (.cells #[.int .i64 m, .slice ao l.length cap] 38)).alloc (.cells #[.int .i64 k, .int .i64 a, .int .i64 b, .int .i64 n] 27)).alloc (.cells #[.int .i64 0, .slice none 0 0] 38)) = w1 at x0_1 x1_1 xl_1 o0_1 o1_1 o2_1 o3_1 ol_1 r0_1 rf0_1 r1_1 rf1_1 rl_1 c1 s1 ⊢
  have qx0_1 := cell_regrown x0_1
  have qx1_1 := cell_regrown x1_1
  have qo0_1 := cell_regrown o0_1
  have qo1_1 := cell_regrown o1_1
  have qo2_1 := cell_regrown o2_1
  have qo3_1 := cell_regrown o3_1
  have qr0_1 := cell_regrown r0_1
  have qr1_1 := cell_regrown r1_1
  refine (HS _).mono ?_
  rintro e w2 ⟨rfl, b2⟩
  have d2 : Below w1.heap.size w1 w2 := (Below.trans (by go_grown) (b2.mono (by first | omega | (simp; done) | (simp; omega))))
  have c2 : Below w.heap.size w w2 := c1.trans (d2.mono c1.size)
  have x0_2 : w2.cell? ⟨w.heap.size, 0, none⟩ = some (.int .i64 m) := (by rw [b2.cell (by first | omega | (simp; done) | (simp; omega))]; go_cell)
  have x1_2 : w2.cell? ⟨w.heap.size, 1, none⟩ = some (.slice ao l.length cap) := (by rw [b2.cell (by first | omega | (simp; done) | (simp; omega))]; go_cell)
  have xl_2 : w.heap.size < w2.heap.size := (by have := b2.size; first | omega | (revert this; simp; done) | (revert this; simp; omega))
  have o0_2 : w2.cell? ⟨w.heap.size + 1, 0, none⟩ = some (.int .i64 k) := (by rw [b2.cell (by first | omega | (simp; done) | (simp; omega))]; go_cell)
  have o1_2 : w2.cell? ⟨w.heap.size + 1, 1, none⟩ = some (.int .i64 a) := (by rw [b2.cell (by first | omega | (simp; done) | (simp; omega))]; go_cell)
  have o2_2 : w2.cell? ⟨w.heap.size + 1, 2, none⟩ = some (.int .i64 b) := (by rw [b2.cell (by first | omega | (simp; done) | (simp; omega))]; go_cell)
  have o3_2 : w2.cell? ⟨w.heap.size + 1, 3, none⟩ = some (.int .i64 n) := (by rw [b2.cell (by first | omega | (simp; done) | (simp; omega))]; go_cell)
  have ol_2 : w.heap.size + 1 < w2.heap.size := (by have := b2.size; first | omega | (revert this; simp; done) | (revert this; simp; omega))
  have r0_2 : w2.cell? ⟨w.heap.size + 1 + 1, 0, none⟩ = some (.int .i64 0) := (by rw [b2.cell (by first | omega | (simp; done) | (simp; omega))]; go_cell)
  have rf0_2 : w2.frozen? ⟨w.heap.size + 1 + 1, 0, none⟩ = false := (by rw [b2.frozen (by first | omega | (simp; done) | (simp; omega))]; (first | go_cell | (simp [World.frozen?, World.alloc]; done) | rfl))
  have r1_2 : w2.cell? ⟨w.heap.size + 1 + 1, 1, none⟩ = some (.slice none 0 0) := (by rw [b2.cell (by first | omega | (simp; done) | (simp; omega))]; go_cell)
  have rf1_2 : w2.frozen? ⟨w.heap.size + 1 + 1, 1, none⟩ = false := (by rw [b2.frozen (by first | omega | (simp; done) | (simp; omega))]; (first | go_cell | (simp [World.frozen?, World.alloc]; done) | rfl))
  have rl_2 : w.heap.size + 1 + 1 < w2.heap.size := (by have := b2.size; first | omega | (revert this; simp; done) | (revert this; simp; omega))
  clear x0_1 x1_1 xl_1 o0_1 o1_1 o2_1 o3_1 ol_1 r0_1 rf0_1 r1_1 rf1_1 rl_1
  clear b2 d2
  go_wp2_with fail
  have e0 : ((w2.setCell ⟨w.heap.size + 1 + 1, 0, none⟩ (.int .i64 (0))).setCell ⟨w.heap.size + 1 + 1, 1, none⟩ (.slice none 0 0)).cell? ⟨w.heap.size + 1 + 1, 0, none⟩ = some (.int .i64 (0)) := by go_cell
  have e1 : ((w2.setCell ⟨w.heap.size + 1 + 1, 0, none⟩ (.int .i64 (0))).setCell ⟨w.heap.size + 1 + 1, 1, none⟩ (.slice none 0 0)).cell? ⟨w.heap.size + 1 + 1, 1, none⟩ = some (.slice none 0 0) := by go_cell
  refine bodyPost_ret (v := .agg #[.int .i64 (0), .slice none 0 0]) (by simp [results, Tryz.results40, go_sem, e0, e1]) rfl ⟨valA_nil _ _ _, (c2.setCell (p := ⟨w.heap.size + 1 + 1, 0, none⟩) (by show w.heap.size ≤ w.heap.size + 1 + 1; omega) _).setCell (p := ⟨w.heap.size + 1 + 1, 1, none⟩) (by show w.heap.size ≤ w.heap.size + 1 + 1; omega) _⟩

set_option maxRecDepth 100000 in
set_option maxHeartbeats 1000000 in
theorem specDo_set (k a b n m : Int) (v : Value) (l : List (Int × Int)) (w : World) (h : Rd w v l) (_ : l.length ≤ 1099511627776) (hs : setOk k a b n) (HOK : opOk k a b n = true) :
    Calls Tryz.prog 40 #[.agg #[.int .i64 m, v], .agg #[.int .i64 k, .int .i64 a, .int .i64 b, .int .i64 n]] w fun e w' => ValA w.heap.size w' e (n) ([]) ∧ Below w.heap.size w w' := by
  have HS := fun w => specOpOk_any k a b n w
  rw [HOK] at HS
  clear HOK
  obtain ⟨ao, cap, hv, _⟩ := h
  subst hv
  obtain ⟨rfl, -⟩ := hs
  go_enter Tryz.func40, Tryz.ntmps40
  go_wp2_with fail
  have x0_1 : (((w.alloc (.cells #[.int .i64 m, .slice ao l.length cap] 38)).alloc (.cells #[.int .i64 1, .int .i64 a, .int .i64 b, .int .i64 n] 27)).alloc (.cells #[.int .i64 0, .slice none 0 0] 38)).cell? ⟨w.heap.size, 0, none⟩ = some (.int .i64 m) := by go_cell
  have x1_1 : (((w.alloc (.cells #[.int .i64 m, .slice ao l.length cap] 38)).alloc (.cells #[.int .i64 1, .int .i64 a, .int .i64 b, .int .i64 n] 27)).alloc (.cells #[.int .i64 0, .slice none 0 0] 38)).cell? ⟨w.heap.size, 1, none⟩ = some (.slice ao l.length cap) := by go_cell
  have xl_1 : w.heap.size < (((w.alloc (.cells #[.int .i64 m, .slice ao l.length cap] 38)).alloc (.cells #[.int .i64 1, .int .i64 a, .int .i64 b, .int .i64 n] 27)).alloc (.cells #[.int .i64 0, .slice none 0 0] 38)).heap.size := by first | (simp; done) | (simp; omega)
  have o0_1 : (((w.alloc (.cells #[.int .i64 m, .slice ao l.length cap] 38)).alloc (.cells #[.int .i64 1, .int .i64 a, .int .i64 b, .int .i64 n] 27)).alloc (.cells #[.int .i64 0, .slice none 0 0] 38)).cell? ⟨w.heap.size + 1, 0, none⟩ = some (.int .i64 1) := by go_cell
  have o1_1 : (((w.alloc (.cells #[.int .i64 m, .slice ao l.length cap] 38)).alloc (.cells #[.int .i64 1, .int .i64 a, .int .i64 b, .int .i64 n] 27)).alloc (.cells #[.int .i64 0, .slice none 0 0] 38)).cell? ⟨w.heap.size + 1, 1, none⟩ = some (.int .i64 a) := by go_cell
  have o2_1 : (((w.alloc (.cells #[.int .i64 m, .slice ao l.length cap] 38)).alloc (.cells #[.int .i64 1, .int .i64 a, .int .i64 b, .int .i64 n] 27)).alloc (.cells #[.int .i64 0, .slice none 0 0] 38)).cell? ⟨w.heap.size + 1, 2, none⟩ = some (.int .i64 b) := by go_cell
  have o3_1 : (((w.alloc (.cells #[.int .i64 m, .slice ao l.length cap] 38)).alloc (.cells #[.int .i64 1, .int .i64 a, .int .i64 b, .int .i64 n] 27)).alloc (.cells #[.int .i64 0, .slice none 0 0] 38)).cell? ⟨w.heap.size + 1, 3, none⟩ = some (.int .i64 n) := by go_cell
  have ol_1 : w.heap.size + 1 < (((w.alloc (.cells #[.int .i64 m, .slice ao l.length cap] 38)).alloc (.cells #[.int .i64 1, .int .i64 a, .int .i64 b, .int .i64 n] 27)).alloc (.cells #[.int .i64 0, .slice none 0 0] 38)).heap.size := by first | (simp; done) | (simp; omega)
  have r0_1 : (((w.alloc (.cells #[.int .i64 m, .slice ao l.length cap] 38)).alloc (.cells #[.int .i64 1, .int .i64 a, .int .i64 b, .int .i64 n] 27)).alloc (.cells #[.int .i64 0, .slice none 0 0] 38)).cell? ⟨w.heap.size + 1 + 1, 0, none⟩ = some (.int .i64 0) := by go_cell
  have rf0_1 : (((w.alloc (.cells #[.int .i64 m, .slice ao l.length cap] 38)).alloc (.cells #[.int .i64 1, .int .i64 a, .int .i64 b, .int .i64 n] 27)).alloc (.cells #[.int .i64 0, .slice none 0 0] 38)).frozen? ⟨w.heap.size + 1 + 1, 0, none⟩ = false := by (first | go_cell | (simp [World.frozen?, World.alloc]; done) | rfl)
  have r1_1 : (((w.alloc (.cells #[.int .i64 m, .slice ao l.length cap] 38)).alloc (.cells #[.int .i64 1, .int .i64 a, .int .i64 b, .int .i64 n] 27)).alloc (.cells #[.int .i64 0, .slice none 0 0] 38)).cell? ⟨w.heap.size + 1 + 1, 1, none⟩ = some (.slice none 0 0) := by go_cell
  have rf1_1 : (((w.alloc (.cells #[.int .i64 m, .slice ao l.length cap] 38)).alloc (.cells #[.int .i64 1, .int .i64 a, .int .i64 b, .int .i64 n] 27)).alloc (.cells #[.int .i64 0, .slice none 0 0] 38)).frozen? ⟨w.heap.size + 1 + 1, 1, none⟩ = false := by (first | go_cell | (simp [World.frozen?, World.alloc]; done) | rfl)
  have rl_1 : w.heap.size + 1 + 1 < (((w.alloc (.cells #[.int .i64 m, .slice ao l.length cap] 38)).alloc (.cells #[.int .i64 1, .int .i64 a, .int .i64 b, .int .i64 n] 27)).alloc (.cells #[.int .i64 0, .slice none 0 0] 38)).heap.size := by first | (simp; done) | (simp; omega)
  have c1 : Below w.heap.size w (((w.alloc (.cells #[.int .i64 m, .slice ao l.length cap] 38)).alloc (.cells #[.int .i64 1, .int .i64 a, .int .i64 b, .int .i64 n] 27)).alloc (.cells #[.int .i64 0, .slice none 0 0] 38)) := by go_grown
  have s1 : (((w.alloc (.cells #[.int .i64 m, .slice ao l.length cap] 38)).alloc (.cells #[.int .i64 1, .int .i64 a, .int .i64 b, .int .i64 n] 27)).alloc (.cells #[.int .i64 0, .slice none 0 0] 38)).heap.size = w.heap.size + 3 := by simp
  generalize (((w.alloc (.cells #[.int .i64 m, .slice ao l.length cap] 38)).alloc (.cells #[.int .i64 1, .int .i64 a, .int .i64 b, .int .i64 n] 27)).alloc (.cells #[.int .i64 0, .slice none 0 0] 38)) = w1 at x0_1 x1_1 xl_1 o0_1 o1_1 o2_1 o3_1 ol_1 r0_1 rf0_1 r1_1 rf1_1 rl_1 c1 s1 ⊢
  have qx0_1 := cell_regrown x0_1
  have qx1_1 := cell_regrown x1_1
  have qo0_1 := cell_regrown o0_1
  have qo1_1 := cell_regrown o1_1
  have qo2_1 := cell_regrown o2_1
  have qo3_1 := cell_regrown o3_1
  have qr0_1 := cell_regrown r0_1
  have qr1_1 := cell_regrown r1_1
  refine (HS _).mono ?_
  rintro e w2 ⟨rfl, b2⟩
  have d2 : Below w1.heap.size w1 w2 := (Below.trans (by go_grown) (b2.mono (by first | omega | (simp; done) | (simp; omega))))
  have c2 : Below w.heap.size w w2 := c1.trans (d2.mono c1.size)
  have x0_2 : w2.cell? ⟨w.heap.size, 0, none⟩ = some (.int .i64 m) := (by rw [b2.cell (by first | omega | (simp; done) | (simp; omega))]; go_cell)
  have x1_2 : w2.cell? ⟨w.heap.size, 1, none⟩ = some (.slice ao l.length cap) := (by rw [b2.cell (by first | omega | (simp; done) | (simp; omega))]; go_cell)
  have xl_2 : w.heap.size < w2.heap.size := (by have := b2.size; first | omega | (revert this; simp; done) | (revert this; simp; omega))
  have o0_2 : w2.cell? ⟨w.heap.size + 1, 0, none⟩ = some (.int .i64 1) := (by rw [b2.cell (by first | omega | (simp; done) | (simp; omega))]; go_cell)
  have o1_2 : w2.cell? ⟨w.heap.size + 1, 1, none⟩ = some (.int .i64 a) := (by rw [b2.cell (by first | omega | (simp; done) | (simp; omega))]; go_cell)
  have o2_2 : w2.cell? ⟨w.heap.size + 1, 2, none⟩ = some (.int .i64 b) := (by rw [b2.cell (by first | omega | (simp; done) | (simp; omega))]; go_cell)
  have o3_2 : w2.cell? ⟨w.heap.size + 1, 3, none⟩ = some (.int .i64 n) := (by rw [b2.cell (by first | omega | (simp; done) | (simp; omega))]; go_cell)
  have ol_2 : w.heap.size + 1 < w2.heap.size := (by have := b2.size; first | omega | (revert this; simp; done) | (revert this; simp; omega))
  have r0_2 : w2.cell? ⟨w.heap.size + 1 + 1, 0, none⟩ = some (.int .i64 0) := (by rw [b2.cell (by first | omega | (simp; done) | (simp; omega))]; go_cell)
  have rf0_2 : w2.frozen? ⟨w.heap.size + 1 + 1, 0, none⟩ = false := (by rw [b2.frozen (by first | omega | (simp; done) | (simp; omega))]; (first | go_cell | (simp [World.frozen?, World.alloc]; done) | rfl))
  have r1_2 : w2.cell? ⟨w.heap.size + 1 + 1, 1, none⟩ = some (.slice none 0 0) := (by rw [b2.cell (by first | omega | (simp; done) | (simp; omega))]; go_cell)
  have rf1_2 : w2.frozen? ⟨w.heap.size + 1 + 1, 1, none⟩ = false := (by rw [b2.frozen (by first | omega | (simp; done) | (simp; omega))]; (first | go_cell | (simp [World.frozen?, World.alloc]; done) | rfl))
  have rl_2 : w.heap.size + 1 + 1 < w2.heap.size := (by have := b2.size; first | omega | (revert this; simp; done) | (revert this; simp; omega))
  clear x0_1 x1_1 xl_1 o0_1 o1_1 o2_1 o3_1 ol_1 r0_1 rf0_1 r1_1 rf1_1 rl_1
  clear b2 d2
  go_wp2_with fail
  have e0 : ((w2.setCell ⟨w.heap.size + 1 + 1, 0, none⟩ (.int .i64 (n))).setCell ⟨w.heap.size + 1 + 1, 1, none⟩ (.slice none 0 0)).cell? ⟨w.heap.size + 1 + 1, 0, none⟩ = some (.int .i64 (n)) := by go_cell
  have e1 : ((w2.setCell ⟨w.heap.size + 1 + 1, 0, none⟩ (.int .i64 (n))).setCell ⟨w.heap.size + 1 + 1, 1, none⟩ (.slice none 0 0)).cell? ⟨w.heap.size + 1 + 1, 1, none⟩ = some (.slice none 0 0) := by go_cell
  refine bodyPost_ret (v := .agg #[.int .i64 (n), .slice none 0 0]) (by simp [results, Tryz.results40, go_sem, e0, e1]) rfl ⟨valA_nil _ _ _, (c2.setCell (p := ⟨w.heap.size + 1 + 1, 0, none⟩) (by show w.heap.size ≤ w.heap.size + 1 + 1; omega) _).setCell (p := ⟨w.heap.size + 1 + 1, 1, none⟩) (by show w.heap.size ≤ w.heap.size + 1 + 1; omega) _⟩

set_option maxRecDepth 100000 in
set_option maxHeartbeats 1000000 in
theorem specDo_bind (k a b n m : Int) (v : Value) (l : List (Int × Int)) (w : World) (h : Rd w v l) (hll : l.length ≤ 1099511627776) (hs : bindOk k a b n) (HOK : opOk k a b n = true) :
    Calls Tryz.prog 40 #[.agg #[.int .i64 m, v], .agg #[.int .i64 k, .int .i64 a, .int .i64 b, .int .i64 n]] w fun e w' => ValA w.heap.size w' e (0) (addL l b n) ∧ Below w.heap.size w w' := by
  have HS := fun w => specOpOk_any k a b n w
  rw [HOK] at HS
  clear HOK
  have HR := hid h
  obtain ⟨ao, cap, hv, _⟩ := h
  subst hv
  have HC := hid (show (∀ (v : Value) (w : World), Rd w v l → Calls Tryz.prog 102 #[.agg #[.int .i64 m, v], .agg #[.int .i64 k, .int .i64 a, .int .i64 b, .int .i64 n], .int .i64 b] w fun e w' => ValA w.heap.size w' e 0 (addL l b n) ∧ Below w.heap.size w w') from fun v w hr => by
    have := specKin_any k a b n m b v l w hr hll (Or.inr rfl) (Or.inl hs)
    rwa [if_pos hs] at this)
  obtain ⟨rfl, -⟩ := hs
  obtain ⟨q, hq⟩ : ∃ q, addL l b n = q := ⟨_, rfl⟩
  have HQ := hid hq
  rw [hq] at HC
  clear hq
  go_enter Tryz.func40, Tryz.ntmps40
  go_wp2_with fail
  have x0_1 : (((w.alloc (.cells #[.int .i64 m, .slice ao l.length cap] 38)).alloc (.cells #[.int .i64 2, .int .i64 a, .int .i64 b, .int .i64 n] 27)).alloc (.cells #[.int .i64 0, .slice none 0 0] 38)).cell? ⟨w.heap.size, 0, none⟩ = some (.int .i64 m) := by go_cell
  have x1_1 : (((w.alloc (.cells #[.int .i64 m, .slice ao l.length cap] 38)).alloc (.cells #[.int .i64 2, .int .i64 a, .int .i64 b, .int .i64 n] 27)).alloc (.cells #[.int .i64 0, .slice none 0 0] 38)).cell? ⟨w.heap.size, 1, none⟩ = some (.slice ao l.length cap) := by go_cell
  have xl_1 : w.heap.size < (((w.alloc (.cells #[.int .i64 m, .slice ao l.length cap] 38)).alloc (.cells #[.int .i64 2, .int .i64 a, .int .i64 b, .int .i64 n] 27)).alloc (.cells #[.int .i64 0, .slice none 0 0] 38)).heap.size := by first | (simp; done) | (simp; omega)
  have o0_1 : (((w.alloc (.cells #[.int .i64 m, .slice ao l.length cap] 38)).alloc (.cells #[.int .i64 2, .int .i64 a, .int .i64 b, .int .i64 n] 27)).alloc (.cells #[.int .i64 0, .slice none 0 0] 38)).cell? ⟨w.heap.size + 1, 0, none⟩ = some (.int .i64 2) := by go_cell
  have o1_1 : (((w.alloc (.cells #[.int .i64 m, .slice ao l.length cap] 38)).alloc (.cells #[.int .i64 2, .int .i64 a, .int .i64 b, .int .i64 n] 27)).alloc (.cells #[.int .i64 0, .slice none 0 0] 38)).cell? ⟨w.heap.size + 1, 1, none⟩ = some (.int .i64 a) := by go_cell
  have o2_1 : (((w.alloc (.cells #[.int .i64 m, .slice ao l.length cap] 38)).alloc (.cells #[.int .i64 2, .int .i64 a, .int .i64 b, .int .i64 n] 27)).alloc (.cells #[.int .i64 0, .slice none 0 0] 38)).cell? ⟨w.heap.size + 1, 2, none⟩ = some (.int .i64 b) := by go_cell
  have o3_1 : (((w.alloc (.cells #[.int .i64 m, .slice ao l.length cap] 38)).alloc (.cells #[.int .i64 2, .int .i64 a, .int .i64 b, .int .i64 n] 27)).alloc (.cells #[.int .i64 0, .slice none 0 0] 38)).cell? ⟨w.heap.size + 1, 3, none⟩ = some (.int .i64 n) := by go_cell
  have ol_1 : w.heap.size + 1 < (((w.alloc (.cells #[.int .i64 m, .slice ao l.length cap] 38)).alloc (.cells #[.int .i64 2, .int .i64 a, .int .i64 b, .int .i64 n] 27)).alloc (.cells #[.int .i64 0, .slice none 0 0] 38)).heap.size := by first | (simp; done) | (simp; omega)
  have r0_1 : (((w.alloc (.cells #[.int .i64 m, .slice ao l.length cap] 38)).alloc (.cells #[.int .i64 2, .int .i64 a, .int .i64 b, .int .i64 n] 27)).alloc (.cells #[.int .i64 0, .slice none 0 0] 38)).cell? ⟨w.heap.size + 1 + 1, 0, none⟩ = some (.int .i64 0) := by go_cell
  have rf0_1 : (((w.alloc (.cells #[.int .i64 m, .slice ao l.length cap] 38)).alloc (.cells #[.int .i64 2, .int .i64 a, .int .i64 b, .int .i64 n] 27)).alloc (.cells #[.int .i64 0, .slice none 0 0] 38)).frozen? ⟨w.heap.size + 1 + 1, 0, none⟩ = false := by (first | go_cell | (simp [World.frozen?, World.alloc]; done) | rfl)
  have r1_1 : (((w.alloc (.cells #[.int .i64 m, .slice ao l.length cap] 38)).alloc (.cells #[.int .i64 2, .int .i64 a, .int .i64 b, .int .i64 n] 27)).alloc (.cells #[.int .i64 0, .slice none 0 0] 38)).cell? ⟨w.heap.size + 1 + 1, 1, none⟩ = some (.slice none 0 0) := by go_cell
  have rf1_1 : (((w.alloc (.cells #[.int .i64 m, .slice ao l.length cap] 38)).alloc (.cells #[.int .i64 2, .int .i64 a, .int .i64 b, .int .i64 n] 27)).alloc (.cells #[.int .i64 0, .slice none 0 0] 38)).frozen? ⟨w.heap.size + 1 + 1, 1, none⟩ = false := by (first | go_cell | (simp [World.frozen?, World.alloc]; done) | rfl)
  have rl_1 : w.heap.size + 1 + 1 < (((w.alloc (.cells #[.int .i64 m, .slice ao l.length cap] 38)).alloc (.cells #[.int .i64 2, .int .i64 a, .int .i64 b, .int .i64 n] 27)).alloc (.cells #[.int .i64 0, .slice none 0 0] 38)).heap.size := by first | (simp; done) | (simp; omega)
  have c1 : Below w.heap.size w (((w.alloc (.cells #[.int .i64 m, .slice ao l.length cap] 38)).alloc (.cells #[.int .i64 2, .int .i64 a, .int .i64 b, .int .i64 n] 27)).alloc (.cells #[.int .i64 0, .slice none 0 0] 38)) := by go_grown
  have s1 : (((w.alloc (.cells #[.int .i64 m, .slice ao l.length cap] 38)).alloc (.cells #[.int .i64 2, .int .i64 a, .int .i64 b, .int .i64 n] 27)).alloc (.cells #[.int .i64 0, .slice none 0 0] 38)).heap.size = w.heap.size + 3 := by simp
  generalize (((w.alloc (.cells #[.int .i64 m, .slice ao l.length cap] 38)).alloc (.cells #[.int .i64 2, .int .i64 a, .int .i64 b, .int .i64 n] 27)).alloc (.cells #[.int .i64 0, .slice none 0 0] 38)) = w1 at x0_1 x1_1 xl_1 o0_1 o1_1 o2_1 o3_1 ol_1 r0_1 rf0_1 r1_1 rf1_1 rl_1 c1 s1 ⊢
  have qx0_1 := cell_regrown x0_1
  have qx1_1 := cell_regrown x1_1
  have qo0_1 := cell_regrown o0_1
  have qo1_1 := cell_regrown o1_1
  have qo2_1 := cell_regrown o2_1
  have qo3_1 := cell_regrown o3_1
  have qr0_1 := cell_regrown r0_1
  have qr1_1 := cell_regrown r1_1
  refine (HS _).mono ?_
  rintro e w2 ⟨rfl, b2⟩
  have d2 : Below w1.heap.size w1 w2 := (Below.trans (by go_grown) (b2.mono (by first | omega | (simp; done) | (simp; omega))))
  have c2 : Below w.heap.size w w2 := c1.trans (d2.mono c1.size)
  have x0_2 : w2.cell? ⟨w.heap.size, 0, none⟩ = some (.int .i64 m) := (by rw [b2.cell (by first | omega | (simp; done) | (simp; omega))]; go_cell)
  have x1_2 : w2.cell? ⟨w.heap.size, 1, none⟩ = some (.slice ao l.length cap) := (by rw [b2.cell (by first | omega | (simp; done) | (simp; omega))]; go_cell)
  have xl_2 : w.heap.size < w2.heap.size := (by have := b2.size; first | omega | (revert this; simp; done) | (revert this; simp; omega))
  have o0_2 : w2.cell? ⟨w.heap.size + 1, 0, none⟩ = some (.int .i64 2) := (by rw [b2.cell (by first | omega | (simp; done) | (simp; omega))]; go_cell)
  have o1_2 : w2.cell? ⟨w.heap.size + 1, 1, none⟩ = some (.int .i64 a) := (by rw [b2.cell (by first | omega | (simp; done) | (simp; omega))]; go_cell)
  have o2_2 : w2.cell? ⟨w.heap.size + 1, 2, none⟩ = some (.int .i64 b) := (by rw [b2.cell (by first | omega | (simp; done) | (simp; omega))]; go_cell)
  have o3_2 : w2.cell? ⟨w.heap.size + 1, 3, none⟩ = some (.int .i64 n) := (by rw [b2.cell (by first | omega | (simp; done) | (simp; omega))]; go_cell)
  have ol_2 : w.heap.size + 1 < w2.heap.size := (by have := b2.size; first | omega | (revert this; simp; done) | (revert this; simp; omega))
  have r0_2 : w2.cell? ⟨w.heap.size + 1 + 1, 0, none⟩ = some (.int .i64 0) := (by rw [b2.cell (by first | omega | (simp; done) | (simp; omega))]; go_cell)
  have rf0_2 : w2.frozen? ⟨w.heap.size + 1 + 1, 0, none⟩ = false := (by rw [b2.frozen (by first | omega | (simp; done) | (simp; omega))]; (first | go_cell | (simp [World.frozen?, World.alloc]; done) | rfl))
  have r1_2 : w2.cell? ⟨w.heap.size + 1 + 1, 1, none⟩ = some (.slice none 0 0) := (by rw [b2.cell (by first | omega | (simp; done) | (simp; omega))]; go_cell)
  have rf1_2 : w2.frozen? ⟨w.heap.size + 1 + 1, 1, none⟩ = false := (by rw [b2.frozen (by first | omega | (simp; done) | (simp; omega))]; (first | go_cell | (simp [World.frozen?, World.alloc]; done) | rfl))
  have rl_2 : w.heap.size + 1 + 1 < w2.heap.size := (by have := b2.size; first | omega | (revert this; simp; done) | (revert this; simp; omega))
  clear x0_1 x1_1 xl_1 o0_1 o1_1 o2_1 o3_1 ol_1 r0_1 rf0_1 r1_1 rf1_1 rl_1
  clear b2 d2
  go_wp2_with fail
  refine (HC.out _ _ (HR.out.later c2)).mono ?_
  rintro e w3 ⟨⟨v', rfl, ho⟩, b3⟩
  have HO := hid ho
  clear ho
  have hz2 : w.heap.size + 1 + 1 < w2.heap.size := rl_2
  have d3 : Below w2.heap.size w2 w3 := (Below.trans (by go_grown) (b3.mono (by first | omega | (simp; done) | (simp; omega))))
  have c3 : Below w.heap.size w w3 := c2.trans (d3.mono c2.size)
  have r0_3 : w3.cell? ⟨w.heap.size + 1 + 1, 0, none⟩ = some (.int .i64 0) := (by rw [b3.cell (by first | omega | (simp; done) | (simp; omega))]; go_cell)
  have rf0_3 : w3.frozen? ⟨w.heap.size + 1 + 1, 0, none⟩ = false := (by rw [b3.frozen (by first | omega | (simp; done) | (simp; omega))]; (first | go_cell | (simp [World.frozen?, World.alloc]; done) | rfl))
  have r1_3 : w3.cell? ⟨w.heap.size + 1 + 1, 1, none⟩ = some (.slice none 0 0) := (by rw [b3.cell (by first | omega | (simp; done) | (simp; omega))]; go_cell)
  have rf1_3 : w3.frozen? ⟨w.heap.size + 1 + 1, 1, none⟩ = false := (by rw [b3.frozen (by first | omega | (simp; done) | (simp; omega))]; (first | go_cell | (simp [World.frozen?, World.alloc]; done) | rfl))
  have rl_3 : w.heap.size + 1 + 1 < w3.heap.size := (by have := b3.size; first | omega | (revert this; simp; done) | (revert this; simp; omega))
  clear r0_2 rf0_2 r1_2 rf1_2 rl_2
  clear b3 d3
  obtain ⟨uo, uc, huv, _⟩ := HO.out.rd
  subst huv
  go_wp2
  have e0 : ((w3.setCell ⟨w.heap.size + 1 + 1, 0, none⟩ (.int .i64 (0))).setCell ⟨w.heap.size + 1 + 1, 1, none⟩ (.slice uo q.length uc)).cell? ⟨w.heap.size + 1 + 1, 0, none⟩ = some (.int .i64 (0)) := by go_cell
  have e1 : ((w3.setCell ⟨w.heap.size + 1 + 1, 0, none⟩ (.int .i64 (0))).setCell ⟨w.heap.size + 1 + 1, 1, none⟩ (.slice uo q.length uc)).cell? ⟨w.heap.size + 1 + 1, 1, none⟩ = some (.slice uo q.length uc) := by go_cell
  have HF := hid (((HO.out.setApart (p := ⟨w.heap.size + 1 + 1, 0, none⟩) (by show w.heap.size + 1 + 1 < _; omega) (.int .i64 (0))).setApart (p := ⟨w.heap.size + 1 + 1, 1, none⟩) (by show w.heap.size + 1 + 1 < _; omega) (.slice uo q.length uc)).mono (B' := w.heap.size) (by omega))
  refine bodyPost_ret (v := .agg #[.int .i64 (0), .slice uo q.length uc]) (by simp [results, Tryz.results40, go_sem, e0, e1]) rfl ⟨⟨_, rfl, by rw [HQ.out]; exact HF.out⟩, (c3.setCell (p := ⟨w.heap.size + 1 + 1, 0, none⟩) (by show w.heap.size ≤ w.heap.size + 1 + 1; omega) _).setCell (p := ⟨w.heap.size + 1 + 1, 1, none⟩) (by show w.heap.size ≤ w.heap.size + 1 + 1; omega) _⟩

set_option maxRecDepth 100000 in
set_option maxHeartbeats 1000000 in
theorem specDo_part (k a b n m : Int) (v : Value) (l : List (Int × Int)) (w : World) (h : Rd w v l) (hll : l.length ≤ 1099511627776) (hs : partOk k a b n) (HOK : opOk k a b n = true) :
    Calls Tryz.prog 40 #[.agg #[.int .i64 m, v], .agg #[.int .i64 k, .int .i64 a, .int .i64 b, .int .i64 n]] w fun e w' => ValA w.heap.size w' e (0) (dropL l b) ∧ Below w.heap.size w w' := by
  have HS := fun w => specOpOk_any k a b n w
  rw [HOK] at HS
  clear HOK
  have HR := hid h
  obtain ⟨ao, cap, hv, _⟩ := h
  subst hv
  have HC := hid (show (∀ (v : Value) (w : World), Rd w v l → Calls Tryz.prog 102 #[.agg #[.int .i64 m, v], .agg #[.int .i64 k, .int .i64 a, .int .i64 b, .int .i64 n], .int .i64 b] w fun e w' => ValA w.heap.size w' e 0 (dropL l b) ∧ Below w.heap.size w w') from fun v w hr => by
    have := specKin_any k a b n m b v l w hr hll (Or.inr rfl) (Or.inr hs)
    rwa [if_neg (fun h2 => by have := hs.1; have := h2.1; omega)] at this)
  obtain ⟨rfl, -⟩ := hs
  obtain ⟨q, hq⟩ : ∃ q, dropL l b = q := ⟨_, rfl⟩
  have HQ := hid hq
  rw [hq] at HC
  clear hq
  go_enter Tryz.func40, Tryz.ntmps40
  go_wp2_with fail
  have x0_1 : (((w.alloc (.cells #[.int .i64 m, .slice ao l.length cap] 38)).alloc (.cells #[.int .i64 3, .int .i64 a, .int .i64 b, .int .i64 n] 27)).alloc (.cells #[.int .i64 0, .slice none 0 0] 38)).cell? ⟨w.heap.size, 0, none⟩ = some (.int .i64 m) := by go_cell
  have x1_1 : (((w.alloc (.cells #[.int .i64 m, .slice ao l.length cap] 38)).alloc (.cells #[.int .i64 3, .int .i64 a, .int .i64 b, .int .i64 n] 27)).alloc (.cells #[.int .i64 0, .slice none 0 0] 38)).cell? ⟨w.heap.size, 1, none⟩ = some (.slice ao l.length cap) := by go_cell
  have xl_1 : w.heap.size < (((w.alloc (.cells #[.int .i64 m, .slice ao l.length cap] 38)).alloc (.cells #[.int .i64 3, .int .i64 a, .int .i64 b, .int .i64 n] 27)).alloc (.cells #[.int .i64 0, .slice none 0 0] 38)).heap.size := by first | (simp; done) | (simp; omega)
  have o0_1 : (((w.alloc (.cells #[.int .i64 m, .slice ao l.length cap] 38)).alloc (.cells #[.int .i64 3, .int .i64 a, .int .i64 b, .int .i64 n] 27)).alloc (.cells #[.int .i64 0, .slice none 0 0] 38)).cell? ⟨w.heap.size + 1, 0, none⟩ = some (.int .i64 3) := by go_cell
  have o1_1 : (((w.alloc (.cells #[.int .i64 m, .slice ao l.length cap] 38)).alloc (.cells #[.int .i64 3, .int .i64 a, .int .i64 b, .int .i64 n] 27)).alloc (.cells #[.int .i64 0, .slice none 0 0] 38)).cell? ⟨w.heap.size + 1, 1, none⟩ = some (.int .i64 a) := by go_cell
  have o2_1 : (((w.alloc (.cells #[.int .i64 m, .slice ao l.length cap] 38)).alloc (.cells #[.int .i64 3, .int .i64 a, .int .i64 b, .int .i64 n] 27)).alloc (.cells #[.int .i64 0, .slice none 0 0] 38)).cell? ⟨w.heap.size + 1, 2, none⟩ = some (.int .i64 b) := by go_cell
  have o3_1 : (((w.alloc (.cells #[.int .i64 m, .slice ao l.length cap] 38)).alloc (.cells #[.int .i64 3, .int .i64 a, .int .i64 b, .int .i64 n] 27)).alloc (.cells #[.int .i64 0, .slice none 0 0] 38)).cell? ⟨w.heap.size + 1, 3, none⟩ = some (.int .i64 n) := by go_cell
  have ol_1 : w.heap.size + 1 < (((w.alloc (.cells #[.int .i64 m, .slice ao l.length cap] 38)).alloc (.cells #[.int .i64 3, .int .i64 a, .int .i64 b, .int .i64 n] 27)).alloc (.cells #[.int .i64 0, .slice none 0 0] 38)).heap.size := by first | (simp; done) | (simp; omega)
  have r0_1 : (((w.alloc (.cells #[.int .i64 m, .slice ao l.length cap] 38)).alloc (.cells #[.int .i64 3, .int .i64 a, .int .i64 b, .int .i64 n] 27)).alloc (.cells #[.int .i64 0, .slice none 0 0] 38)).cell? ⟨w.heap.size + 1 + 1, 0, none⟩ = some (.int .i64 0) := by go_cell
  have rf0_1 : (((w.alloc (.cells #[.int .i64 m, .slice ao l.length cap] 38)).alloc (.cells #[.int .i64 3, .int .i64 a, .int .i64 b, .int .i64 n] 27)).alloc (.cells #[.int .i64 0, .slice none 0 0] 38)).frozen? ⟨w.heap.size + 1 + 1, 0, none⟩ = false := by (first | go_cell | (simp [World.frozen?, World.alloc]; done) | rfl)
  have r1_1 : (((w.alloc (.cells #[.int .i64 m, .slice ao l.length cap] 38)).alloc (.cells #[.int .i64 3, .int .i64 a, .int .i64 b, .int .i64 n] 27)).alloc (.cells #[.int .i64 0, .slice none 0 0] 38)).cell? ⟨w.heap.size + 1 + 1, 1, none⟩ = some (.slice none 0 0) := by go_cell
  have rf1_1 : (((w.alloc (.cells #[.int .i64 m, .slice ao l.length cap] 38)).alloc (.cells #[.int .i64 3, .int .i64 a, .int .i64 b, .int .i64 n] 27)).alloc (.cells #[.int .i64 0, .slice none 0 0] 38)).frozen? ⟨w.heap.size + 1 + 1, 1, none⟩ = false := by (first | go_cell | (simp [World.frozen?, World.alloc]; done) | rfl)
  have rl_1 : w.heap.size + 1 + 1 < (((w.alloc (.cells #[.int .i64 m, .slice ao l.length cap] 38)).alloc (.cells #[.int .i64 3, .int .i64 a, .int .i64 b, .int .i64 n] 27)).alloc (.cells #[.int .i64 0, .slice none 0 0] 38)).heap.size := by first | (simp; done) | (simp; omega)
  have c1 : Below w.heap.size w (((w.alloc (.cells #[.int .i64 m, .slice ao l.length cap] 38)).alloc (.cells #[.int .i64 3, .int .i64 a, .int .i64 b, .int .i64 n] 27)).alloc (.cells #[.int .i64 0, .slice none 0 0] 38)) := by go_grown
  have s1 : (((w.alloc (.cells #[.int .i64 m, .slice ao l.length cap] 38)).alloc (.cells #[.int .i64 3, .int .i64 a, .int .i64 b, .int .i64 n] 27)).alloc (.cells #[.int .i64 0, .slice none 0 0] 38)).heap.size = w.heap.size + 3 := by simp
  generalize (((w.alloc (.cells #[.int .i64 m, .slice ao l.length cap] 38)).alloc (.cells #[.int .i64 3, .int .i64 a, .int .i64 b, .int .i64 n] 27)).alloc (.cells #[.int .i64 0, .slice none 0 0] 38)) = w1 at x0_1 x1_1 xl_1 o0_1 o1_1 o2_1 o3_1 ol_1 r0_1 rf0_1 r1_1 rf1_1 rl_1 c1 s1 ⊢
  have qx0_1 := cell_regrown x0_1
  have qx1_1 := cell_regrown x1_1
  have qo0_1 := cell_regrown o0_1
  have qo1_1 := cell_regrown o1_1
  have qo2_1 := cell_regrown o2_1
  have qo3_1 := cell_regrown o3_1
  have qr0_1 := cell_regrown r0_1
  have qr1_1 := cell_regrown r1_1
  refine (HS _).mono ?_
  rintro e w2 ⟨rfl, b2⟩
  have d2 : Below w1.heap.size w1 w2 := (Below.trans (by go_grown) (b2.mono (by first | omega | (simp; done) | (simp; omega))))
  have c2 : Below w.heap.size w w2 := c1.trans (d2.mono c1.size)
  have x0_2 : w2.cell? ⟨w.heap.size, 0, none⟩ = some (.int .i64 m) := (by rw [b2.cell (by first | omega | (simp; done) | (simp; omega))]; go_cell)
  have x1_2 : w2.cell? ⟨w.heap.size, 1, none⟩ = some (.slice ao l.length cap) := (by rw [b2.cell (by first | omega | (simp; done) | (simp; omega))]; go_cell)
  have xl_2 : w.heap.size < w2.heap.size := (by have := b2.size; first | omega | (revert this; simp; done) | (revert this; simp; omega))
  have o0_2 : w2.cell? ⟨w.heap.size + 1, 0, none⟩ = some (.int .i64 3) := (by rw [b2.cell (by first | omega | (simp; done) | (simp; omega))]; go_cell)
  have o1_2 : w2.cell? ⟨w.heap.size + 1, 1, none⟩ = some (.int .i64 a) := (by rw [b2.cell (by first | omega | (simp; done) | (simp; omega))]; go_cell)
  have o2_2 : w2.cell? ⟨w.heap.size + 1, 2, none⟩ = some (.int .i64 b) := (by rw [b2.cell (by first | omega | (simp; done) | (simp; omega))]; go_cell)
  have o3_2 : w2.cell? ⟨w.heap.size + 1, 3, none⟩ = some (.int .i64 n) := (by rw [b2.cell (by first | omega | (simp; done) | (simp; omega))]; go_cell)
  have ol_2 : w.heap.size + 1 < w2.heap.size := (by have := b2.size; first | omega | (revert this; simp; done) | (revert this; simp; omega))
  have r0_2 : w2.cell? ⟨w.heap.size + 1 + 1, 0, none⟩ = some (.int .i64 0) := (by rw [b2.cell (by first | omega | (simp; done) | (simp; omega))]; go_cell)
  have rf0_2 : w2.frozen? ⟨w.heap.size + 1 + 1, 0, none⟩ = false := (by rw [b2.frozen (by first | omega | (simp; done) | (simp; omega))]; (first | go_cell | (simp [World.frozen?, World.alloc]; done) | rfl))
  have r1_2 : w2.cell? ⟨w.heap.size + 1 + 1, 1, none⟩ = some (.slice none 0 0) := (by rw [b2.cell (by first | omega | (simp; done) | (simp; omega))]; go_cell)
  have rf1_2 : w2.frozen? ⟨w.heap.size + 1 + 1, 1, none⟩ = false := (by rw [b2.frozen (by first | omega | (simp; done) | (simp; omega))]; (first | go_cell | (simp [World.frozen?, World.alloc]; done) | rfl))
  have rl_2 : w.heap.size + 1 + 1 < w2.heap.size := (by have := b2.size; first | omega | (revert this; simp; done) | (revert this; simp; omega))
  clear x0_1 x1_1 xl_1 o0_1 o1_1 o2_1 o3_1 ol_1 r0_1 rf0_1 r1_1 rf1_1 rl_1
  clear b2 d2
  go_wp2_with fail
  refine (HC.out _ _ (HR.out.later c2)).mono ?_
  rintro e w3 ⟨⟨v', rfl, ho⟩, b3⟩
  have HO := hid ho
  clear ho
  have hz2 : w.heap.size + 1 + 1 < w2.heap.size := rl_2
  have d3 : Below w2.heap.size w2 w3 := (Below.trans (by go_grown) (b3.mono (by first | omega | (simp; done) | (simp; omega))))
  have c3 : Below w.heap.size w w3 := c2.trans (d3.mono c2.size)
  have r0_3 : w3.cell? ⟨w.heap.size + 1 + 1, 0, none⟩ = some (.int .i64 0) := (by rw [b3.cell (by first | omega | (simp; done) | (simp; omega))]; go_cell)
  have rf0_3 : w3.frozen? ⟨w.heap.size + 1 + 1, 0, none⟩ = false := (by rw [b3.frozen (by first | omega | (simp; done) | (simp; omega))]; (first | go_cell | (simp [World.frozen?, World.alloc]; done) | rfl))
  have r1_3 : w3.cell? ⟨w.heap.size + 1 + 1, 1, none⟩ = some (.slice none 0 0) := (by rw [b3.cell (by first | omega | (simp; done) | (simp; omega))]; go_cell)
  have rf1_3 : w3.frozen? ⟨w.heap.size + 1 + 1, 1, none⟩ = false := (by rw [b3.frozen (by first | omega | (simp; done) | (simp; omega))]; (first | go_cell | (simp [World.frozen?, World.alloc]; done) | rfl))
  have rl_3 : w.heap.size + 1 + 1 < w3.heap.size := (by have := b3.size; first | omega | (revert this; simp; done) | (revert this; simp; omega))
  clear r0_2 rf0_2 r1_2 rf1_2 rl_2
  clear b3 d3
  obtain ⟨uo, uc, huv, _⟩ := HO.out.rd
  subst huv
  go_wp2
  have e0 : ((w3.setCell ⟨w.heap.size + 1 + 1, 0, none⟩ (.int .i64 (0))).setCell ⟨w.heap.size + 1 + 1, 1, none⟩ (.slice uo q.length uc)).cell? ⟨w.heap.size + 1 + 1, 0, none⟩ = some (.int .i64 (0)) := by go_cell
  have e1 : ((w3.setCell ⟨w.heap.size + 1 + 1, 0, none⟩ (.int .i64 (0))).setCell ⟨w.heap.size + 1 + 1, 1, none⟩ (.slice uo q.length uc)).cell? ⟨w.heap.size + 1 + 1, 1, none⟩ = some (.slice uo q.length uc) := by go_cell
  have HF := hid (((HO.out.setApart (p := ⟨w.heap.size + 1 + 1, 0, none⟩) (by show w.heap.size + 1 + 1 < _; omega) (.int .i64 (0))).setApart (p := ⟨w.heap.size + 1 + 1, 1, none⟩) (by show w.heap.size + 1 + 1 < _; omega) (.slice uo q.length uc)).mono (B' := w.heap.size) (by omega))
  refine bodyPost_ret (v := .agg #[.int .i64 (0), .slice uo q.length uc]) (by simp [results, Tryz.results40, go_sem, e0, e1]) rfl ⟨⟨_, rfl, by rw [HQ.out]; exact HF.out⟩, (c3.setCell (p := ⟨w.heap.size + 1 + 1, 0, none⟩) (by show w.heap.size ≤ w.heap.size + 1 + 1; omega) _).setCell (p := ⟨w.heap.size + 1 + 1, 1, none⟩) (by show w.heap.size ≤ w.heap.size + 1 + 1; omega) _⟩

theorem specDo_any (k a b n m : Int) (v : Value) (l : List (Int × Int)) (w : World) (h : Rd w v l) (hll : l.length ≤ 1099511627776) :
    Calls Tryz.prog 40 #[.agg #[.int .i64 m, v], .agg #[.int .i64 k, .int .i64 a, .int .i64 b, .int .i64 n]] w fun e w' => ValA w.heap.size w' e (doN k a b n) (doL k a b n l) ∧ Below w.heap.size w w' := by
  have ht : setOk k a b n → opOk k a b n = true := fun h => by simp [opOk, h]
  have hb : bindOk k a b n → opOk k a b n = true := fun h => by simp [opOk, h]
  have hp : partOk k a b n → opOk k a b n = true := fun h => by simp [opOk, h]
  rcases do_ways k a b n l with ⟨hs, e1, e2, -⟩ | ⟨hs, e1, e2, -⟩ | ⟨hs, e1, e2, -⟩ | ⟨h1, h2, h3, e1, e2, -⟩ <;> rw [e1, e2]
  · exact specDo_set k a b n m v l w h hll hs (ht hs)
  · exact specDo_bind k a b n m v l w h hll hs (hb hs)
  · exact specDo_part k a b n m v l w h hll hs (hp hs)
  · exact specDo_no k a b n m v l w h hll (by simp [opOk, h1, h2, h3])

end Go.Proofs.YtkmhnjgncnoddaaGreat

/- Part: spec.OpBack: contract. -/
namespace Go.Proofs.YtkmhnjgncnoddaaGreat
open Go.RowKit
attribute [local go_sem ↓] Go.wp_at_zero Go.wp_at_succ

set_option maxRecDepth 100000 in
set_option maxHeartbeats 1000000 in
theorem specBack_no (k a b n m : Int) (v : Value) (l : List (Int × Int)) (w : World) (h : Rd w v l) (_ : l.length ≤ 1099511627776) (HOK : opOk k a b n = false) :
    Calls Tryz.prog 42 #[.agg #[.int .i64 m, v], .agg #[.int .i64 k, .int .i64 a, .int .i64 b, .int .i64 n]] w fun e w' => ValA w.heap.size w' e (0) ([]) ∧ Below w.heap.size w w' := by
  have HS := fun w => specOpOk_any k a b n w
  rw [HOK] at HS
  clear HOK
  obtain ⟨ao, cap, hv, _⟩ := h
  subst hv
  go_enter Tryz.func42, Tryz.ntmps42
  go_wp2_with fail
  have x0_1 : (((w.alloc (.cells #[.int .i64 m, .slice ao l.length cap] 38)).alloc (.cells #[.int .i64 k, .int .i64 a, .int .i64 b, .int .i64 n] 27)).alloc (.cells #[.int .i64 0, .slice none 0 0] 38)).cell? ⟨w.heap.size, 0, none⟩ = some (.int .i64 m) := by go_cell
  have x1_1 : (((w.alloc (.cells #[.int .i64 m, .slice ao l.length cap] 38)).alloc (.cells #[.int .i64 k, .int .i64 a, .int .i64 b, .int .i64 n] 27)).alloc (.cells #[.int .i64 0, .slice none 0 0] 38)).cell? ⟨w.heap.size, 1, none⟩ = some (.slice ao l.length cap) := by go_cell
  have xl_1 : w.heap.size < (((w.alloc (.cells #[.int .i64 m, .slice ao l.length cap] 38)).alloc (.cells #[.int .i64 k, .int .i64 a, .int .i64 b, .int .i64 n] 27)).alloc (.cells #[.int .i64 0, .slice none 0 0] 38)).heap.size := by first | (simp; done) | (simp; omega)
  have o0_1 : (((w.alloc (.cells #[.int .i64 m, .slice ao l.length cap] 38)).alloc (.cells #[.int .i64 k, .int .i64 a, .int .i64 b, .int .i64 n] 27)).alloc (.cells #[.int .i64 0, .slice none 0 0] 38)).cell? ⟨w.heap.size + 1, 0, none⟩ = some (.int .i64 k) := by go_cell
  have o1_1 : (((w.alloc (.cells #[.int .i64 m, .slice ao l.length cap] 38)).alloc (.cells #[.int .i64 k, .int .i64 a, .int .i64 b, .int .i64 n] 27)).alloc (.cells #[.int .i64 0, .slice none 0 0] 38)).cell? ⟨w.heap.size + 1, 1, none⟩ = some (.int .i64 a) := by go_cell
  have o2_1 : (((w.alloc (.cells #[.int .i64 m, .slice ao l.length cap] 38)).alloc (.cells #[.int .i64 k, .int .i64 a, .int .i64 b, .int .i64 n] 27)).alloc (.cells #[.int .i64 0, .slice none 0 0] 38)).cell? ⟨w.heap.size + 1, 2, none⟩ = some (.int .i64 b) := by go_cell
  have o3_1 : (((w.alloc (.cells #[.int .i64 m, .slice ao l.length cap] 38)).alloc (.cells #[.int .i64 k, .int .i64 a, .int .i64 b, .int .i64 n] 27)).alloc (.cells #[.int .i64 0, .slice none 0 0] 38)).cell? ⟨w.heap.size + 1, 3, none⟩ = some (.int .i64 n) := by go_cell
  have ol_1 : w.heap.size + 1 < (((w.alloc (.cells #[.int .i64 m, .slice ao l.length cap] 38)).alloc (.cells #[.int .i64 k, .int .i64 a, .int .i64 b, .int .i64 n] 27)).alloc (.cells #[.int .i64 0, .slice none 0 0] 38)).heap.size := by first | (simp; done) | (simp; omega)
  have r0_1 : (((w.alloc (.cells #[.int .i64 m, .slice ao l.length cap] 38)).alloc (.cells #[.int .i64 k, .int .i64 a, .int .i64 b, .int .i64 n] 27)).alloc (.cells #[.int .i64 0, .slice none 0 0] 38)).cell? ⟨w.heap.size + 1 + 1, 0, none⟩ = some (.int .i64 0) := by go_cell
  have rf0_1 : (((w.alloc (.cells #[.int .i64 m, .slice ao l.length cap] 38)).alloc (.cells #[.int .i64 k, .int .i64 a, .int .i64 b, .int .i64 n] 27)).alloc (.cells #[.int .i64 0, .slice none 0 0] 38)).frozen? ⟨w.heap.size + 1 + 1, 0, none⟩ = false := by (first | go_cell | (simp [World.frozen?, World.alloc]; done) | rfl)
  have r1_1 : (((w.alloc (.cells #[.int .i64 m, .slice ao l.length cap] 38)).alloc (.cells #[.int .i64 k, .int .i64 a, .int .i64 b, .int .i64 n] 27)).alloc (.cells #[.int .i64 0, .slice none 0 0] 38)).cell? ⟨w.heap.size + 1 + 1, 1, none⟩ = some (.slice none 0 0) := by go_cell
  have rf1_1 : (((w.alloc (.cells #[.int .i64 m, .slice ao l.length cap] 38)).alloc (.cells #[.int .i64 k, .int .i64 a, .int .i64 b, .int .i64 n] 27)).alloc (.cells #[.int .i64 0, .slice none 0 0] 38)).frozen? ⟨w.heap.size + 1 + 1, 1, none⟩ = false := by (first | go_cell | (simp [World.frozen?, World.alloc]; done) | rfl)
  have rl_1 : w.heap.size + 1 + 1 < (((w.alloc (.cells #[.int .i64 m, .slice ao l.length cap] 38)).alloc (.cells #[.int .i64 k, .int .i64 a, .int .i64 b, .int .i64 n] 27)).alloc (.cells #[.int .i64 0, .slice none 0 0] 38)).heap.size := by first | (simp; done) | (simp; omega)
  have c1 : Below w.heap.size w (((w.alloc (.cells #[.int .i64 m, .slice ao l.length cap] 38)).alloc (.cells #[.int .i64 k, .int .i64 a, .int .i64 b, .int .i64 n] 27)).alloc (.cells #[.int .i64 0, .slice none 0 0] 38)) := by go_grown
  have s1 : (((w.alloc (.cells #[.int .i64 m, .slice ao l.length cap] 38)).alloc (.cells #[.int .i64 k, .int .i64 a, .int .i64 b, .int .i64 n] 27)).alloc (.cells #[.int .i64 0, .slice none 0 0] 38)).heap.size = w.heap.size + 3 := by simp
  generalize (((w.alloc (.cells #[.int .i64 m, .slice ao l.length cap] 38)).alloc (.cells #[.int .i64 k, .int .i64 a, .int .i64 b, .int .i64 n] 27)).alloc (.cells #[.int .i64 0, .slice none 0 0] 38)) = w1 at x0_1 x1_1 xl_1 o0_1 o1_1 o2_1 o3_1 ol_1 r0_1 rf0_1 r1_1 rf1_1 rl_1 c1 s1 ⊢
  have qx0_1 := cell_regrown x0_1
  have qx1_1 := cell_regrown x1_1
  have qo0_1 := cell_regrown o0_1
  have qo1_1 := cell_regrown o1_1
  have qo2_1 := cell_regrown o2_1
  have qo3_1 := cell_regrown o3_1
  have qr0_1 := cell_regrown r0_1
  have qr1_1 := cell_regrown r1_1
  refine (HS _).mono ?_
  rintro e w2 ⟨rfl, b2⟩
  have d2 : Below w1.heap.size w1 w2 := (Below.trans (by go_grown) (b2.mono (by first | omega | (simp; done) | (simp; omega))))
  have c2 : Below w.heap.size w w2 := c1.trans (d2.mono c1.size)
  have x0_2 : w2.cell? ⟨w.heap.size, 0, none⟩ = some (.int .i64 m) := (by rw [b2.cell (by first | omega | (simp; done) | (simp; omega))]; go_cell)
  have x1_2 : w2.cell? ⟨w.heap.size, 1, none⟩ = some (.slice ao l.length cap) := (by rw [b2.cell (by first | omega | (simp; done) | (simp; omega))]; go_cell)
  have xl_2 : w.heap.size < w2.heap.size := (by have := b2.size; first | omega | (revert this; simp; done) | (revert this; simp; omega))
  have o0_2 : w2.cell? ⟨w.heap.size + 1, 0, none⟩ = some (.int .i64 k) := (by rw [b2.cell (by first | omega | (simp; done) | (simp; omega))]; go_cell)
  have o1_2 : w2.cell? ⟨w.heap.size + 1, 1, none⟩ = some (.int .i64 a) := (by rw [b2.cell (by first | omega | (simp; done) | (simp; omega))]; go_cell)
  have o2_2 : w2.cell? ⟨w.heap.size + 1, 2, none⟩ = some (.int .i64 b) := (by rw [b2.cell (by first | omega | (simp; done) | (simp; omega))]; go_cell)
  have o3_2 : w2.cell? ⟨w.heap.size + 1, 3, none⟩ = some (.int .i64 n) := (by rw [b2.cell (by first | omega | (simp; done) | (simp; omega))]; go_cell)
  have ol_2 : w.heap.size + 1 < w2.heap.size := (by have := b2.size; first | omega | (revert this; simp; done) | (revert this; simp; omega))
  have r0_2 : w2.cell? ⟨w.heap.size + 1 + 1, 0, none⟩ = some (.int .i64 0) := (by rw [b2.cell (by first | omega | (simp; done) | (simp; omega))]; go_cell)
  have rf0_2 : w2.frozen? ⟨w.heap.size + 1 + 1, 0, none⟩ = false := (by rw [b2.frozen (by first | omega | (simp; done) | (simp; omega))]; (first | go_cell | (simp [World.frozen?, World.alloc]; done) | rfl))
  have r1_2 : w2.cell? ⟨w.heap.size + 1 + 1, 1, none⟩ = some (.slice none 0 0) := (by rw [b2.cell (by first | omega | (simp; done) | (simp; omega))]; go_cell)
  have rf1_2 : w2.frozen? ⟨w.heap.size + 1 + 1, 1, none⟩ = false := (by rw [b2.frozen (by first | omega | (simp; done) | (simp; omega))]; (first | go_cell | (simp [World.frozen?, World.alloc]; done) | rfl))
  have rl_2 : w.heap.size + 1 + 1 < w2.heap.size := (by have := b2.size; first | omega | (revert this; simp; done) | (revert this; simp; omega))
  clear x0_1 x1_1 xl_1 o0_1 o1_1 o2_1 o3_1 ol_1 r0_1 rf0_1 r1_1 rf1_1 rl_1
  clear b2 d2
  go_wp2_with fail
  have e0 : ((w2.setCell ⟨w.heap.size + 1 + 1, 0, none⟩ (.int .i64 (0))).setCell ⟨w.heap.size + 1 + 1, 1, none⟩ (.slice none 0 0)).cell? ⟨w.heap.size + 1 + 1, 0, none⟩ = some (.int .i64 (0)) := by go_cell
  have e1 : ((w2.setCell ⟨w.heap.size + 1 + 1, 0, none⟩ (.int .i64 (0))).setCell ⟨w.heap.size + 1 + 1, 1, none⟩ (.slice none 0 0)).cell? ⟨w.heap.size + 1 + 1, 1, none⟩ = some (.slice none 0 0) := by go_cell
  refine bodyPost_ret (v := .agg #[.int .i64 (0), .slice none 0 0]) (by simp [results, Tryz.results42, go_sem, e0, e1]) rfl ⟨valA_nil _ _ _, (c2.setCell (p := ⟨w.heap.size + 1 + 1, 0, none⟩) (by show w.heap.size ≤ w.heap.size + 1 + 1; omega) _).setCell (p := ⟨w.heap.size + 1 + 1, 1, none⟩) (by show w.heap.size ≤ w.heap.size + 1 + 1; omega) _⟩

set_option maxRecDepth 100000 in
set_option maxHeartbeats 1000000 in
theorem specBack_set (k a b n m : Int) (v : Value) (l : List (Int × Int)) (w : World) (h : Rd w v l) (_ : l.length ≤ 1099511627776) (hs : setOk k a b n) (HOK : opOk k a b n = true) :
    Calls Tryz.prog 42 #[.agg #[.int .i64 m, v], .agg #[.int .i64 k, .int .i64 a, .int .i64 b, .int .i64 n]] w fun e w' => ValA w.heap.size w' e (0) ([]) ∧ Below w.heap.size w w' := by
  have HS := fun w => specOpOk_any k a b n w
  rw [HOK] at HS
  clear HOK
  obtain ⟨ao, cap, hv, _⟩ := h
  subst hv
  obtain ⟨rfl, -⟩ := hs
  go_enter Tryz.func42, Tryz.ntmps42
  go_wp2_with fail
  have x0_1 : (((w.alloc (.cells #[.int .i64 m, .slice ao l.length cap] 38)).alloc (.cells #[.int .i64 1, .int .i64 a, .int .i64 b, .int .i64 n] 27)).alloc (.cells #[.int .i64 0, .slice none 0 0] 38)).cell? ⟨w.heap.size, 0, none⟩ = some (.int .i64 m) := by go_cell
  have x1_1 : (((w.alloc (.cells #[.int .i64 m, .slice ao l.length cap] 38)).alloc (.cells #[.int .i64 1, .int .i64 a, .int .i64 b, .int .i64 n] 27)).alloc (.cells #[.int .i64 0, .slice none 0 0] 38)).cell? ⟨w.heap.size, 1, none⟩ = some (.slice ao l.length cap) := by go_cell
  have xl_1 : w.heap.size < (((w.alloc (.cells #[.int .i64 m, .slice ao l.length cap] 38)).alloc (.cells #[.int .i64 1, .int .i64 a, .int .i64 b, .int .i64 n] 27)).alloc (.cells #[.int .i64 0, .slice none 0 0] 38)).heap.size := by first | (simp; done) | (simp; omega)
  have o0_1 : (((w.alloc (.cells #[.int .i64 m, .slice ao l.length cap] 38)).alloc (.cells #[.int .i64 1, .int .i64 a, .int .i64 b, .int .i64 n] 27)).alloc (.cells #[.int .i64 0, .slice none 0 0] 38)).cell? ⟨w.heap.size + 1, 0, none⟩ = some (.int .i64 1) := by go_cell
  have o1_1 : (((w.alloc (.cells #[.int .i64 m, .slice ao l.length cap] 38)).alloc (.cells #[.int .i64 1, .int .i64 a, .int .i64 b, .int .i64 n] 27)).alloc (.cells #[.int .i64 0, .slice none 0 0] 38)).cell? ⟨w.heap.size + 1, 1, none⟩ = some (.int .i64 a) := by go_cell
  have o2_1 : (((w.alloc (.cells #[.int .i64 m, .slice ao l.length cap] 38)).alloc (.cells #[.int .i64 1, .int .i64 a, .int .i64 b, .int .i64 n] 27)).alloc (.cells #[.int .i64 0, .slice none 0 0] 38)).cell? ⟨w.heap.size + 1, 2, none⟩ = some (.int .i64 b) := by go_cell
  have o3_1 : (((w.alloc (.cells #[.int .i64 m, .slice ao l.length cap] 38)).alloc (.cells #[.int .i64 1, .int .i64 a, .int .i64 b, .int .i64 n] 27)).alloc (.cells #[.int .i64 0, .slice none 0 0] 38)).cell? ⟨w.heap.size + 1, 3, none⟩ = some (.int .i64 n) := by go_cell
  have ol_1 : w.heap.size + 1 < (((w.alloc (.cells #[.int .i64 m, .slice ao l.length cap] 38)).alloc (.cells #[.int .i64 1, .int .i64 a, .int .i64 b, .int .i64 n] 27)).alloc (.cells #[.int .i64 0, .slice none 0 0] 38)).heap.size := by first | (simp; done) | (simp; omega)
  have r0_1 : (((w.alloc (.cells #[.int .i64 m, .slice ao l.length cap] 38)).alloc (.cells #[.int .i64 1, .int .i64 a, .int .i64 b, .int .i64 n] 27)).alloc (.cells #[.int .i64 0, .slice none 0 0] 38)).cell? ⟨w.heap.size + 1 + 1, 0, none⟩ = some (.int .i64 0) := by go_cell
  have rf0_1 : (((w.alloc (.cells #[.int .i64 m, .slice ao l.length cap] 38)).alloc (.cells #[.int .i64 1, .int .i64 a, .int .i64 b, .int .i64 n] 27)).alloc (.cells #[.int .i64 0, .slice none 0 0] 38)).frozen? ⟨w.heap.size + 1 + 1, 0, none⟩ = false := by (first | go_cell | (simp [World.frozen?, World.alloc]; done) | rfl)
  have r1_1 : (((w.alloc (.cells #[.int .i64 m, .slice ao l.length cap] 38)).alloc (.cells #[.int .i64 1, .int .i64 a, .int .i64 b, .int .i64 n] 27)).alloc (.cells #[.int .i64 0, .slice none 0 0] 38)).cell? ⟨w.heap.size + 1 + 1, 1, none⟩ = some (.slice none 0 0) := by go_cell
  have rf1_1 : (((w.alloc (.cells #[.int .i64 m, .slice ao l.length cap] 38)).alloc (.cells #[.int .i64 1, .int .i64 a, .int .i64 b, .int .i64 n] 27)).alloc (.cells #[.int .i64 0, .slice none 0 0] 38)).frozen? ⟨w.heap.size + 1 + 1, 1, none⟩ = false := by (first | go_cell | (simp [World.frozen?, World.alloc]; done) | rfl)
  have rl_1 : w.heap.size + 1 + 1 < (((w.alloc (.cells #[.int .i64 m, .slice ao l.length cap] 38)).alloc (.cells #[.int .i64 1, .int .i64 a, .int .i64 b, .int .i64 n] 27)).alloc (.cells #[.int .i64 0, .slice none 0 0] 38)).heap.size := by first | (simp; done) | (simp; omega)
  have c1 : Below w.heap.size w (((w.alloc (.cells #[.int .i64 m, .slice ao l.length cap] 38)).alloc (.cells #[.int .i64 1, .int .i64 a, .int .i64 b, .int .i64 n] 27)).alloc (.cells #[.int .i64 0, .slice none 0 0] 38)) := by go_grown
  have s1 : (((w.alloc (.cells #[.int .i64 m, .slice ao l.length cap] 38)).alloc (.cells #[.int .i64 1, .int .i64 a, .int .i64 b, .int .i64 n] 27)).alloc (.cells #[.int .i64 0, .slice none 0 0] 38)).heap.size = w.heap.size + 3 := by simp
  generalize (((w.alloc (.cells #[.int .i64 m, .slice ao l.length cap] 38)).alloc (.cells #[.int .i64 1, .int .i64 a, .int .i64 b, .int .i64 n] 27)).alloc (.cells #[.int .i64 0, .slice none 0 0] 38)) = w1 at x0_1 x1_1 xl_1 o0_1 o1_1 o2_1 o3_1 ol_1 r0_1 rf0_1 r1_1 rf1_1 rl_1 c1 s1 ⊢
  have qx0_1 := cell_regrown x0_1
  have qx1_1 := cell_regrown x1_1
  have qo0_1 := cell_regrown o0_1
  have qo1_1 := cell_regrown o1_1
  have qo2_1 := cell_regrown o2_1
  have qo3_1 := cell_regrown o3_1
  have qr0_1 := cell_regrown r0_1
  have qr1_1 := cell_regrown r1_1
  refine (HS _).mono ?_
  rintro e w2 ⟨rfl, b2⟩
  have d2 : Below w1.heap.size w1 w2 := (Below.trans (by go_grown) (b2.mono (by first | omega | (simp; done) | (simp; omega))))
  have c2 : Below w.heap.size w w2 := c1.trans (d2.mono c1.size)
  have x0_2 : w2.cell? ⟨w.heap.size, 0, none⟩ = some (.int .i64 m) := (by rw [b2.cell (by first | omega | (simp; done) | (simp; omega))]; go_cell)
  have x1_2 : w2.cell? ⟨w.heap.size, 1, none⟩ = some (.slice ao l.length cap) := (by rw [b2.cell (by first | omega | (simp; done) | (simp; omega))]; go_cell)
  have xl_2 : w.heap.size < w2.heap.size := (by have := b2.size; first | omega | (revert this; simp; done) | (revert this; simp; omega))
  have o0_2 : w2.cell? ⟨w.heap.size + 1, 0, none⟩ = some (.int .i64 1) := (by rw [b2.cell (by first | omega | (simp; done) | (simp; omega))]; go_cell)
  have o1_2 : w2.cell? ⟨w.heap.size + 1, 1, none⟩ = some (.int .i64 a) := (by rw [b2.cell (by first | omega | (simp; done) | (simp; omega))]; go_cell)
  have o2_2 : w2.cell? ⟨w.heap.size + 1, 2, none⟩ = some (.int .i64 b) := (by rw [b2.cell (by first | omega | (simp; done) | (simp; omega))]; go_cell)
  have o3_2 : w2.cell? ⟨w.heap.size + 1, 3, none⟩ = some (.int .i64 n) := (by rw [b2.cell (by first | omega | (simp; done) | (simp; omega))]; go_cell)
  have ol_2 : w.heap.size + 1 < w2.heap.size := (by have := b2.size; first | omega | (revert this; simp; done) | (revert this; simp; omega))
  have r0_2 : w2.cell? ⟨w.heap.size + 1 + 1, 0, none⟩ = some (.int .i64 0) := (by rw [b2.cell (by first | omega | (simp; done) | (simp; omega))]; go_cell)
  have rf0_2 : w2.frozen? ⟨w.heap.size + 1 + 1, 0, none⟩ = false := (by rw [b2.frozen (by first | omega | (simp; done) | (simp; omega))]; (first | go_cell | (simp [World.frozen?, World.alloc]; done) | rfl))
  have r1_2 : w2.cell? ⟨w.heap.size + 1 + 1, 1, none⟩ = some (.slice none 0 0) := (by rw [b2.cell (by first | omega | (simp; done) | (simp; omega))]; go_cell)
  have rf1_2 : w2.frozen? ⟨w.heap.size + 1 + 1, 1, none⟩ = false := (by rw [b2.frozen (by first | omega | (simp; done) | (simp; omega))]; (first | go_cell | (simp [World.frozen?, World.alloc]; done) | rfl))
  have rl_2 : w.heap.size + 1 + 1 < w2.heap.size := (by have := b2.size; first | omega | (revert this; simp; done) | (revert this; simp; omega))
  clear x0_1 x1_1 xl_1 o0_1 o1_1 o2_1 o3_1 ol_1 r0_1 rf0_1 r1_1 rf1_1 rl_1
  clear b2 d2
  go_wp2_with fail
  have e0 : ((w2.setCell ⟨w.heap.size + 1 + 1, 0, none⟩ (.int .i64 (0))).setCell ⟨w.heap.size + 1 + 1, 1, none⟩ (.slice none 0 0)).cell? ⟨w.heap.size + 1 + 1, 0, none⟩ = some (.int .i64 (0)) := by go_cell
  have e1 : ((w2.setCell ⟨w.heap.size + 1 + 1, 0, none⟩ (.int .i64 (0))).setCell ⟨w.heap.size + 1 + 1, 1, none⟩ (.slice none 0 0)).cell? ⟨w.heap.size + 1 + 1, 1, none⟩ = some (.slice none 0 0) := by go_cell
  refine bodyPost_ret (v := .agg #[.int .i64 (0), .slice none 0 0]) (by simp [results, Tryz.results42, go_sem, e0, e1]) rfl ⟨valA_nil _ _ _, (c2.setCell (p := ⟨w.heap.size + 1 + 1, 0, none⟩) (by show w.heap.size ≤ w.heap.size + 1 + 1; omega) _).setCell (p := ⟨w.heap.size + 1 + 1, 1, none⟩) (by show w.heap.size ≤ w.heap.size + 1 + 1; omega) _⟩

set_option maxRecDepth 100000 in
set_option maxHeartbeats 1000000 in
theorem specBack_bind (k a b n m : Int) (v : Value) (l : List (Int × Int)) (w : World) (h : Rd w v l) (hll : l.length ≤ 1099511627776) (hs : bindOk k a b n) (HOK : opOk k a b n = true) :
    Calls Tryz.prog 42 #[.agg #[.int .i64 m, v], .agg #[.int .i64 k, .int .i64 a, .int .i64 b, .int .i64 n]] w fun e w' => ValA w.heap.size w' e (0) (addL l a n) ∧ Below w.heap.size w w' := by
  have HS := fun w => specOpOk_any k a b n w
  rw [HOK] at HS
  clear HOK
  have HR := hid h
  obtain ⟨ao, cap, hv, _⟩ := h
  subst hv
  have HC := hid (show (∀ (v : Value) (w : World), Rd w v l → Calls Tryz.prog 102 #[.agg #[.int .i64 m, v], .agg #[.int .i64 k, .int .i64 a, .int .i64 b, .int .i64 n], .int .i64 a] w fun e w' => ValA w.heap.size w' e 0 (addL l a n) ∧ Below w.heap.size w w') from fun v w hr => by
    have := specKin_any k a b n m a v l w hr hll (Or.inl rfl) (Or.inl hs)
    rwa [if_pos hs] at this)
  obtain ⟨rfl, -⟩ := hs
  obtain ⟨q, hq⟩ : ∃ q, addL l a n = q := ⟨_, rfl⟩
  have HQ := hid hq
  rw [hq] at HC
  clear hq
  go_enter Tryz.func42, Tryz.ntmps42
  go_wp2_with fail
  have x0_1 : (((w.alloc (.cells #[.int .i64 m, .slice ao l.length cap] 38)).alloc (.cells #[.int .i64 2, .int .i64 a, .int .i64 b, .int .i64 n] 27)).alloc (.cells #[.int .i64 0, .slice none 0 0] 38)).cell? ⟨w.heap.size, 0, none⟩ = some (.int .i64 m) := by go_cell
  have x1_1 : (((w.alloc (.cells #[.int .i64 m, .slice ao l.length cap] 38)).alloc (.cells #[.int .i64 2, .int .i64 a, .int .i64 b, .int .i64 n] 27)).alloc (.cells #[.int .i64 0, .slice none 0 0] 38)).cell? ⟨w.heap.size, 1, none⟩ = some (.slice ao l.length cap) := by go_cell
  have xl_1 : w.heap.size < (((w.alloc (.cells #[.int .i64 m, .slice ao l.length cap] 38)).alloc (.cells #[.int .i64 2, .int .i64 a, .int .i64 b, .int .i64 n] 27)).alloc (.cells #[.int .i64 0, .slice none 0 0] 38)).heap.size := by first | (simp; done) | (simp; omega)
  have o0_1 : (((w.alloc (.cells #[.int .i64 m, .slice ao l.length cap] 38)).alloc (.cells #[.int .i64 2, .int .i64 a, .int .i64 b, .int .i64 n] 27)).alloc (.cells #[.int .i64 0, .slice none 0 0] 38)).cell? ⟨w.heap.size + 1, 0, none⟩ = some (.int .i64 2) := by go_cell
  have o1_1 : (((w.alloc (.cells #[.int .i64 m, .slice ao l.length cap] 38)).alloc (.cells #[.int .i64 2, .int .i64 a, .int .i64 b, .int .i64 n] 27)).alloc (.cells #[.int .i64 0, .slice none 0 0] 38)).cell? ⟨w.heap.size + 1, 1, none⟩ = some (.int .i64 a) := by go_cell
  have o2_1 : (((w.alloc (.cells #[.int .i64 m, .slice ao l.length cap] 38)).alloc (.cells #[.int .i64 2, .int .i64 a, .int .i64 b, .int .i64 n] 27)).alloc (.cells #[.int .i64 0, .slice none 0 0] 38)).cell? ⟨w.heap.size + 1, 2, none⟩ = some (.int .i64 b) := by go_cell
  have o3_1 : (((w.alloc (.cells #[.int .i64 m, .slice ao l.length cap] 38)).alloc (.cells #[.int .i64 2, .int .i64 a, .int .i64 b, .int .i64 n] 27)).alloc (.cells #[.int .i64 0, .slice none 0 0] 38)).cell? ⟨w.heap.size + 1, 3, none⟩ = some (.int .i64 n) := by go_cell
  have ol_1 : w.heap.size + 1 < (((w.alloc (.cells #[.int .i64 m, .slice ao l.length cap] 38)).alloc (.cells #[.int .i64 2, .int .i64 a, .int .i64 b, .int .i64 n] 27)).alloc (.cells #[.int .i64 0, .slice none 0 0] 38)).heap.size := by first | (simp; done) | (simp; omega)
  have r0_1 : (((w.alloc (.cells #[.int .i64 m, .slice ao l.length cap] 38)).alloc (.cells #[.int .i64 2, .int .i64 a, .int .i64 b, .int .i64 n] 27)).alloc (.cells #[.int .i64 0, .slice none 0 0] 38)).cell? ⟨w.heap.size + 1 + 1, 0, none⟩ = some (.int .i64 0) := by go_cell
  have rf0_1 : (((w.alloc (.cells #[.int .i64 m, .slice ao l.length cap] 38)).alloc (.cells #[.int .i64 2, .int .i64 a, .int .i64 b, .int .i64 n] 27)).alloc (.cells #[.int .i64 0, .slice none 0 0] 38)).frozen? ⟨w.heap.size + 1 + 1, 0, none⟩ = false := by (first | go_cell | (simp [World.frozen?, World.alloc]; done) | rfl)
  have r1_1 : (((w.alloc (.cells #[.int .i64 m, .slice ao l.length cap] 38)).alloc (.cells #[.int .i64 2, .int .i64 a, .int .i64 b, .int .i64 n] 27)).alloc (.cells #[.int .i64 0, .slice none 0 0] 38)).cell? ⟨w.heap.size + 1 + 1, 1, none⟩ = some (.slice none 0 0) := by go_cell
  have rf1_1 : (((w.alloc (.cells #[.int .i64 m, .slice ao l.length cap] 38)).alloc (.cells #[.int .i64 2, .int .i64 a, .int .i64 b, .int .i64 n] 27)).alloc (.cells #[.int .i64 0, .slice none 0 0] 38)).frozen? ⟨w.heap.size + 1 + 1, 1, none⟩ = false := by (first | go_cell | (simp [World.frozen?, World.alloc]; done) | rfl)
  have rl_1 : w.heap.size + 1 + 1 < (((w.alloc (.cells #[.int .i64 m, .slice ao l.length cap] 38)).alloc (.cells #[.int .i64 2, .int .i64 a, .int .i64 b, .int .i64 n] 27)).alloc (.cells #[.int .i64 0, .slice none 0 0] 38)).heap.size := by first | (simp; done) | (simp; omega)
  have c1 : Below w.heap.size w (((w.alloc (.cells #[.int .i64 m, .slice ao l.length cap] 38)).alloc (.cells #[.int .i64 2, .int .i64 a, .int .i64 b, .int .i64 n] 27)).alloc (.cells #[.int .i64 0, .slice none 0 0] 38)) := by go_grown
  have s1 : (((w.alloc (.cells #[.int .i64 m, .slice ao l.length cap] 38)).alloc (.cells #[.int .i64 2, .int .i64 a, .int .i64 b, .int .i64 n] 27)).alloc (.cells #[.int .i64 0, .slice none 0 0] 38)).heap.size = w.heap.size + 3 := by simp
  generalize (((w.alloc (.cells #[.int .i64 m, .slice ao l.length cap] 38)).alloc (.cells #[.int .i64 2, .int .i64 a, .int .i64 b, .int .i64 n] 27)).alloc (.cells #[.int .i64 0, .slice none 0 0] 38)) = w1 at x0_1 x1_1 xl_1 o0_1 o1_1 o2_1 o3_1 ol_1 r0_1 rf0_1 r1_1 rf1_1 rl_1 c1 s1 ⊢
  have qx0_1 := cell_regrown x0_1
  have qx1_1 := cell_regrown x1_1
  have qo0_1 := cell_regrown o0_1
  have qo1_1 := cell_regrown o1_1
  have qo2_1 := cell_regrown o2_1
  have qo3_1 := cell_regrown o3_1
  have qr0_1 := cell_regrown r0_1
  have qr1_1 := cell_regrown r1_1
  refine (HS _).mono ?_
  rintro e w2 ⟨rfl, b2⟩
  have d2 : Below w1.heap.size w1 w2 := (Below.trans (by go_grown) (b2.mono (by first | omega | (simp; done) | (simp; omega))))
  have c2 : Below w.heap.size w w2 := c1.trans (d2.mono c1.size)
  have x0_2 : w2.cell? ⟨w.heap.size, 0, none⟩ = some (.int .i64 m) := (by rw [b2.cell (by first | omega | (simp; done) | (simp; omega))]; go_cell)
  have x1_2 : w2.cell? ⟨w.heap.size, 1, none⟩ = some (.slice ao l.length cap) := (by rw [b2.cell (by first | omega | (simp; done) | (simp; omega))]; go_cell)
  have xl_2 : w.heap.size < w2.heap.size := (by have := b2.size; first | omega | (revert this; simp; done) | (revert this; simp; omega))
  have o0_2 : w2.cell? ⟨w.heap.size + 1, 0, none⟩ = some (.int .i64 2) := (by rw [b2.cell (by first | omega | (simp; done) | (simp; omega))]; go_cell)
  have o1_2 : w2.cell? ⟨w.heap.size + 1, 1, none⟩ = some (.int .i64 a) := (by rw [b2.cell (by first | omega | (simp; done) | (simp; omega))]; go_cell)
  have o2_2 : w2.cell? ⟨w.heap.size + 1, 2, none⟩ = some (.int .i64 b) := (by rw [b2.cell (by first | omega | (simp; done) | (simp; omega))]; go_cell)
  have o3_2 : w2.cell? ⟨w.heap.size + 1, 3, none⟩ = some (.int .i64 n) := (by rw [b2.cell (by first | omega | (simp; done) | (simp; omega))]; go_cell)
  have ol_2 : w.heap.size + 1 < w2.heap.size := (by have := b2.size; first | omega | (revert this; simp; done) | (revert this; simp; omega))
  have r0_2 : w2.cell? ⟨w.heap.size + 1 + 1, 0, none⟩ = some (.int .i64 0) := (by rw [b2.cell (by first | omega | (simp; done) | (simp; omega))]; go_cell)
  have rf0_2 : w2.frozen? ⟨w.heap.size + 1 + 1, 0, none⟩ = false := (by rw [b2.frozen (by first | omega | (simp; done) | (simp; omega))]; (first | go_cell | (simp [World.frozen?, World.alloc]; done) | rfl))
  have r1_2 : w2.cell? ⟨w.heap.size + 1 + 1, 1, none⟩ = some (.slice none 0 0) := (by rw [b2.cell (by first | omega | (simp; done) | (simp; omega))]; go_cell)
  have rf1_2 : w2.frozen? ⟨w.heap.size + 1 + 1, 1, none⟩ = false := (by rw [b2.frozen (by first | omega | (simp; done) | (simp; omega))]; (first | go_cell | (simp [World.frozen?, World.alloc]; done) | rfl))
  have rl_2 : w.heap.size + 1 + 1 < w2.heap.size := (by have := b2.size; first | omega | (revert this; simp; done) | (revert this; simp; omega))
  clear x0_1 x1_1 xl_1 o0_1 o1_1 o2_1 o3_1 ol_1 r0_1 rf0_1 r1_1 rf1_1 rl_1
  clear b2 d2
  go_wp2_with fail
  refine (HC.out _ _ (HR.out.later c2)).mono ?_
  rintro e w3 ⟨⟨v', rfl, ho⟩, b3⟩
  have HO := hid ho
  clear ho
  have hz2 : w.heap.size + 1 + 1 < w2.heap.size := rl_2
  have d3 : Below w2.heap.size w2 w3 := (Below.trans (by go_grown) (b3.mono (by first | omega | (simp; done) | (simp; omega))))
  have c3 : Below w.heap.size w w3 := c2.trans (d3.mono c2.size)
  have r0_3 : w3.cell? ⟨w.heap.size + 1 + 1, 0, none⟩ = some (.int .i64 0) := (by rw [b3.cell (by first | omega | (simp; done) | (simp; omega))]; go_cell)
  have rf0_3 : w3.frozen? ⟨w.heap.size + 1 + 1, 0, none⟩ = false := (by rw [b3.frozen (by first | omega | (simp; done) | (simp; omega))]; (first | go_cell | (simp [World.frozen?, World.alloc]; done) | rfl))
  have r1_3 : w3.cell? ⟨w.heap.size + 1 + 1, 1, none⟩ = some (.slice none 0 0) := (by rw [b3.cell (by first | omega | (simp; done) | (simp; omega))]; go_cell)
  have rf1_3 : w3.frozen? ⟨w.heap.size + 1 + 1, 1, none⟩ = false := (by rw [b3.frozen (by first | omega | (simp; done) | (simp; omega))]; (first | go_cell | (simp [World.frozen?, World.alloc]; done) | rfl))
  have rl_3 : w.heap.size + 1 + 1 < w3.heap.size := (by have := b3.size; first | omega | (revert this; simp; done) | (revert this; simp; omega))
  clear r0_2 rf0_2 r1_2 rf1_2 rl_2
  clear b3 d3
  obtain ⟨uo, uc, huv, _⟩ := HO.out.rd
  subst huv
  go_wp2
  have e0 : ((w3.setCell ⟨w.heap.size + 1 + 1, 0, none⟩ (.int .i64 (0))).setCell ⟨w.heap.size + 1 + 1, 1, none⟩ (.slice uo q.length uc)).cell? ⟨w.heap.size + 1 + 1, 0, none⟩ = some (.int .i64 (0)) := by go_cell
  have e1 : ((w3.setCell ⟨w.heap.size + 1 + 1, 0, none⟩ (.int .i64 (0))).setCell ⟨w.heap.size + 1 + 1, 1, none⟩ (.slice uo q.length uc)).cell? ⟨w.heap.size + 1 + 1, 1, none⟩ = some (.slice uo q.length uc) := by go_cell
  have HF := hid (((HO.out.setApart (p := ⟨w.heap.size + 1 + 1, 0, none⟩) (by show w.heap.size + 1 + 1 < _; omega) (.int .i64 (0))).setApart (p := ⟨w.heap.size + 1 + 1, 1, none⟩) (by show w.heap.size + 1 + 1 < _; omega) (.slice uo q.length uc)).mono (B' := w.heap.size) (by omega))
  refine bodyPost_ret (v := .agg #[.int .i64 (0), .slice uo q.length uc]) (by simp [results, Tryz.results42, go_sem, e0, e1]) rfl ⟨⟨_, rfl, by rw [HQ.out]; exact HF.out⟩, (c3.setCell (p := ⟨w.heap.size + 1 + 1, 0, none⟩) (by show w.heap.size ≤ w.heap.size + 1 + 1; omega) _).setCell (p := ⟨w.heap.size + 1 + 1, 1, none⟩) (by show w.heap.size ≤ w.heap.size + 1 + 1; omega) _⟩

set_option maxRecDepth 100000 in
set_option maxHeartbeats 1000000 in
theorem specBack_part (k a b n m : Int) (v : Value) (l : List (Int × Int)) (w : World) (h : Rd w v l) (hll : l.length ≤ 1099511627776) (hs : partOk k a b n) (HOK : opOk k a b n = true) :
    Calls Tryz.prog 42 #[.agg #[.int .i64 m, v], .agg #[.int .i64 k, .int .i64 a, .int .i64 b, .int .i64 n]] w fun e w' => ValA w.heap.size w' e (0) (dropL l a) ∧ Below w.heap.size w w' := by
  have HS := fun w => specOpOk_any k a b n w
  rw [HOK] at HS
  clear HOK
  have HR := hid h
  obtain ⟨ao, cap, hv, _⟩ := h
  subst hv
  have HC := hid (show (∀ (v : Value) (w : World), Rd w v l → Calls Tryz.prog 102 #[.agg #[.int .i64 m, v], .agg #[.int .i64 k, .int .i64 a, .int .i64 b, .int .i64 n], .int .i64 a] w fun e w' => ValA w.heap.size w' e 0 (dropL l a) ∧ Below w.heap.size w w') from fun v w hr => by
    have := specKin_any k a b n m a v l w hr hll (Or.inl rfl) (Or.inr hs)
    rwa [if_neg (fun h2 => by have := hs.1; have := h2.1; omega)] at this)
  obtain ⟨rfl, -⟩ := hs
  obtain ⟨q, hq⟩ : ∃ q, dropL l a = q := ⟨_, rfl⟩
  have HQ := hid hq
  rw [hq] at HC
  clear hq
  go_enter Tryz.func42, Tryz.ntmps42
  go_wp2_with fail
  have x0_1 : (((w.alloc (.cells #[.int .i64 m, .slice ao l.length cap] 38)).alloc (.cells #[.int .i64 3, .int .i64 a, .int .i64 b, .int .i64 n] 27)).alloc (.cells #[.int .i64 0, .slice none 0 0] 38)).cell? ⟨w.heap.size, 0, none⟩ = some (.int .i64 m) := by go_cell
  have x1_1 : (((w.alloc (.cells #[.int .i64 m, .slice ao l.length cap] 38)).alloc (.cells #[.int .i64 3, .int .i64 a, .int .i64 b, .int .i64 n] 27)).alloc (.cells #[.int .i64 0, .slice none 0 0] 38)).cell? ⟨w.heap.size, 1, none⟩ = some (.slice ao l.length cap) := by go_cell
  have xl_1 : w.heap.size < (((w.alloc (.cells #[.int .i64 m, .slice ao l.length cap] 38)).alloc (.cells #[.int .i64 3, .int .i64 a, .int .i64 b, .int .i64 n] 27)).alloc (.cells #[.int .i64 0, .slice none 0 0] 38)).heap.size := by first | (simp; done) | (simp; omega)
  have o0_1 : (((w.alloc (.cells #[.int .i64 m, .slice ao l.length cap] 38)).alloc (.cells #[.int .i64 3, .int .i64 a, .int .i64 b, .int .i64 n] 27)).alloc (.cells #[.int .i64 0, .slice none 0 0] 38)).cell? ⟨w.heap.size + 1, 0, none⟩ = some (.int .i64 3) := by go_cell
  have o1_1 : (((w.alloc (.cells #[.int .i64 m, .slice ao l.length cap] 38)).alloc (.cells #[.int .i64 3, .int .i64 a, .int .i64 b, .int .i64 n] 27)).alloc (.cells #[.int .i64 0, .slice none 0 0] 38)).cell? ⟨w.heap.size + 1, 1, none⟩ = some (.int .i64 a) := by go_cell
  have o2_1 : (((w.alloc (.cells #[.int .i64 m, .slice ao l.length cap] 38)).alloc (.cells #[.int .i64 3, .int .i64 a, .int .i64 b, .int .i64 n] 27)).alloc (.cells #[.int .i64 0, .slice none 0 0] 38)).cell? ⟨w.heap.size + 1, 2, none⟩ = some (.int .i64 b) := by go_cell
  have o3_1 : (((w.alloc (.cells #[.int .i64 m, .slice ao l.length cap] 38)).alloc (.cells #[.int .i64 3, .int .i64 a, .int .i64 b, .int .i64 n] 27)).alloc (.cells #[.int .i64 0, .slice none 0 0] 38)).cell? ⟨w.heap.size + 1, 3, none⟩ = some (.int .i64 n) := by go_cell
  have ol_1 : w.heap.size + 1 < (((w.alloc (.cells #[.int .i64 m, .slice ao l.length cap] 38)).alloc (.cells #[.int .i64 3, .int .i64 a, .int .i64 b, .int .i64 n] 27)).alloc (.cells #[.int .i64 0, .slice none 0 0] 38)).heap.size := by first | (simp; done) | (simp; omega)
  have r0_1 : (((w.alloc (.cells #[.int .i64 m, .slice ao l.length cap] 38)).alloc (.cells #[.int .i64 3, .int .i64 a, .int .i64 b, .int .i64 n] 27)).alloc (.cells #[.int .i64 0, .slice none 0 0] 38)).cell? ⟨w.heap.size + 1 + 1, 0, none⟩ = some (.int .i64 0) := by go_cell
  have rf0_1 : (((w.alloc (.cells #[.int .i64 m, .slice ao l.length cap] 38)).alloc (.cells #[.int .i64 3, .int .i64 a, .int .i64 b, .int .i64 n] 27)).alloc (.cells #[.int .i64 0, .slice none 0 0] 38)).frozen? ⟨w.heap.size + 1 + 1, 0, none⟩ = false := by (first | go_cell | (simp [World.frozen?, World.alloc]; done) | rfl)
  have r1_1 : (((w.alloc (.cells #[.int .i64 m, .slice ao l.length cap] 38)).alloc (.cells #[.int .i64 3, .int .i64 a, .int .i64 b, .int .i64 n] 27)).alloc (.cells #[.int .i64 0, .slice none 0 0] 38)).cell? ⟨w.heap.size + 1 + 1, 1, none⟩ = some (.slice none 0 0) := by go_cell
  have rf1_1 : (((w.alloc (.cells #[.int .i64 m, .slice ao l.length cap] 38)).alloc (.cells #[.int .i64 3, .int .i64 a, .int .i64 b, .int .i64 n] 27)).alloc (.cells #[.int .i64 0, .slice none 0 0] 38)).frozen? ⟨w.heap.size + 1 + 1, 1, none⟩ = false := by (first | go_cell | (simp [World.frozen?, World.alloc]; done) | rfl)
  have rl_1 : w.heap.size + 1 + 1 < (((w.alloc (.cells #[.int .i64 m, .slice ao l.length cap] 38)).alloc (.cells #[.int .i64 3, .int .i64 a, .int .i64 b, .int .i64 n] 27)).alloc (.cells #[.int .i64 0, .slice none 0 0] 38)).heap.size := by first | (simp; done) | (simp; omega)
  have c1 : Below w.heap.size w (((w.alloc (.cells #[.int .i64 m, .slice ao l.length cap] 38)).alloc (.cells #[.int .i64 3, .int .i64 a, .int .i64 b, .int .i64 n] 27)).alloc (.cells #[.int .i64 0, .slice none 0 0] 38)) := by go_grown
  have s1 : (((w.alloc (.cells #[.int .i64 m, .slice ao l.length cap] 38)).alloc (.cells #[.int .i64 3, .int .i64 a, .int .i64 b, .int .i64 n] 27)).alloc (.cells #[.int .i64 0, .slice none 0 0] 38)).heap.size = w.heap.size + 3 := by simp
  generalize (((w.alloc (.cells #[.int .i64 m, .slice ao l.length cap] 38)).alloc (.cells #[.int .i64 3, .int .i64 a, .int .i64 b, .int .i64 n] 27)).alloc (.cells #[.int .i64 0, .slice none 0 0] 38)) = w1 at x0_1 x1_1 xl_1 o0_1 o1_1 o2_1 o3_1 ol_1 r0_1 rf0_1 r1_1 rf1_1 rl_1 c1 s1 ⊢
  have qx0_1 := cell_regrown x0_1
  have qx1_1 := cell_regrown x1_1
  have qo0_1 := cell_regrown o0_1
  have qo1_1 := cell_regrown o1_1
  have qo2_1 := cell_regrown o2_1
  have qo3_1 := cell_regrown o3_1
  have qr0_1 := cell_regrown r0_1
  have qr1_1 := cell_regrown r1_1
  refine (HS _).mono ?_
  rintro e w2 ⟨rfl, b2⟩
  have d2 : Below w1.heap.size w1 w2 := (Below.trans (by go_grown) (b2.mono (by first | omega | (simp; done) | (simp; omega))))
  have c2 : Below w.heap.size w w2 := c1.trans (d2.mono c1.size)
  have x0_2 : w2.cell? ⟨w.heap.size, 0, none⟩ = some (.int .i64 m) := (by rw [b2.cell (by first | omega | (simp; done) | (simp; omega))]; go_cell)
  have x1_2 : w2.cell? ⟨w.heap.size, 1, none⟩ = some (.slice ao l.length cap) := (by rw [b2.cell (by first | omega | (simp; done) | (simp; omega))]; go_cell)
  have xl_2 : w.heap.size < w2.heap.size := (by have := b2.size; first | omega | (revert this; simp; done) | (revert this; simp; omega))
  have o0_2 : w2.cell? ⟨w.heap.size + 1, 0, none⟩ = some (.int .i64 3) := (by rw [b2.cell (by first | omega | (simp; done) | (simp; omega))]; go_cell)
  have o1_2 : w2.cell? ⟨w.heap.size + 1, 1, none⟩ = some (.int .i64 a) := (by rw [b2.cell (by first | omega | (simp; done) | (simp; omega))]; go_cell)
  have o2_2 : w2.cell? ⟨w.heap.size + 1, 2, none⟩ = some (.int .i64 b) := (by rw [b2.cell (by first | omega | (simp; done) | (simp; omega))]; go_cell)
  have o3_2 : w2.cell? ⟨w.heap.size + 1, 3, none⟩ = some (.int .i64 n) := (by rw [b2.cell (by first | omega | (simp; done) | (simp; omega))]; go_cell)
  have ol_2 : w.heap.size + 1 < w2.heap.size := (by have := b2.size; first | omega | (revert this; simp; done) | (revert this; simp; omega))
  have r0_2 : w2.cell? ⟨w.heap.size + 1 + 1, 0, none⟩ = some (.int .i64 0) := (by rw [b2.cell (by first | omega | (simp; done) | (simp; omega))]; go_cell)
  have rf0_2 : w2.frozen? ⟨w.heap.size + 1 + 1, 0, none⟩ = false := (by rw [b2.frozen (by first | omega | (simp; done) | (simp; omega))]; (first | go_cell | (simp [World.frozen?, World.alloc]; done) | rfl))
  have r1_2 : w2.cell? ⟨w.heap.size + 1 + 1, 1, none⟩ = some (.slice none 0 0) := (by rw [b2.cell (by first | omega | (simp; done) | (simp; omega))]; go_cell)
  have rf1_2 : w2.frozen? ⟨w.heap.size + 1 + 1, 1, none⟩ = false := (by rw [b2.frozen (by first | omega | (simp; done) | (simp; omega))]; (first | go_cell | (simp [World.frozen?, World.alloc]; done) | rfl))
  have rl_2 : w.heap.size + 1 + 1 < w2.heap.size := (by have := b2.size; first | omega | (revert this; simp; done) | (revert this; simp; omega))
  clear x0_1 x1_1 xl_1 o0_1 o1_1 o2_1 o3_1 ol_1 r0_1 rf0_1 r1_1 rf1_1 rl_1
  clear b2 d2
  go_wp2_with fail
  refine (HC.out _ _ (HR.out.later c2)).mono ?_
  rintro e w3 ⟨⟨v', rfl, ho⟩, b3⟩
  have HO := hid ho
  clear ho
  have hz2 : w.heap.size + 1 + 1 < w2.heap.size := rl_2
  have d3 : Below w2.heap.size w2 w3 := (Below.trans (by go_grown) (b3.mono (by first | omega | (simp; done) | (simp; omega))))
  have c3 : Below w.heap.size w w3 := c2.trans (d3.mono c2.size)
  have r0_3 : w3.cell? ⟨w.heap.size + 1 + 1, 0, none⟩ = some (.int .i64 0) := (by rw [b3.cell (by first | omega | (simp; done) | (simp; omega))]; go_cell)
  have rf0_3 : w3.frozen? ⟨w.heap.size + 1 + 1, 0, none⟩ = false := (by rw [b3.frozen (by first | omega | (simp; done) | (simp; omega))]; (first | go_cell | (simp [World.frozen?, World.alloc]; done) | rfl))
  have r1_3 : w3.cell? ⟨w.heap.size + 1 + 1, 1, none⟩ = some (.slice none 0 0) := (by rw [b3.cell (by first | omega | (simp; done) | (simp; omega))]; go_cell)
  have rf1_3 : w3.frozen? ⟨w.heap.size + 1 + 1, 1, none⟩ = false := (by rw [b3.frozen (by first | omega | (simp; done) | (simp; omega))]; (first | go_cell | (simp [World.frozen?, World.alloc]; done) | rfl))
  have rl_3 : w.heap.size + 1 + 1 < w3.heap.size := (by have := b3.size; first | omega | (revert this; simp; done) | (revert this; simp; omega))
  clear r0_2 rf0_2 r1_2 rf1_2 rl_2
  clear b3 d3
  obtain ⟨uo, uc, huv, _⟩ := HO.out.rd
  subst huv
  go_wp2
  have e0 : ((w3.setCell ⟨w.heap.size + 1 + 1, 0, none⟩ (.int .i64 (0))).setCell ⟨w.heap.size + 1 + 1, 1, none⟩ (.slice uo q.length uc)).cell? ⟨w.heap.size + 1 + 1, 0, none⟩ = some (.int .i64 (0)) := by go_cell
  have e1 : ((w3.setCell ⟨w.heap.size + 1 + 1, 0, none⟩ (.int .i64 (0))).setCell ⟨w.heap.size + 1 + 1, 1, none⟩ (.slice uo q.length uc)).cell? ⟨w.heap.size + 1 + 1, 1, none⟩ = some (.slice uo q.length uc) := by go_cell
  have HF := hid (((HO.out.setApart (p := ⟨w.heap.size + 1 + 1, 0, none⟩) (by show w.heap.size + 1 + 1 < _; omega) (.int .i64 (0))).setApart (p := ⟨w.heap.size + 1 + 1, 1, none⟩) (by show w.heap.size + 1 + 1 < _; omega) (.slice uo q.length uc)).mono (B' := w.heap.size) (by omega))
  refine bodyPost_ret (v := .agg #[.int .i64 (0), .slice uo q.length uc]) (by simp [results, Tryz.results42, go_sem, e0, e1]) rfl ⟨⟨_, rfl, by rw [HQ.out]; exact HF.out⟩, (c3.setCell (p := ⟨w.heap.size + 1 + 1, 0, none⟩) (by show w.heap.size ≤ w.heap.size + 1 + 1; omega) _).setCell (p := ⟨w.heap.size + 1 + 1, 1, none⟩) (by show w.heap.size ≤ w.heap.size + 1 + 1; omega) _⟩

theorem specBack_any (k a b n m : Int) (v : Value) (l : List (Int × Int)) (w : World) (h : Rd w v l) (hll : l.length ≤ 1099511627776) :
    Calls Tryz.prog 42 #[.agg #[.int .i64 m, v], .agg #[.int .i64 k, .int .i64 a, .int .i64 b, .int .i64 n]] w fun e w' => ValA w.heap.size w' e 0 (backL k a b n l) ∧ Below w.heap.size w w' := by
  have ht : setOk k a b n → opOk k a b n = true := fun h => by simp [opOk, h]
  have hb : bindOk k a b n → opOk k a b n = true := fun h => by simp [opOk, h]
  have hp : partOk k a b n → opOk k a b n = true := fun h => by simp [opOk, h]
  rcases do_ways k a b n l with ⟨hs, -, -, e2⟩ | ⟨hs, -, -, e2⟩ | ⟨hs, -, -, e2⟩ | ⟨h1, h2, h3, -, -, e2⟩ <;> rw [e2]
  · exact specBack_set k a b n m v l w h hll hs (ht hs)
  · exact specBack_bind k a b n m v l w h hll hs (hb hs)
  · exact specBack_part k a b n m v l w h hll hs (hp hs)
  · exact specBack_no k a b n m v l w h hll (by simp [opOk, h1, h2, h3])

end Go.Proofs.YtkmhnjgncnoddaaGreat

/- Part: The law FnExactOpOther: its walk. -/
namespace Go.Proofs.YtkmhnjgncnoddaaGreat
open Go.RowKit
attribute [local go_sem ↓] Go.wp_at_zero Go.wp_at_succ

set_option maxHeartbeats 1000000 in
theorem specOther_any (k a b n : Int) (w : World) : Calls Tryz.prog 41 #[.agg #[.int .i64 k, .int .i64 a, .int .i64 b, .int .i64 n]] w fun e w' => e = .returned (.int .i64 (opOther k a b n)) ∧ Below w.heap.size w w' := by
  have HS := fun w => specOpOk_any k a b n w
  rcases op_ways k a b n with ⟨h, e0, -, e⟩ | ⟨h, e0, -, e⟩ | ⟨h, e0, -, e⟩ | ⟨-, -, -, e0, -, e⟩
  · rw [e]; clear e
    rw [e0] at HS; clear e0
    obtain ⟨rfl, -⟩ := h
    go_enter Tryz.func41, Tryz.ntmps41
    go_wp2_with fail
    have a0_1 : (w.alloc (.cells #[.int .i64 1, .int .i64 a, .int .i64 b, .int .i64 n] 27)).cell? ⟨w.heap.size, 0, none⟩ = some (.int .i64 1) := by go_cell
    have a1_1 : (w.alloc (.cells #[.int .i64 1, .int .i64 a, .int .i64 b, .int .i64 n] 27)).cell? ⟨w.heap.size, 1, none⟩ = some (.int .i64 a) := by go_cell
    have a2_1 : (w.alloc (.cells #[.int .i64 1, .int .i64 a, .int .i64 b, .int .i64 n] 27)).cell? ⟨w.heap.size, 2, none⟩ = some (.int .i64 b) := by go_cell
    have a3_1 : (w.alloc (.cells #[.int .i64 1, .int .i64 a, .int .i64 b, .int .i64 n] 27)).cell? ⟨w.heap.size, 3, none⟩ = some (.int .i64 n) := by go_cell
    have al_1 : w.heap.size < (w.alloc (.cells #[.int .i64 1, .int .i64 a, .int .i64 b, .int .i64 n] 27)).heap.size := by first | (simp; done) | (simp; omega)
    have c1 : Below w.heap.size w (w.alloc (.cells #[.int .i64 1, .int .i64 a, .int .i64 b, .int .i64 n] 27)) := by go_grown
    have s1 : (w.alloc (.cells #[.int .i64 1, .int .i64 a, .int .i64 b, .int .i64 n] 27)).heap.size = w.heap.size + 1 := by simp
    generalize (w.alloc (.cells #[.int .i64 1, .int .i64 a, .int .i64 b, .int .i64 n] 27)) = w1 at a0_1 a1_1 a2_1 a3_1 al_1 c1 s1 ⊢
    have qa0_1 := cell_regrown a0_1
    have qa1_1 := cell_regrown a1_1
    have qa2_1 := cell_regrown a2_1
    have qa3_1 := cell_regrown a3_1
    refine (HS _).mono ?_
    rintro e w2 ⟨rfl, b2⟩
    have d2 : Below w1.heap.size w1 w2 := (Below.trans (by go_grown) (b2.mono (by first | omega | (simp; done) | (simp; omega))))
    have c2 : Below w.heap.size w w2 := c1.trans (d2.mono c1.size)
    have a0_2 : w2.cell? ⟨w.heap.size, 0, none⟩ = some (.int .i64 1) := (by rw [b2.cell (by first | omega | (simp; done) | (simp; omega))]; go_cell)
    have a1_2 : w2.cell? ⟨w.heap.size, 1, none⟩ = some (.int .i64 a) := (by rw [b2.cell (by first | omega | (simp; done) | (simp; omega))]; go_cell)
    have a2_2 : w2.cell? ⟨w.heap.size, 2, none⟩ = some (.int .i64 b) := (by rw [b2.cell (by first | omega | (simp; done) | (simp; omega))]; go_cell)
    have a3_2 : w2.cell? ⟨w.heap.size, 3, none⟩ = some (.int .i64 n) := (by rw [b2.cell (by first | omega | (simp; done) | (simp; omega))]; go_cell)
    have al_2 : w.heap.size < w2.heap.size := (by have := b2.size; first | omega | (revert this; simp; done) | (revert this; simp; omega))
    clear a0_1 a1_1 a2_1 a3_1 al_1
    clear b2 d2 HS
    go_wp2_with fail
    go_ret
    exact ⟨by simp, by go_grown⟩
  · rw [e]; clear e
    rw [e0] at HS; clear e0
    have hk : keyOf 1 b = 8 + b := by rw [keyOf_in (by omega) (by omega) h.2.2.1.1 h.2.2.1.2]; omega
    obtain ⟨rfl, -⟩ := h
    go_enter Tryz.func41, Tryz.ntmps41
    go_wp2_with fail
    have a0_1 : (w.alloc (.cells #[.int .i64 2, .int .i64 a, .int .i64 b, .int .i64 n] 27)).cell? ⟨w.heap.size, 0, none⟩ = some (.int .i64 2) := by go_cell
    have a1_1 : (w.alloc (.cells #[.int .i64 2, .int .i64 a, .int .i64 b, .int .i64 n] 27)).cell? ⟨w.heap.size, 1, none⟩ = some (.int .i64 a) := by go_cell
    have a2_1 : (w.alloc (.cells #[.int .i64 2, .int .i64 a, .int .i64 b, .int .i64 n] 27)).cell? ⟨w.heap.size, 2, none⟩ = some (.int .i64 b) := by go_cell
    have a3_1 : (w.alloc (.cells #[.int .i64 2, .int .i64 a, .int .i64 b, .int .i64 n] 27)).cell? ⟨w.heap.size, 3, none⟩ = some (.int .i64 n) := by go_cell
    have al_1 : w.heap.size < (w.alloc (.cells #[.int .i64 2, .int .i64 a, .int .i64 b, .int .i64 n] 27)).heap.size := by first | (simp; done) | (simp; omega)
    have c1 : Below w.heap.size w (w.alloc (.cells #[.int .i64 2, .int .i64 a, .int .i64 b, .int .i64 n] 27)) := by go_grown
    have s1 : (w.alloc (.cells #[.int .i64 2, .int .i64 a, .int .i64 b, .int .i64 n] 27)).heap.size = w.heap.size + 1 := by simp
    generalize (w.alloc (.cells #[.int .i64 2, .int .i64 a, .int .i64 b, .int .i64 n] 27)) = w1 at a0_1 a1_1 a2_1 a3_1 al_1 c1 s1 ⊢
    have qa0_1 := cell_regrown a0_1
    have qa1_1 := cell_regrown a1_1
    have qa2_1 := cell_regrown a2_1
    have qa3_1 := cell_regrown a3_1
    refine (HS _).mono ?_
    rintro e w2 ⟨rfl, b2⟩
    have d2 : Below w1.heap.size w1 w2 := (Below.trans (by go_grown) (b2.mono (by first | omega | (simp; done) | (simp; omega))))
    have c2 : Below w.heap.size w w2 := c1.trans (d2.mono c1.size)
    have a0_2 : w2.cell? ⟨w.heap.size, 0, none⟩ = some (.int .i64 2) := (by rw [b2.cell (by first | omega | (simp; done) | (simp; omega))]; go_cell)
    have a1_2 : w2.cell? ⟨w.heap.size, 1, none⟩ = some (.int .i64 a) := (by rw [b2.cell (by first | omega | (simp; done) | (simp; omega))]; go_cell)
    have a2_2 : w2.cell? ⟨w.heap.size, 2, none⟩ = some (.int .i64 b) := (by rw [b2.cell (by first | omega | (simp; done) | (simp; omega))]; go_cell)
    have a3_2 : w2.cell? ⟨w.heap.size, 3, none⟩ = some (.int .i64 n) := (by rw [b2.cell (by first | omega | (simp; done) | (simp; omega))]; go_cell)
    have al_2 : w.heap.size < w2.heap.size := (by have := b2.size; first | omega | (revert this; simp; done) | (revert this; simp; omega))
    clear a0_1 a1_1 a2_1 a3_1 al_1
    clear b2 d2 HS
    go_wp2_with fail
    refine (specMake_any _ _ _).mono ?_
    rintro e w3 ⟨rfl, rfl⟩
    rw [hk]
    go_wp2
    go_ret
    exact ⟨by simp, by go_grown⟩
  · rw [e]; clear e
    rw [e0] at HS; clear e0
    have hk : keyOf 1 b = 8 + b := by rw [keyOf_in (by omega) (by omega) h.2.2.1.1 h.2.2.1.2]; omega
    obtain ⟨rfl, -⟩ := h
    go_enter Tryz.func41, Tryz.ntmps41
    go_wp2_with fail
    have a0_1 : (w.alloc (.cells #[.int .i64 3, .int .i64 a, .int .i64 b, .int .i64 n] 27)).cell? ⟨w.heap.size, 0, none⟩ = some (.int .i64 3) := by go_cell
    have a1_1 : (w.alloc (.cells #[.int .i64 3, .int .i64 a, .int .i64 b, .int .i64 n] 27)).cell? ⟨w.heap.size, 1, none⟩ = some (.int .i64 a) := by go_cell
    have a2_1 : (w.alloc (.cells #[.int .i64 3, .int .i64 a, .int .i64 b, .int .i64 n] 27)).cell? ⟨w.heap.size, 2, none⟩ = some (.int .i64 b) := by go_cell
    have a3_1 : (w.alloc (.cells #[.int .i64 3, .int .i64 a, .int .i64 b, .int .i64 n] 27)).cell? ⟨w.heap.size, 3, none⟩ = some (.int .i64 n) := by go_cell
    have al_1 : w.heap.size < (w.alloc (.cells #[.int .i64 3, .int .i64 a, .int .i64 b, .int .i64 n] 27)).heap.size := by first | (simp; done) | (simp; omega)
    have c1 : Below w.heap.size w (w.alloc (.cells #[.int .i64 3, .int .i64 a, .int .i64 b, .int .i64 n] 27)) := by go_grown
    have s1 : (w.alloc (.cells #[.int .i64 3, .int .i64 a, .int .i64 b, .int .i64 n] 27)).heap.size = w.heap.size + 1 := by simp
    generalize (w.alloc (.cells #[.int .i64 3, .int .i64 a, .int .i64 b, .int .i64 n] 27)) = w1 at a0_1 a1_1 a2_1 a3_1 al_1 c1 s1 ⊢
    have qa0_1 := cell_regrown a0_1
    have qa1_1 := cell_regrown a1_1
    have qa2_1 := cell_regrown a2_1
    have qa3_1 := cell_regrown a3_1
    refine (HS _).mono ?_
    rintro e w2 ⟨rfl, b2⟩
    have d2 : Below w1.heap.size w1 w2 := (Below.trans (by go_grown) (b2.mono (by first | omega | (simp; done) | (simp; omega))))
    have c2 : Below w.heap.size w w2 := c1.trans (d2.mono c1.size)
    have a0_2 : w2.cell? ⟨w.heap.size, 0, none⟩ = some (.int .i64 3) := (by rw [b2.cell (by first | omega | (simp; done) | (simp; omega))]; go_cell)
    have a1_2 : w2.cell? ⟨w.heap.size, 1, none⟩ = some (.int .i64 a) := (by rw [b2.cell (by first | omega | (simp; done) | (simp; omega))]; go_cell)
    have a2_2 : w2.cell? ⟨w.heap.size, 2, none⟩ = some (.int .i64 b) := (by rw [b2.cell (by first | omega | (simp; done) | (simp; omega))]; go_cell)
    have a3_2 : w2.cell? ⟨w.heap.size, 3, none⟩ = some (.int .i64 n) := (by rw [b2.cell (by first | omega | (simp; done) | (simp; omega))]; go_cell)
    have al_2 : w.heap.size < w2.heap.size := (by have := b2.size; first | omega | (revert this; simp; done) | (revert this; simp; omega))
    clear a0_1 a1_1 a2_1 a3_1 al_1
    clear b2 d2 HS
    go_wp2_with fail
    refine (specMake_any _ _ _).mono ?_
    rintro e w3 ⟨rfl, rfl⟩
    rw [hk]
    go_wp2
    go_ret
    exact ⟨by simp, by go_grown⟩
  · rw [e]; clear e
    rw [e0] at HS; clear e0
    go_enter Tryz.func41, Tryz.ntmps41
    go_wp2_with fail
    have a0_1 : (w.alloc (.cells #[.int .i64 k, .int .i64 a, .int .i64 b, .int .i64 n] 27)).cell? ⟨w.heap.size, 0, none⟩ = some (.int .i64 k) := by go_cell
    have a1_1 : (w.alloc (.cells #[.int .i64 k, .int .i64 a, .int .i64 b, .int .i64 n] 27)).cell? ⟨w.heap.size, 1, none⟩ = some (.int .i64 a) := by go_cell
    have a2_1 : (w.alloc (.cells #[.int .i64 k, .int .i64 a, .int .i64 b, .int .i64 n] 27)).cell? ⟨w.heap.size, 2, none⟩ = some (.int .i64 b) := by go_cell
    have a3_1 : (w.alloc (.cells #[.int .i64 k, .int .i64 a, .int .i64 b, .int .i64 n] 27)).cell? ⟨w.heap.size, 3, none⟩ = some (.int .i64 n) := by go_cell
    have al_1 : w.heap.size < (w.alloc (.cells #[.int .i64 k, .int .i64 a, .int .i64 b, .int .i64 n] 27)).heap.size := by first | (simp; done) | (simp; omega)
    have c1 : Below w.heap.size w (w.alloc (.cells #[.int .i64 k, .int .i64 a, .int .i64 b, .int .i64 n] 27)) := by go_grown
    have s1 : (w.alloc (.cells #[.int .i64 k, .int .i64 a, .int .i64 b, .int .i64 n] 27)).heap.size = w.heap.size + 1 := by simp
    generalize (w.alloc (.cells #[.int .i64 k, .int .i64 a, .int .i64 b, .int .i64 n] 27)) = w1 at a0_1 a1_1 a2_1 a3_1 al_1 c1 s1 ⊢
    have qa0_1 := cell_regrown a0_1
    have qa1_1 := cell_regrown a1_1
    have qa2_1 := cell_regrown a2_1
    have qa3_1 := cell_regrown a3_1
    refine (HS _).mono ?_
    rintro e w2 ⟨rfl, b2⟩
    have d2 : Below w1.heap.size w1 w2 := (Below.trans (by go_grown) (b2.mono (by first | omega | (simp; done) | (simp; omega))))
    have c2 : Below w.heap.size w w2 := c1.trans (d2.mono c1.size)
    have a0_2 : w2.cell? ⟨w.heap.size, 0, none⟩ = some (.int .i64 k) := (by rw [b2.cell (by first | omega | (simp; done) | (simp; omega))]; go_cell)
    have a1_2 : w2.cell? ⟨w.heap.size, 1, none⟩ = some (.int .i64 a) := (by rw [b2.cell (by first | omega | (simp; done) | (simp; omega))]; go_cell)
    have a2_2 : w2.cell? ⟨w.heap.size, 2, none⟩ = some (.int .i64 b) := (by rw [b2.cell (by first | omega | (simp; done) | (simp; omega))]; go_cell)
    have a3_2 : w2.cell? ⟨w.heap.size, 3, none⟩ = some (.int .i64 n) := (by rw [b2.cell (by first | omega | (simp; done) | (simp; omega))]; go_cell)
    have al_2 : w.heap.size < w2.heap.size := (by have := b2.size; first | omega | (revert this; simp; done) | (revert this; simp; omega))
    clear a0_1 a1_1 a2_1 a3_1 al_1
    clear b2 d2 HS
    go_wp2_with fail
    go_ret
    exact ⟨by simp, by go_grown⟩

end Go.Proofs.YtkmhnjgncnoddaaGreat
