/- Lists of Told in new memory: what it means that a slice owns one; the law's own to of such: contracts. Written by a program (gjb.py). -/
import Derived.Test.YtnnhpnhnddibjaaJa
import Derived.Test.YtnnhpnhnddibjaaGrA
import Derived.Deep.Cut
namespace Go.Proofs.Ytnnhpnhnddibjaa
open Go.RowKit
attribute [local go_sem ↓] Go.wp_at_zero Go.wp_at_succ

/-- The first k elements' cells are those of L; their kin lie in blocks of F, each in one of its own. -/
structure FilT (w : World) (F : Nat → Prop) (gb : Option Nat) (xs : List Value) (us : Nat → Value) (L : List KD) (k : Nat) : Prop where
  at_ : ∀ i, i < k → ∃ (a0 a1 a2 a3 : Int) (wr : Bool) (c : Int) (l : List (Int × Int)), L.getD i kd0 = told a0 a1 a2 a3 wr c l ∧ xs[i * 7]? = some (.int .i64 a0) ∧ xs[i * 7 + 1]? = some (.int .i64 a1) ∧ xs[i * 7 + 2]? = some (.int .i64 a2) ∧
    xs[i * 7 + 3]? = some (.int .i64 a3) ∧ xs[i * 7 + 4]? = some (us i) ∧ xs[i * 7 + 5]? = some (.bool wr) ∧ xs[i * 7 + 6]? = some (.int .i64 c) ∧ Own w 0 (us i) l
  inF : ∀ i, i < k → ∀ b, (us i).ownBlock = some b → F b ∧ gb ≠ some b ∧ b < w.heap.size
  dis : ∀ i j, i < k → j < k → i ≠ j → ∀ b, (us i).ownBlock = some b → (us j).ownBlock ≠ some b
theorem FilT.zero (w : World) (F : Nat → Prop) (gb : Option Nat) (xs : List Value) (us : Nat → Value) (L : List KD) : FilT w F gb xs us L 0 :=
  ⟨fun _ h => absurd h (Nat.not_lt_zero _), fun _ h => absurd h (Nat.not_lt_zero _), fun _ _ h => absurd h (Nat.not_lt_zero _)⟩
theorem FilT.agree {w w' : World} {F G : Nat → Prop} {gb : Option Nat} {xs : List Value} {us : Nat → Value} {L : List KD} {k : Nat} (h : FilT w F gb xs us L k) (hz : w.heap.size ≤ w'.heap.size)
    (hs : ∀ b, F b → gb ≠ some b → b < w.heap.size → w'.heap[b]? = w.heap[b]?) (hG : ∀ b, F b → b < w.heap.size → G b) : FilT w' G gb xs us L k :=
  ⟨fun i hi => by
    obtain ⟨a0, a1, a2, a3, wr, c, l, hx, h0, h1, h2, h3, h4, h5, h6, h7⟩ := h.at_ i hi
    exact ⟨a0, a1, a2, a3, wr, c, l, hx, h0, h1, h2, h3, h4, h5, h6, h7.agree fun b hb => hs b (h.inF i hi b hb).1 (h.inF i hi b hb).2.1 (h.inF i hi b hb).2.2⟩,
   fun i hi b hb => ⟨hG b (h.inF i hi b hb).1 (h.inF i hi b hb).2.2, (h.inF i hi b hb).2.1, Nat.lt_of_lt_of_le (h.inF i hi b hb).2.2 hz⟩, h.dis⟩
theorem FilT.step {w w' : World} {F G : Nat → Prop} {gb : Option Nat} {xs xs' : List Value} {us : Nat → Value} {L : List KD} {k : Nat} (h : FilT w F gb xs us L k) (u : Value) (hz : w.heap.size ≤ w'.heap.size)
    (hs : ∀ b, F b → gb ≠ some b → b < w.heap.size → w'.heap[b]? = w.heap[b]?) (hG : ∀ b, F b → b < w.heap.size → G b) (hx : ∀ p, p < k * 7 → xs'[p]? = xs[p]?)
    (hn : ∃ (a0 a1 a2 a3 : Int) (wr : Bool) (c : Int) (l : List (Int × Int)), L.getD k kd0 = told a0 a1 a2 a3 wr c l ∧ xs'[k * 7]? = some (.int .i64 a0) ∧ xs'[k * 7 + 1]? = some (.int .i64 a1) ∧ xs'[k * 7 + 2]? = some (.int .i64 a2) ∧
      xs'[k * 7 + 3]? = some (.int .i64 a3) ∧ xs'[k * 7 + 4]? = some u ∧ xs'[k * 7 + 5]? = some (.bool wr) ∧ xs'[k * 7 + 6]? = some (.int .i64 c) ∧ Own w' 0 u l)
    (hu : ∀ b, u.ownBlock = some b → G b ∧ gb ≠ some b ∧ w.heap.size ≤ b ∧ b < w'.heap.size) : FilT w' G gb xs' (fun i => if i = k then u else us i) L (k + 1) := by
  have h' := h.agree hz hs hG
  refine ⟨fun i hi => ?_, fun i hi b hb => ?_, fun i j hi hj hij b hb => ?_⟩
  · by_cases e : i = k
    · subst e
      simp only [if_true]
      exact hn
    · simp only [e, if_false]
      rw [hx _ (by omega), hx _ (by omega), hx _ (by omega), hx _ (by omega), hx _ (by omega), hx _ (by omega), hx _ (by omega)]
      exact h'.at_ i (by omega)
  · by_cases e : i = k
    · subst e
      simp only [if_true] at hb
      exact ⟨(hu b hb).1, (hu b hb).2.1, (hu b hb).2.2.2⟩
    · simp only [e, if_false] at hb
      exact h'.inF i (by omega) b hb
  · by_cases e : i = k
    · subst e
      simp only [if_true] at hb
      have hji : j ≠ i := fun q => hij q.symm
      simp only [hji, if_false]
      intro hc
      have := (h.inF j (by omega) b hc).2.2
      have := (hu b hb).2.2.1
      omega
    · simp only [e, if_false] at hb
      by_cases e' : j = k
      · simp only [e', if_true]
        intro hc
        have := (h.inF i (by omega) b hb).2.2
        have := (hu b hc).2.2.1
        omega
      · simp only [e', if_false]
        exact h'.dis i j (by omega) (by omega) hij b hb

/-- A slice value that owns a list of such in blocks of F: nobody else's, may be written. -/
structure OwT (w : World) (F : Nat → Prop) (v : Value) (L : List KD) (xs : List Value) (us : Nat → Value) : Prop where
  row : w.ownsRow 0 50 7 v L.length xs
  inF : ∀ g, v.ownBlock = some g → F g
  fil : FilT w F v.ownBlock xs us L L.length
def OwnT (w : World) (F : Nat → Prop) (v : Value) (L : List KD) : Prop := ∃ xs us, OwT w F v L xs us
theorem OwnT.agree {w w' : World} {F G : Nat → Prop} {v : Value} {L : List KD} (h : OwnT w F v L) (hz : w.heap.size ≤ w'.heap.size)
    (hs : ∀ b, F b → b < w.heap.size → w'.heap[b]? = w.heap[b]?) (hG : ∀ b, F b → b < w.heap.size → G b) : OwnT w' G v L := by
  obtain ⟨xs, us, h⟩ := h
  exact ⟨xs, us, row_agree h.row fun b hb => hs b (h.inF b hb) (World.ownsRow.lt h.row b hb).2, fun g hg => hG g (h.inF g hg) (World.ownsRow.lt h.row g hg).2, h.fil.agree hz (fun b hb _ hl => hs b hb hl) hG⟩
theorem OwnT.later {w w' : World} {F : Nat → Prop} {v : Value} {L : List KD} (h : OwnT w F v L) (hb : Below w.heap.size w w') : OwnT w' F v L := h.agree hb.size (fun b _ hl => hb.block b hl) (fun _ hf _ => hf)
theorem OwnT.only {w w' : World} {F G : Nat → Prop} {v : Value} {L : List KD} (h : OwnT w F v L) (ho : Only G w w') (hd : ∀ b, F b → b < w.heap.size → ¬ G b) : OwnT w' F v L :=
  h.agree ho.size (fun b hb hl => ho.block b hl (hd b hb hl)) (fun _ hb _ => hb)
theorem OwnT.rd {w : World} {F : Nat → Prop} {v : Value} {L : List KD} (h : OwnT w F v L) : RdT w v L := by
  obtain ⟨xs, us, h⟩ := h
  have h0 := h.row
  rcases h.row.2 with ⟨rfl, hn⟩ | ⟨g, cap, cur, rfl, hb, hg, hnc, hcm, hcs, htake⟩
  · have : L = [] := List.eq_nil_of_length_eq_zero hn
    subst this
    exact RdT.nil w none 0
  · refine ⟨some ⟨g, 0, none⟩, cap, rfl, Nat.le_trans hnc hcm, fun _ => ⟨g, 0, rfl, (Array.getElem?_eq_some_iff.1 hg).1, fun i hi => ?_⟩⟩
    rw [Nat.zero_add]
    obtain ⟨a0, a1, a2, a3, wr, c, l, hx, x0, x1, x2, x3, x4, x5, x6, ho⟩ := h.fil.at_ i hi
    have go : ∀ j, j < 7 → w.cell? ⟨g, i * 7 + j, none⟩ = xs[i * 7 + j]? := fun j hj => World.ownsRow.cellAt h0 _ (by omega)
    exact ⟨a0, a1, a2, a3, us i, wr, c, l, hx, (go 0 (by decide)).trans x0, (go 1 (by decide)).trans x1, (go 2 (by decide)).trans x2, (go 3 (by decide)).trans x3, (go 4 (by decide)).trans x4, (go 5 (by decide)).trans x5, (go 6 (by decide)).trans x6, ho.rd⟩

set_option maxRecDepth 100000 in
set_option maxHeartbeats 4000000 in
theorem toTold_any (p0 p1 p2 p3 pc : Int) (bp : Bool) (v : Value) (l : List (Int × Int)) (w : World) (h : Rd w v l) (hl : l.length ≤ 1048576) :
    Calls Try.prog 20 #[.agg #[.int .i64 p0, .int .i64 p1, .int .i64 p2, .int .i64 p3, v, .bool bp, .int .i64 pc]] w fun e w' => ∃ v', e = .returned (.agg #[.int .i64 p0, .int .i64 p1, .int .i64 p2, .int .i64 p3, v', .bool bp, .int .i64 pc]) ∧ Own w' w.heap.size v' l ∧ Below w.heap.size w w' := by
  have HR := hid h
  obtain ⟨ao0, cap0, hv0, _⟩ := h
  subst hv0
  go_enter Try.func20, Try.ntmps20
  go_wp2_with fail
  refine (toItem_any p1 p2 p3 _ l _ (HR.out.later (by go_grown)) hl).mono ?_
  rintro e w2 ⟨v', rfl, ho, b2⟩
  have o0 : w2.cell? ⟨w.heap.size + 1 + 1, 0, none⟩ = some (.int .i64 p0) := by rw [b2.cell (by simp)]; go_cell
  have fo0 : w2.frozen? ⟨w.heap.size + 1 + 1, 0, none⟩ = false := by rw [b2.frozen (by simp)]; (first | go_cell | (simp [World.frozen?, World.alloc]; done) | rfl)
  have o1 : w2.cell? ⟨w.heap.size + 1 + 1, 1, none⟩ = some (.int .i64 0) := by rw [b2.cell (by simp)]; go_cell
  have fo1 : w2.frozen? ⟨w.heap.size + 1 + 1, 1, none⟩ = false := by rw [b2.frozen (by simp)]; (first | go_cell | (simp [World.frozen?, World.alloc]; done) | rfl)
  have o2 : w2.cell? ⟨w.heap.size + 1 + 1, 2, none⟩ = some (.int .i64 0) := by rw [b2.cell (by simp)]; go_cell
  have fo2 : w2.frozen? ⟨w.heap.size + 1 + 1, 2, none⟩ = false := by rw [b2.frozen (by simp)]; (first | go_cell | (simp [World.frozen?, World.alloc]; done) | rfl)
  have o3 : w2.cell? ⟨w.heap.size + 1 + 1, 3, none⟩ = some (.int .i64 0) := by rw [b2.cell (by simp)]; go_cell
  have fo3 : w2.frozen? ⟨w.heap.size + 1 + 1, 3, none⟩ = false := by rw [b2.frozen (by simp)]; (first | go_cell | (simp [World.frozen?, World.alloc]; done) | rfl)
  have o4 : w2.cell? ⟨w.heap.size + 1 + 1, 4, none⟩ = some (.slice none 0 0) := by rw [b2.cell (by simp)]; go_cell
  have fo4 : w2.frozen? ⟨w.heap.size + 1 + 1, 4, none⟩ = false := by rw [b2.frozen (by simp)]; (first | go_cell | (simp [World.frozen?, World.alloc]; done) | rfl)
  have o5 : w2.cell? ⟨w.heap.size + 1 + 1, 5, none⟩ = some (.bool false) := by rw [b2.cell (by simp)]; go_cell
  have fo5 : w2.frozen? ⟨w.heap.size + 1 + 1, 5, none⟩ = false := by rw [b2.frozen (by simp)]; (first | go_cell | (simp [World.frozen?, World.alloc]; done) | rfl)
  have o6 : w2.cell? ⟨w.heap.size + 1 + 1, 6, none⟩ = some (.int .i64 0) := by rw [b2.cell (by simp)]; go_cell
  have fo6 : w2.frozen? ⟨w.heap.size + 1 + 1, 6, none⟩ = false := by rw [b2.frozen (by simp)]; (first | go_cell | (simp [World.frozen?, World.alloc]; done) | rfl)
  have r0 : w2.cell? ⟨w.heap.size + 1, 0, none⟩ = some (.int .i64 0) := by rw [b2.cell (by simp)]; go_cell
  have fr0 : w2.frozen? ⟨w.heap.size + 1, 0, none⟩ = false := by rw [b2.frozen (by simp)]; (first | go_cell | (simp [World.frozen?, World.alloc]; done) | rfl)
  have r1 : w2.cell? ⟨w.heap.size + 1, 1, none⟩ = some (.int .i64 0) := by rw [b2.cell (by simp)]; go_cell
  have fr1 : w2.frozen? ⟨w.heap.size + 1, 1, none⟩ = false := by rw [b2.frozen (by simp)]; (first | go_cell | (simp [World.frozen?, World.alloc]; done) | rfl)
  have r2 : w2.cell? ⟨w.heap.size + 1, 2, none⟩ = some (.int .i64 0) := by rw [b2.cell (by simp)]; go_cell
  have fr2 : w2.frozen? ⟨w.heap.size + 1, 2, none⟩ = false := by rw [b2.frozen (by simp)]; (first | go_cell | (simp [World.frozen?, World.alloc]; done) | rfl)
  have r3 : w2.cell? ⟨w.heap.size + 1, 3, none⟩ = some (.int .i64 0) := by rw [b2.cell (by simp)]; go_cell
  have fr3 : w2.frozen? ⟨w.heap.size + 1, 3, none⟩ = false := by rw [b2.frozen (by simp)]; (first | go_cell | (simp [World.frozen?, World.alloc]; done) | rfl)
  have r4 : w2.cell? ⟨w.heap.size + 1, 4, none⟩ = some (.slice none 0 0) := by rw [b2.cell (by simp)]; go_cell
  have fr4 : w2.frozen? ⟨w.heap.size + 1, 4, none⟩ = false := by rw [b2.frozen (by simp)]; (first | go_cell | (simp [World.frozen?, World.alloc]; done) | rfl)
  have r5 : w2.cell? ⟨w.heap.size + 1, 5, none⟩ = some (.bool false) := by rw [b2.cell (by simp)]; go_cell
  have fr5 : w2.frozen? ⟨w.heap.size + 1, 5, none⟩ = false := by rw [b2.frozen (by simp)]; (first | go_cell | (simp [World.frozen?, World.alloc]; done) | rfl)
  have r6 : w2.cell? ⟨w.heap.size + 1, 6, none⟩ = some (.int .i64 0) := by rw [b2.cell (by simp)]; go_cell
  have fr6 : w2.frozen? ⟨w.heap.size + 1, 6, none⟩ = false := by rw [b2.frozen (by simp)]; (first | go_cell | (simp [World.frozen?, World.alloc]; done) | rfl)
  have a2 : w2.cell? ⟨w.heap.size, 5, none⟩ = some (.bool bp) := by rw [b2.cell (by first | omega | (simp; done) | (simp; omega))]; go_cell
  have a3 : w2.cell? ⟨w.heap.size, 6, none⟩ = some (.int .i64 pc) := by rw [b2.cell (by first | omega | (simp; done) | (simp; omega))]; go_cell
  have bb : Below w.heap.size w w2 := (Below.trans (by go_grown) (b2.mono (by first | omega | (simp; done) | (simp; omega))))
  have ho' : Own w2 (w.heap.size + 3) v' l := by simpa using ho
  have hz2 : w.heap.size + 3 ≤ w2.heap.size := by have := b2.size; simp at this; omega
  clear b2 ho
  obtain ⟨zo, zc, hv, _⟩ := ho'.rd
  subst hv
  have HO := hid ho'
  clear ho'
  go_upto_region 6 with fail
  generalize hW3 : ((((((w2.setCell ⟨w.heap.size + 1 + 1, 1, none⟩ (.int .i64 p1)).setCell ⟨w.heap.size + 1 + 1, 2, none⟩ (.int .i64 p2)).setCell ⟨w.heap.size + 1 + 1, 3, none⟩ (.int .i64 p3)).setCell ⟨w.heap.size + 1 + 1, 4, none⟩ (.slice zo l.length zc)).setCell ⟨w.heap.size + 1 + 1, 5, none⟩ (.bool bp)).setCell ⟨w.heap.size + 1 + 1, 6, none⟩ (.int .i64 pc)) = w3
  have HO3 : Hid (Own w3 (w.heap.size + 3) (.slice zo l.length zc) l) := by subst hW3; exact hid (((((((HO.out.apartSet (by simp) _).apartSet (by simp) _).apartSet (by simp) _).apartSet (by simp) _).apartSet (by simp) _).apartSet (by simp) _))
  have x0 : w3.cell? ⟨w.heap.size + 1 + 1, 0, none⟩ = some (.int .i64 p0) := by subst hW3; go_cell
  have x1 : w3.cell? ⟨w.heap.size + 1 + 1, 1, none⟩ = some (.int .i64 p1) := by subst hW3; go_cell
  have x2 : w3.cell? ⟨w.heap.size + 1 + 1, 2, none⟩ = some (.int .i64 p2) := by subst hW3; go_cell
  have x3 : w3.cell? ⟨w.heap.size + 1 + 1, 3, none⟩ = some (.int .i64 p3) := by subst hW3; go_cell
  have x4 : w3.cell? ⟨w.heap.size + 1 + 1, 4, none⟩ = some (.slice zo l.length zc) := by subst hW3; go_cell
  have x5 : w3.cell? ⟨w.heap.size + 1 + 1, 5, none⟩ = some (.bool bp) := by subst hW3; go_cell
  have x6 : w3.cell? ⟨w.heap.size + 1 + 1, 6, none⟩ = some (.int .i64 pc) := by subst hW3; go_cell
  have s0 : w3.cell? ⟨w.heap.size + 1, 0, none⟩ = some (.int .i64 0) := by subst hW3; go_cell
  have fs0 : w3.frozen? ⟨w.heap.size + 1, 0, none⟩ = false := by subst hW3; (first | go_cell | (simp [World.frozen?, World.alloc]; done) | rfl)
  have s1 : w3.cell? ⟨w.heap.size + 1, 1, none⟩ = some (.int .i64 0) := by subst hW3; go_cell
  have fs1 : w3.frozen? ⟨w.heap.size + 1, 1, none⟩ = false := by subst hW3; (first | go_cell | (simp [World.frozen?, World.alloc]; done) | rfl)
  have s2 : w3.cell? ⟨w.heap.size + 1, 2, none⟩ = some (.int .i64 0) := by subst hW3; go_cell
  have fs2 : w3.frozen? ⟨w.heap.size + 1, 2, none⟩ = false := by subst hW3; (first | go_cell | (simp [World.frozen?, World.alloc]; done) | rfl)
  have s3 : w3.cell? ⟨w.heap.size + 1, 3, none⟩ = some (.int .i64 0) := by subst hW3; go_cell
  have fs3 : w3.frozen? ⟨w.heap.size + 1, 3, none⟩ = false := by subst hW3; (first | go_cell | (simp [World.frozen?, World.alloc]; done) | rfl)
  have s4 : w3.cell? ⟨w.heap.size + 1, 4, none⟩ = some (.slice none 0 0) := by subst hW3; go_cell
  have fs4 : w3.frozen? ⟨w.heap.size + 1, 4, none⟩ = false := by subst hW3; (first | go_cell | (simp [World.frozen?, World.alloc]; done) | rfl)
  have s5 : w3.cell? ⟨w.heap.size + 1, 5, none⟩ = some (.bool false) := by subst hW3; go_cell
  have fs5 : w3.frozen? ⟨w.heap.size + 1, 5, none⟩ = false := by subst hW3; (first | go_cell | (simp [World.frozen?, World.alloc]; done) | rfl)
  have s6 : w3.cell? ⟨w.heap.size + 1, 6, none⟩ = some (.int .i64 0) := by subst hW3; go_cell
  have fs6 : w3.frozen? ⟨w.heap.size + 1, 6, none⟩ = false := by subst hW3; (first | go_cell | (simp [World.frozen?, World.alloc]; done) | rfl)
  have b3 : Below w.heap.size w w3 := by subst hW3; go_grown
  have hz3 : w.heap.size + 3 ≤ w3.heap.size := by subst hW3; simpa using hz2
  clear hW3 HO bb hz2 a2 a3 o0 fo0 o1 fo1 o2 fo2 o3 fo3 o4 fo4 o5 fo5 o6 fo6 r0 fr0 r1 fr1 r2 fr2 r3 fr3 r4 fr4 r5 fr5 r6 fr6
  go_wp2
  have e0 : ((((((((w3.setCell ⟨w.heap.size + 1, 0, none⟩ (.int .i64 p0)).setCell ⟨w.heap.size + 1, 1, none⟩ (.int .i64 p1)).setCell ⟨w.heap.size + 1, 2, none⟩ (.int .i64 p2)).setCell ⟨w.heap.size + 1, 3, none⟩ (.int .i64 p3)).setCell ⟨w.heap.size + 1, 4, none⟩ (.slice zo l.length zc)).setCell ⟨w.heap.size + 1, 5, none⟩ (.bool bp)).setCell ⟨w.heap.size + 1, 6, none⟩ (.int .i64 pc))).cell? ⟨w.heap.size + 1, 0, none⟩ = some (.int .i64 p0) := by go_cell
  have e1 : ((((((((w3.setCell ⟨w.heap.size + 1, 0, none⟩ (.int .i64 p0)).setCell ⟨w.heap.size + 1, 1, none⟩ (.int .i64 p1)).setCell ⟨w.heap.size + 1, 2, none⟩ (.int .i64 p2)).setCell ⟨w.heap.size + 1, 3, none⟩ (.int .i64 p3)).setCell ⟨w.heap.size + 1, 4, none⟩ (.slice zo l.length zc)).setCell ⟨w.heap.size + 1, 5, none⟩ (.bool bp)).setCell ⟨w.heap.size + 1, 6, none⟩ (.int .i64 pc))).cell? ⟨w.heap.size + 1, 1, none⟩ = some (.int .i64 p1) := by go_cell
  have e2 : ((((((((w3.setCell ⟨w.heap.size + 1, 0, none⟩ (.int .i64 p0)).setCell ⟨w.heap.size + 1, 1, none⟩ (.int .i64 p1)).setCell ⟨w.heap.size + 1, 2, none⟩ (.int .i64 p2)).setCell ⟨w.heap.size + 1, 3, none⟩ (.int .i64 p3)).setCell ⟨w.heap.size + 1, 4, none⟩ (.slice zo l.length zc)).setCell ⟨w.heap.size + 1, 5, none⟩ (.bool bp)).setCell ⟨w.heap.size + 1, 6, none⟩ (.int .i64 pc))).cell? ⟨w.heap.size + 1, 2, none⟩ = some (.int .i64 p2) := by go_cell
  have e3 : ((((((((w3.setCell ⟨w.heap.size + 1, 0, none⟩ (.int .i64 p0)).setCell ⟨w.heap.size + 1, 1, none⟩ (.int .i64 p1)).setCell ⟨w.heap.size + 1, 2, none⟩ (.int .i64 p2)).setCell ⟨w.heap.size + 1, 3, none⟩ (.int .i64 p3)).setCell ⟨w.heap.size + 1, 4, none⟩ (.slice zo l.length zc)).setCell ⟨w.heap.size + 1, 5, none⟩ (.bool bp)).setCell ⟨w.heap.size + 1, 6, none⟩ (.int .i64 pc))).cell? ⟨w.heap.size + 1, 3, none⟩ = some (.int .i64 p3) := by go_cell
  have e4 : ((((((((w3.setCell ⟨w.heap.size + 1, 0, none⟩ (.int .i64 p0)).setCell ⟨w.heap.size + 1, 1, none⟩ (.int .i64 p1)).setCell ⟨w.heap.size + 1, 2, none⟩ (.int .i64 p2)).setCell ⟨w.heap.size + 1, 3, none⟩ (.int .i64 p3)).setCell ⟨w.heap.size + 1, 4, none⟩ (.slice zo l.length zc)).setCell ⟨w.heap.size + 1, 5, none⟩ (.bool bp)).setCell ⟨w.heap.size + 1, 6, none⟩ (.int .i64 pc))).cell? ⟨w.heap.size + 1, 4, none⟩ = some (.slice zo l.length zc) := by go_cell
  have e5 : ((((((((w3.setCell ⟨w.heap.size + 1, 0, none⟩ (.int .i64 p0)).setCell ⟨w.heap.size + 1, 1, none⟩ (.int .i64 p1)).setCell ⟨w.heap.size + 1, 2, none⟩ (.int .i64 p2)).setCell ⟨w.heap.size + 1, 3, none⟩ (.int .i64 p3)).setCell ⟨w.heap.size + 1, 4, none⟩ (.slice zo l.length zc)).setCell ⟨w.heap.size + 1, 5, none⟩ (.bool bp)).setCell ⟨w.heap.size + 1, 6, none⟩ (.int .i64 pc))).cell? ⟨w.heap.size + 1, 5, none⟩ = some (.bool bp) := by go_cell
  have e6 : ((((((((w3.setCell ⟨w.heap.size + 1, 0, none⟩ (.int .i64 p0)).setCell ⟨w.heap.size + 1, 1, none⟩ (.int .i64 p1)).setCell ⟨w.heap.size + 1, 2, none⟩ (.int .i64 p2)).setCell ⟨w.heap.size + 1, 3, none⟩ (.int .i64 p3)).setCell ⟨w.heap.size + 1, 4, none⟩ (.slice zo l.length zc)).setCell ⟨w.heap.size + 1, 5, none⟩ (.bool bp)).setCell ⟨w.heap.size + 1, 6, none⟩ (.int .i64 pc))).cell? ⟨w.heap.size + 1, 6, none⟩ = some (.int .i64 pc) := by go_cell
  refine bodyPost_ret (v := .agg #[.int .i64 p0, .int .i64 p1, .int .i64 p2, .int .i64 p3, .slice zo l.length zc, .bool bp, .int .i64 pc]) (by simp [results, Try.results20, go_sem, e0, e1, e2, e3, e4, e5, e6]) rfl ⟨_, rfl, ?_, ?_⟩
  · exact ((((((((HO3.out.apartSet (by simp) _).apartSet (by simp) _).apartSet (by simp) _).apartSet (by simp) _).apartSet (by simp) _).apartSet (by simp) _).apartSet (by simp) _)).mono (by omega)
  · go_grown

theorem Try.infoTold_K : (Try.prog.info? 50).map (fun i => (i.zero, i.size, i.bytes)) = some (some (.agg #[.int .i64 0, .int .i64 0, .int .i64 0, .int .i64 0, .slice none 0 0, .bool false, .int .i64 0]), 7, 72) := by kernel_rfl
set_option maxRecDepth 100000 in
set_option maxHeartbeats 4000000 in
theorem toToldS_own (v : Value) (L : List KD) (w : World) (h : RdT w v L) (hl : L.length ≤ 1048576) (hbk : ∀ i, i < L.length → (L.getD i kd0).2.length ≤ 1048576) :
    Calls Try.prog 8 #[v] w fun e w' => ∃ v', e = .returned v' ∧ OwnT w' (Span w.heap.size w'.heap.size) v' L ∧ Below w.heap.size w w' := by
  obtain ⟨ao, cap, rfl, _, hc⟩ := h
  obtain ⟨i0, hi, hz0, hz1, hz2⟩ := info_parts Try.infoTold_K
  have hby : i0.bytes * L.length ≤ 281474976710656 := by rw [hz2]; omega
  have hml : L.length ≤ maxLen := by unfold maxLen; omega
  have HBK := hid hbk
  clear hbk
  go_enter Try.func8, Try.ntmps8
  go_wp2_with (first | (at_make; refine wpList_make_full _ rfl (.tmp 6) (.tmp 6) 25 rfl w.heap.size 50 i0 _ 7 Try.underlying25 hi hz0 hz1 .i64 .i64 _ _ L.length rfl rfl rfl rfl hby hml (Nat.le_refl _) ?_; intro w1 hown hgrow))
  go_loopw [4] (fun i wr => ∃ (k : Nat) (xs : List Value) (us : Nat → Value), k ≤ L.length ∧ i = .int .i64 k ∧ Hid (FilT wr (Span (w.heap.size + 1) wr.heap.size) (some w.heap.size) xs us L k) ∧ Below w.heap.size w wr ∧
      wr.ownsRow w.heap.size 50 7 (.slice (some ⟨w.heap.size, 0, none⟩) L.length L.length) L.length xs) (fun i _ => L.length - (intOf i).toNat)
  case atStart => exact ⟨0, _, fun _ => .bool false, Nat.zero_le _, rfl, hid (FilT.zero _ _ _ _ _ _), (Below.refl _ _).grown hgrow (Nat.le_refl _) (by simp), hown⟩
  case round =>
    obtain ⟨k, xs, us, hk, rfl, hfil, hbel, hrow⟩ := hrel
    clear hown hgrow hby hi hz0 hz1 hz2
    by_cases hlt : k < L.length
    · obtain ⟨b, o, rfl, hb, hcc⟩ := hc (by omega)
      obtain ⟨p0, p1, p2, p3, ux, bp, pc, lx, hx, c0, c1, c2, c3, c4, c5, c6, hux⟩ := (hcc k hlt).later hb hbel
      have hxl : xs.length = L.length * 7 := hrow.1
      have hgl := (hrow.lt w.heap.size rfl).2
      have HX := hid hx
      have HROW := hid hrow
      have hsz := hbel.size
      have HU := hid hux
      have hlen : lx.length ≤ 1048576 := by have := HBK.out k hlt; rw [hx] at this; exact this
      clear hux
      clear hcc hc hx
      go_wp2_with (first | (go_at_call 20; refine (toTold_any p0 p1 p2 p3 pc bp ux lx _ HU.out hlen).mono ?_; rintro e w2 ⟨z, rfl, oz, hb2⟩; obtain ⟨zo, zc, hzv, _⟩ := oz.rd; subst hzv; have HOZ := hid oz; clear oz; have hrow2 := row_later hrow hb2; have HR2 := hid hrow2; have HB2 := hid hb2; have hz2 := hb2.size; obtain ⟨q0, hq0⟩ := row_cell hrow2 (k * 7) (by omega); have f0 := hrow2.frozenAt (k * 7); obtain ⟨q1, hq1⟩ := row_cell hrow2 (k * 7 + 1) (by omega); have f1 := hrow2.frozenAt (k * 7 + 1); obtain ⟨q2, hq2⟩ := row_cell hrow2 (k * 7 + 2) (by omega); have f2 := hrow2.frozenAt (k * 7 + 2); obtain ⟨q3, hq3⟩ := row_cell hrow2 (k * 7 + 3) (by omega); have f3 := hrow2.frozenAt (k * 7 + 3); obtain ⟨q4, hq4⟩ := row_cell hrow2 (k * 7 + 4) (by omega); have f4 := hrow2.frozenAt (k * 7 + 4); obtain ⟨q5, hq5⟩ := row_cell hrow2 (k * 7 + 5) (by omega); have f5 := hrow2.frozenAt (k * 7 + 5); obtain ⟨q6, hq6⟩ := row_cell hrow2 (k * 7 + 6) (by omega); have f6 := hrow2.frozenAt (k * 7 + 6); clear hrow2 hrow hb2))
      go_roundw
      case rel =>
        have hsl : ∀ p, p < k * 7 → (((((((xs.set (k * 7) (.int .i64 p0)).set (k * 7 + 1) (.int .i64 p1)).set (k * 7 + 2) (.int .i64 p2)).set (k * 7 + 3) (.int .i64 p3)).set (k * 7 + 4) (.slice zo lx.length zc)).set (k * 7 + 5) (.bool bp)).set (k * 7 + 6) (.int .i64 pc))[p]? = xs[p]? := fun p hp => by rw [List.getElem?_set_ne (by omega), List.getElem?_set_ne (by omega), List.getElem?_set_ne (by omega), List.getElem?_set_ne (by omega), List.getElem?_set_ne (by omega), List.getElem?_set_ne (by omega), List.getElem?_set_ne (by omega)]
        have hs0 : (((((((xs.set (k * 7) (.int .i64 p0)).set (k * 7 + 1) (.int .i64 p1)).set (k * 7 + 2) (.int .i64 p2)).set (k * 7 + 3) (.int .i64 p3)).set (k * 7 + 4) (.slice zo lx.length zc)).set (k * 7 + 5) (.bool bp)).set (k * 7 + 6) (.int .i64 pc))[k * 7]? = some (.int .i64 p0) := by rw [List.getElem?_set_ne (by omega), List.getElem?_set_ne (by omega), List.getElem?_set_ne (by omega), List.getElem?_set_ne (by omega), List.getElem?_set_ne (by omega), List.getElem?_set_ne (by omega), List.getElem?_set_self (by first | omega | (simp only [List.length_set]; omega))]
        have hs1 : (((((((xs.set (k * 7) (.int .i64 p0)).set (k * 7 + 1) (.int .i64 p1)).set (k * 7 + 2) (.int .i64 p2)).set (k * 7 + 3) (.int .i64 p3)).set (k * 7 + 4) (.slice zo lx.length zc)).set (k * 7 + 5) (.bool bp)).set (k * 7 + 6) (.int .i64 pc))[k * 7 + 1]? = some (.int .i64 p1) := by rw [List.getElem?_set_ne (by omega), List.getElem?_set_ne (by omega), List.getElem?_set_ne (by omega), List.getElem?_set_ne (by omega), List.getElem?_set_ne (by omega), List.getElem?_set_self (by first | omega | (simp only [List.length_set]; omega))]
        have hs2 : (((((((xs.set (k * 7) (.int .i64 p0)).set (k * 7 + 1) (.int .i64 p1)).set (k * 7 + 2) (.int .i64 p2)).set (k * 7 + 3) (.int .i64 p3)).set (k * 7 + 4) (.slice zo lx.length zc)).set (k * 7 + 5) (.bool bp)).set (k * 7 + 6) (.int .i64 pc))[k * 7 + 2]? = some (.int .i64 p2) := by rw [List.getElem?_set_ne (by omega), List.getElem?_set_ne (by omega), List.getElem?_set_ne (by omega), List.getElem?_set_ne (by omega), List.getElem?_set_self (by first | omega | (simp only [List.length_set]; omega))]
        have hs3 : (((((((xs.set (k * 7) (.int .i64 p0)).set (k * 7 + 1) (.int .i64 p1)).set (k * 7 + 2) (.int .i64 p2)).set (k * 7 + 3) (.int .i64 p3)).set (k * 7 + 4) (.slice zo lx.length zc)).set (k * 7 + 5) (.bool bp)).set (k * 7 + 6) (.int .i64 pc))[k * 7 + 3]? = some (.int .i64 p3) := by rw [List.getElem?_set_ne (by omega), List.getElem?_set_ne (by omega), List.getElem?_set_ne (by omega), List.getElem?_set_self (by first | omega | (simp only [List.length_set]; omega))]
        have hs4 : (((((((xs.set (k * 7) (.int .i64 p0)).set (k * 7 + 1) (.int .i64 p1)).set (k * 7 + 2) (.int .i64 p2)).set (k * 7 + 3) (.int .i64 p3)).set (k * 7 + 4) (.slice zo lx.length zc)).set (k * 7 + 5) (.bool bp)).set (k * 7 + 6) (.int .i64 pc))[k * 7 + 4]? = some (.slice zo lx.length zc) := by rw [List.getElem?_set_ne (by omega), List.getElem?_set_ne (by omega), List.getElem?_set_self (by first | omega | (simp only [List.length_set]; omega))]
        have hs5 : (((((((xs.set (k * 7) (.int .i64 p0)).set (k * 7 + 1) (.int .i64 p1)).set (k * 7 + 2) (.int .i64 p2)).set (k * 7 + 3) (.int .i64 p3)).set (k * 7 + 4) (.slice zo lx.length zc)).set (k * 7 + 5) (.bool bp)).set (k * 7 + 6) (.int .i64 pc))[k * 7 + 5]? = some (.bool bp) := by rw [List.getElem?_set_ne (by omega), List.getElem?_set_self (by first | omega | (simp only [List.length_set]; omega))]
        have hs6 : (((((((xs.set (k * 7) (.int .i64 p0)).set (k * 7 + 1) (.int .i64 p1)).set (k * 7 + 2) (.int .i64 p2)).set (k * 7 + 3) (.int .i64 p3)).set (k * 7 + 4) (.slice zo lx.length zc)).set (k * 7 + 5) (.bool bp)).set (k * 7 + 6) (.int .i64 pc))[k * 7 + 6]? = some (.int .i64 pc) := by rw [List.getElem?_set_self (by first | omega | (simp only [List.length_set]; omega))]
        refine ⟨k + 1, _, _, by omega, by go_num, hid (FilT.step hfil.out (.slice zo lx.length zc) (by simp only [World.setCell, Array.size_modify]; exact hz2) (fun b _ hne hl => (heap_set_ne (j := k * 7 + 6) (x := (.int .i64 pc)) (fun q => hne (by rw [q])) ((heap_set_ne (j := k * 7 + 5) (x := (.bool bp)) (fun q => hne (by rw [q])) ((heap_set_ne (j := k * 7 + 4) (x := (.slice zo lx.length zc)) (fun q => hne (by rw [q])) ((heap_set_ne (j := k * 7 + 3) (x := (.int .i64 p3)) (fun q => hne (by rw [q])) ((heap_set_ne (j := k * 7 + 2) (x := (.int .i64 p2)) (fun q => hne (by rw [q])) ((heap_set_ne (j := k * 7 + 1) (x := (.int .i64 p1)) (fun q => hne (by rw [q])) ((heap_set_ne (j := k * 7) (x := (.int .i64 p0)) (fun q => hne (by rw [q])) (HB2.out.block b hl))))))))))))))) (fun b hb hl => ⟨hb.1, by have := hb.2; simp only [World.setCell, Array.size_modify]; omega⟩) hsl ⟨p0, p1, p2, p3, bp, pc, lx, HX.out, hs0, hs1, hs2, hs3, hs4, hs5, hs6, (Own.agree (Own.mono HOZ.out (Nat.zero_le _)) (fun b hb => (heap_set_ne (j := k * 7 + 6) (x := (.int .i64 pc)) (fun q => Nat.lt_irrefl _ (Nat.lt_of_lt_of_le (q ▸ hgl) (HOZ.out.block b hb).1)) ((heap_set_ne (j := k * 7 + 5) (x := (.bool bp)) (fun q => Nat.lt_irrefl _ (Nat.lt_of_lt_of_le (q ▸ hgl) (HOZ.out.block b hb).1)) ((heap_set_ne (j := k * 7 + 4) (x := (.slice zo lx.length zc)) (fun q => Nat.lt_irrefl _ (Nat.lt_of_lt_of_le (q ▸ hgl) (HOZ.out.block b hb).1)) ((heap_set_ne (j := k * 7 + 3) (x := (.int .i64 p3)) (fun q => Nat.lt_irrefl _ (Nat.lt_of_lt_of_le (q ▸ hgl) (HOZ.out.block b hb).1)) ((heap_set_ne (j := k * 7 + 2) (x := (.int .i64 p2)) (fun q => Nat.lt_irrefl _ (Nat.lt_of_lt_of_le (q ▸ hgl) (HOZ.out.block b hb).1)) ((heap_set_ne (j := k * 7 + 1) (x := (.int .i64 p1)) (fun q => Nat.lt_irrefl _ (Nat.lt_of_lt_of_le (q ▸ hgl) (HOZ.out.block b hb).1)) ((heap_set_ne (j := k * 7) (x := (.int .i64 p0)) (fun q => Nat.lt_irrefl _ (Nat.lt_of_lt_of_le (q ▸ hgl) (HOZ.out.block b hb).1)) (rfl))))))))))))))))⟩ (fun b hb => by have h1 := (HOZ.out.block b hb).1; have h2 := (HOZ.out.block b hb).2; exact ⟨⟨by omega, by simp only [World.setCell, Array.size_modify]; exact h2⟩, fun q => by injection q with q; omega, h1, by simp only [World.setCell, Array.size_modify]; exact h2⟩)), ((((((((hbel.trans (HB2.out.mono hsz)).setCell (p := ⟨w.heap.size, k * 7, none⟩) (Nat.le_refl _) (.int .i64 p0)).setCell (p := ⟨w.heap.size, k * 7 + 1, none⟩) (Nat.le_refl _) (.int .i64 p1)).setCell (p := ⟨w.heap.size, k * 7 + 2, none⟩) (Nat.le_refl _) (.int .i64 p2)).setCell (p := ⟨w.heap.size, k * 7 + 3, none⟩) (Nat.le_refl _) (.int .i64 p3)).setCell (p := ⟨w.heap.size, k * 7 + 4, none⟩) (Nat.le_refl _) (.slice zo lx.length zc)).setCell (p := ⟨w.heap.size, k * 7 + 5, none⟩) (Nat.le_refl _) (.bool bp)).setCell (p := ⟨w.heap.size, k * 7 + 6, none⟩) (Nat.le_refl _) (.int .i64 pc)), (row_put1 (row_put1 (row_put1 (row_put1 (row_put1 (row_put1 (row_put1 HR2.out (k * 7) (.int .i64 p0)) (k * 7 + 1) (.int .i64 p1)) (k * 7 + 2) (.int .i64 p2)) (k * 7 + 3) (.int .i64 p3)) (k * 7 + 4) (.slice zo lx.length zc)) (k * 7 + 5) (.bool bp)) (k * 7 + 6) (.int .i64 pc))⟩
      case measure => simp [intOf]; omega
    · have hkl : k = L.length := by omega
      go_wp2
      go_ret
      subst hkl
      exact ⟨_, rfl, ⟨xs, us, row_mono0 hrow, fun g hg => by cases hg; exact ⟨Nat.le_refl _, (hrow.lt _ rfl).2⟩, hfil.out.agree (Nat.le_refl _) (fun _ _ _ _ => rfl) (fun b hb _ => ⟨Nat.le_of_succ_le hb.1, hb.2⟩)⟩, hbel⟩
end Go.Proofs.Ytnnhpnhnddibjaa
