/- A range over a function whose iterator turns one block of its own (a captured variable): the law of the statement, out of the library's wpIn_rangeFunc. -/
import Derived.Test.YtnnhpnhnddibjaaRows
import Derived.RangeFuncNested
import Derived.Handy
namespace Go.Proofs.Ytnnhpnhnddibjaa
open Go.RowKit

/-- What stands on when block b alone turns and new blocks come. -/
def Lets {β : Type} (b : Nat) (J : β → World → Prop) : Prop := ∀ s W W', J s W → W.grownBy W' (some b) → J s W'

/-- The word of an iterator that turns block b and yields ls, in whatever world of which Z holds. -/
def SeqTurns {α : Type} (F : Fence) (n : Nat) (P : Program) (g : Nat) (lb : Array Value) (encs : α → Array Value) (b : Nat) (Kp : World → World → Prop) (ls : List α) (Z : World → Prop) : Prop :=
  ∀ (l : Nat) (J Jx : List α → World → Prop) (W : World), Z W → Lets b J →
    (∀ pre x W1, J pre W1 → (pre ++ [x]) <+: ls → YieldAt F (n - 1) P l (encs x) W1 fun e W' =>
      (e = .returned (.bool true) ∧ J (pre ++ [x]) W' ∧ Kp W1 W') ∨ (e = .returned (.bool false) ∧ Jx (pre ++ [x]) W')) →
    J [] W →
    CallsIn F n P g (#[.func (.yield l) #[] #[]] ++ lb) W fun e W' => (∃ v, e = .returned v) ∧ (J ls W' ∨ (∃ pre, pre <+: ls ∧ Jx pre W'))

/-- A loop's record has turned, nothing else. -/
def Turned (l : Nat) (W W' : World) : Prop := (∃ r, W.heap[l]? = some (.loop r)) ∧ ∃ r', W' = W.putObj l (.loop r')
theorem Turned.apart {l : Nat} {W W' : World} (h : Turned l W W') {p : Addr} {v : Value} (hc : W.cell? p = some v) : p.block ≠ l := by
  obtain ⟨⟨r, hr⟩, _⟩ := h
  intro e
  rw [World.cell?, e, hr] at hc
  cases hc
theorem Turned.cell {l : Nat} {W W' : World} (h : Turned l W W') {p : Addr} {v : Value} (hc : W.cell? p = some v) : W'.cell? p = some v := by
  have hne := h.apart hc
  obtain ⟨_, r', rfl⟩ := h
  rw [← hc]
  exact World.cell?_of_block (w := W) (World.putObj_heap_other hne)
theorem Turned.frozen {l : Nat} {W W' : World} (h : Turned l W W') {p : Addr} {v : Value} (hc : W.cell? p = some v) : W'.frozen? p = W.frozen? p := by
  have hne := h.apart hc
  obtain ⟨_, r', rfl⟩ := h
  exact World.frozen?_of_block (w := W) (World.putObj_heap_other hne)
theorem Turned.mark {l : Nat} {W : World} {r : Loop} (h : W.heap[l]? = some (.loop r)) (r' : Loop) : Turned l W (W.putObj l (.loop r')) := ⟨⟨r, h⟩, r', rfl⟩

variable {F : Fence} {n : Nat} {P : Program}

theorem range_turns {α : Type} {g : Operand} {ps : Array Tmp} {assign body : Code} {Q : Exit → Act → World → Prop} {a : Act} {w : World}
    (hro : F.round = none) (h1 : 1 ≤ n) {gf : Nat} {lb : Array Value} (hg : a.eval g = .func (.func gf) #[] lb) (hFg : F.fn gf) (eg : ∀ args w, (callFunc gf args).run P w = .ok (.enter gf args) w)
    {encs : α → Array Value} {b : Nat} {Kp : World → World → Prop} {ls : List α} {Z : World → Prop} (hseq : SeqTurns F (n - 1) P gf lb encs b Kp ls Z) (hb : b < w.heap.size)
    (hKt : ∀ {A B C : World}, Kp A B → Kp B C → Kp A C) (hKb : ∀ (l : Nat) (W W' : World), w.heap.size ≤ l → Turned l W W' → Kp W W') (hZ : ∀ W1, Below w.heap.size w W1 → Z W1) (hps : ∀ x, (encs x).size = ps.size)
    (I : List α → World → Prop) (Ix : Code → World → Prop) (hI : OwnFrom w.heap.size I) (hIb : Lets b I) (hIx : ∀ c, OwnFrom w.heap.size (fun (_ : Unit) W => Ix c W)) (h0 : I [] w)
    (hround : ∀ (l : Nat) (pre : List α) (x : α) (W : World), w.heap.size ≤ l → I pre W → (pre ++ [x]) <+: ls →
      assign.wpIn (F.inRound l) (n - 1 - 1) P (Exit.then (fun a' W' => KeepsFrom w.heap.size W W' ∧ Kp W W' ∧ I pre W' ∧
          ∀ W2, Turned l W' W2 → I pre W2 → body.wpIn (F.inRound l) (n - 1 - 1) P (ownPostG w.heap.size Kp (fun _ => I (pre ++ [x])) (fun c _ => Ix c) ([] : List Unit) W2) a' W2) (fun _ _ _ => False))
        { tmps := (ps.zip (encs x)).foldl (fun t (p, v) => t.setIfInBounds p v) a.tmps, defers := [] } W)
    (hdone : ∀ (D : Nat) (W : World), w.heap.size ≤ D → I ls W → W.heap[D]? = some (.deferred (some [])) → Q .normal { a with defers := { target := .collected D, args := #[] } :: a.defers } W)
    (hstop : ∀ (D : Nat) (c : Code) (W : World), w.heap.size ≤ D → Ix c W → W.heap[D]? = some (.deferred (some [])) → c.wpIn F n P Q { a with defers := { target := .collected D, args := #[] } :: a.defers } W) :
    (Code.rangeFunc g ps assign body).wpIn F n P Q a w := by
  refine wpIn_rangeFunc fun fn hfn => ?_
  rw [hro]
  -- the record of this loop, in its states
  obtain ⟨R, hR⟩ : ∃ R : LoopState → Option Code → Loop, R = fun st pe => { state := st, pending := pe, fn, tmps := a.tmps, params := ps, assign, body, defers := w.heap.size } := ⟨_, rfl⟩
  have hsz : (w.alloc (.deferred (some []))).heap.size = w.heap.size + 1 := World.size_alloc _ _
  obtain ⟨V, hV⟩ : ∃ V, (w.alloc (.deferred (some []))).alloc (.loop (R .ready none)) = V := ⟨_, rfl⟩
  have vL : V.heap[w.heap.size + 1]? = some (.loop (R .ready none)) := by
    rw [← hV, ← hsz]; exact World.alloc_heap_new _ _
  have vD : V.heap[w.heap.size]? = some (.deferred (some [])) := by
    rw [← hV, Below.heap_alloc _ _ _ (by omega)]; exact World.alloc_heap_new w _
  have vB : Below w.heap.size w V := by
    rw [← hV]; exact ((Below.refl _ w).alloc (Nat.le_refl _) _).alloc (by omega) _
  have vI : I [] V := by rw [← hV]; exact hI.alloc _ (hI.alloc _ h0)
  -- the bookkeeping beside an invariant
  let Book : LoopState → Option Code → World → Prop := fun st pe W => W.heap[w.heap.size + 1]? = some (.loop (R st pe)) ∧ W.heap[w.heap.size]? = some (.deferred (some []))
  refine ⟨w.heap.size + 1, [{ target := .collected w.heap.size, args := #[] }], V, { target := .fn (.func gf) lb, args := #[.func (.yield (w.heap.size + 1)) #[] #[]] }, V, gf, #[.func (.yield (w.heap.size + 1)) #[] #[]] ++ lb, V, ?_, ?_, ?_, ?_, fun _ => h1, ?_⟩
  · rw [← hV, hR]; exact run_enterLoop_outer _ _ _ _ _
  · simp only [resolve, hg]; simp [go_sem]
  · intro f' hf'; simp [Target.leads] at hf'; subst hf'; exact hFg
  · simp [invoke, go_sem, eg]
  refine (hseq (w.heap.size + 1) (fun pre W => I pre W ∧ Book .ready none W) (fun _ W => ∃ c, Ix c W ∧ Book .done (some c) W) V (hZ V vB) ?_ ?_ ⟨vI, vL, vD⟩).mono ?_
  · rintro s A B ⟨hi, hl, hd⟩ hg'
    exact ⟨hIb s A B hi hg', (hg'.block _ (Array.getElem?_eq_some_iff.1 hl).1 (fun e => by have := Option.some.inj e; omega)).trans hl, (hg'.block _ (Array.getElem?_eq_some_iff.1 hd).1 (fun e => by have := Option.some.inj e; omega)).trans hd⟩
  · rintro pre x W ⟨hi, hl, hd⟩ hpre
    have hy := run_yield (P := P) (args := encs x) hl (by rw [hR]; exact hps x)
    rw [hR] at hy
    refine ⟨fn, _, assign, body, hy, roundIn_of_wpIn hfn (wpIn_mono (hround (w.heap.size + 1) pre x W (by omega) hi hpre) ?_)⟩
    rintro e a' Wa hq
    cases e with
    | normal =>
      obtain ⟨hkf, hkp, hia, hbody⟩ := hq
      replace hl := hkf.same _ _ (by omega) hl rfl
      replace hd := hkf.same _ _ (Nat.le_refl _) hd rfl
      have hlt := (Array.getElem?_eq_some_iff.1 hl).1
      refine ⟨_, run_beginRound hl (by rw [hR]), ?_⟩
      obtain ⟨rb, hrb⟩ : ∃ rb : Loop, rb = { R .ready none with state := .busy } := ⟨_, rfl⟩
      rw [← hrb]
      have hT := Turned.mark hl rb
      have hl2 : (Wa.putObj (w.heap.size + 1) (.loop rb)).heap[w.heap.size + 1]? = some (.loop rb) := World.putObj_heap_same hlt
      have hd2 : (Wa.putObj (w.heap.size + 1) (.loop rb)).heap[w.heap.size]? = some (.deferred (some [])) := (World.putObj_heap_other (by omega)).trans hd
      have hkp2 := hKt hkp (hKb _ _ _ (by omega) hT)
      refine wpIn_mono (hbody _ hT (hI.putObj _ hia (by omega) hl rfl)) ?_
      -- the round's end, whichever way
      have fin : ∀ (j : Option Code) (W3 : World), KeepsFrom w.heap.size (Wa.putObj (w.heap.size + 1) (.loop rb)) W3 →
          ∃ W4, (Instr.endRound (w.heap.size + 1) j).run P W3 = .ok (.bool j.isNone) W4 ∧ Turned (w.heap.size + 1) W3 W4 ∧ Book (if j.isNone then .ready else .done) j W4 := fun j W3 hk3 => by
        have hl3 := hk3.same _ _ (by omega) hl2 rfl
        have hd3 := hk3.same _ _ (Nat.le_refl _) hd2 rfl
        have hend := run_endRound (P := P) j hl3
        refine ⟨_, hend, Turned.mark hl3 _, ?_, (World.putObj_heap_other (by omega)).trans hd3⟩
        rw [World.putObj_heap_same (Array.getElem?_eq_some_iff.1 hl3).1, hrb, hR]
      have own : ∀ {W3 W4 : World} (_ : Turned (w.heap.size + 1) W3 W4) {I' : Unit → World → Prop} (_ : OwnFrom w.heap.size I') (_ : I' () W3), I' () W4 := by
        rintro W3 W4 ⟨⟨r, hr⟩, r', rfl⟩ I' hI' hi'
        exact hI'.putObj _ hi' (by omega) hr rfl
      have ownI : ∀ {W3 W4 : World} (_ : Turned (w.heap.size + 1) W3 W4) (s : List α) (_ : I s W3), I s W4 := by
        rintro W3 W4 ⟨⟨r, hr⟩, r', rfl⟩ s hi'
        exact hI.putObj _ hi' (by omega) hr rfl
      rintro e a3 W3 hp
      cases e with
      | normal =>
        obtain ⟨hk3, hkp3, hi3⟩ := hp
        obtain ⟨W4, he, ht, hbk⟩ := fin none W3 hk3
        exact ⟨_, W4, he, .inl ⟨rfl, ⟨ownI ht _ hi3, hbk⟩, hKt hkp2 (hKt hkp3 (hKb _ _ _ (by omega) ht))⟩⟩
      | ret =>
        obtain ⟨hk3, hi3⟩ := hp
        obtain ⟨W4, he, ht, hbk⟩ := fin (some .ret) W3 hk3
        exact ⟨_, W4, he, .inr ⟨rfl, _, own ht (hIx _) hi3, hbk⟩⟩
      | exit id =>
        obtain ⟨hk3, hi3⟩ := hp
        obtain ⟨W4, he, ht, hbk⟩ := fin (some (.exit id)) W3 hk3
        exact ⟨_, W4, he, .inr ⟨rfl, _, own ht (hIx _) hi3, hbk⟩⟩
      | goto t =>
        obtain ⟨hk3, hi3⟩ := hp
        obtain ⟨W4, he, ht, hbk⟩ := fin (some (.goto t)) W3 hk3
        exact ⟨_, W4, he, .inr ⟨rfl, _, own ht (hIx _) hi3, hbk⟩⟩
      | panic ch => exact hp.elim
      | outgrown => exact hp.elim
    | exit id => exact hq.elim
    | goto t => exact hq.elim
    | ret => exact hq.elim
    | panic ch => exact hq.elim
    | outgrown => exact hq.elim
  · have off : ∀ (st : LoopState) (pe : Option Code) (W2 : World), st ≠ .busy → Book st pe W2 → ∃ W3, (Instr.endLoop (w.heap.size + 1)).run P W2 = .ok pe W3 ∧ Turned (w.heap.size + 1) W2 W3 ∧ W3.heap[w.heap.size]? = some (.deferred (some [])) := fun st pe W2 hst ⟨hl, hd⟩ => by
      have he := run_endLoop (P := P) hl (by rw [hR]; exact hst)
      exact ⟨_, by rw [he, hR], Turned.mark hl _, (World.putObj_heap_other (by omega)).trans hd⟩
    rintro e W2 ⟨⟨v, rfl⟩, (⟨hi, hbk⟩ | ⟨pre, _, c, hi, hbk⟩)⟩
    · obtain ⟨W3, he, ⟨⟨r, hr⟩, r', rfl⟩, hd⟩ := off .ready none W2 (by simp) hbk
      exact ⟨none, _, he, hdone _ _ (Nat.le_refl _) (hI.putObj _ hi (by omega) hr rfl) hd⟩
    · obtain ⟨W3, he, ⟨⟨r, hr⟩, r', rfl⟩, hd⟩ := off .done (some c) W2 (by simp) hbk
      exact ⟨some c, _, he, hstop _ c _ (Nat.le_refl _) ((hIx c).putObj (s := ()) _ hi (by omega) hr rfl) hd⟩
#print axioms range_turns
end Go.Proofs.Ytnnhpnhnddibjaa
