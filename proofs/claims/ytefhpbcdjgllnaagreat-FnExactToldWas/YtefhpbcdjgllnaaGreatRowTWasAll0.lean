/- Proved here: FnExactToldWas returns true for every part and every item (no condition); what it was handed reads as before. -/
import Derived.Test.YtefhpbcdjgllnaaGreatGrA
import Derived.Test.YtefhpbcdjgllnaaGreatRows
import Derived.RangeFuncNested
import Derived.Handy
import Derived.Test.YtefhpbcdjgllnaaGreatT0p
import Derived.RangeFuncLeaves
import Derived.OwnWalkIn
import Derived.TacticsInMore
import Derived.LoopIn
import Derived.Stop.RegionWithIn
import Derived.Test.YtefhpbcdjgllnaaGreatGrB
import Derived.RangeFuncBox
import Derived.Shelf.Abstract
import Derived.Test.YtefhpbcdjgllnaaGreatS4b
import Derived.Test.YtefhpbcdjgllnaaGreatSShard
import Derived.Test.YtefhpbcdjgllnaaGreatGrC
import Derived.Test.YtefhpbcdjgllnaaGreatKw
import Derived.BigQuiet
import Derived.Lib.QuietBelow
import Derived.Deep.RegionHeld3
import Derived.Test.YtefhpbcdjgllnaaGreatS4n
import Derived.Test.YtefhpbcdjgllnaaGreatCc
import Derived.Test.YtefhpbcdjgllnaaGreatT0s
import Derived.Deep.Cut
import Derived.ProofKit
import Derived.Lib.SmallJoins
/- Part: The law's own helpers of an Item, in the form of those of a Shard. -/
namespace Go.Proofs.YtefhpbcdjgllnaaGreat
open Go.RowKit

theorem szItem_rd (p0 p1 p2 : Int) (u : Value) (l : List (Int × Int)) (left : Int) (w : World) (h : Rd w u l) (h0 : 0 ≤ left) (h1 : left ≤ 1048576) :
    Calls Tryz.prog 5 #[.agg #[.int .i64 p0, .int .i64 p1, .int .i64 p2, u], .int .i64 left] w fun e w' => ((∃ r : Int, e = .returned (.int .i64 r) ∧ 0 ≤ r ∧ r ≤ left ∧ l.length ≤ 1048576) ∨ e = .returned (.int .i64 (-1))) ∧ Below w.heap.size w w' :=
  (szItem_two p0 p1 p2 u l left w h h0 h1).mono fun e w' ⟨⟨r, he, hs⟩, hb⟩ => by
    refine ⟨?_, hb⟩
    rcases hs.out with ⟨h2, h3⟩ | ⟨h2, _⟩
    · exact .inl ⟨r, he, h3, by omega, by omega⟩
    · exact .inr (by rw [he, h2])
theorem toItem_rd (p0 p1 p2 : Int) (v : Value) (l : List (Int × Int)) (w : World) (h : Rd w v l) (hl : l.length ≤ 1048576) :
    Calls Tryz.prog 8 #[.agg #[.int .i64 p0, .int .i64 p1, .int .i64 p2, v]] w fun e w' => (∃ (xo : Option Addr) (xc : Nat), e = .returned (.agg #[.int .i64 p0, .int .i64 p1, .int .i64 p2, .slice xo l.length xc]) ∧ Rd w' (.slice xo l.length xc) l) ∧ Below w.heap.size w w' :=
  (toItem_any p0 p1 p2 v l w h hl).mono fun e w' ⟨v', he, ho, hb⟩ => by
    have hr := ho.rd
    obtain ⟨xo, xc, hv, _⟩ := id hr
    subst hv
    exact ⟨⟨xo, xc, he, hr⟩, hb⟩
theorem eqItem_rd (p0 p1 p2 : Int) (va vb : Value) (l : List (Int × Int)) (w : World) (ha : Rd w va l) (hb : Rd w vb l) :
    Calls Tryz.prog 11 #[.agg #[.int .i64 p0, .int .i64 p1, .int .i64 p2, va], .agg #[.int .i64 p0, .int .i64 p1, .int .i64 p2, vb]] w fun e w' => e = .returned (.bool true) ∧ Below w.heap.size w w' :=
  (eqItem_any p0 p1 p2 p0 p1 p2 l l va vb w ha hb).mono fun e w' ⟨he, hw⟩ => ⟨by rw [he, eqK_iff.2 rfl], hw⟩
theorem open_rd {w : World} {v : Value} {l : List (Int × Int)} (h : Rd w v l) : ∃ (o : Option Addr) (c : Nat), v = .slice o l.length c := by
  obtain ⟨o, c, hv, _⟩ := h
  exact ⟨o, c, hv⟩
end Go.Proofs.YtefhpbcdjgllnaaGreat

/- Part: A range over a function whose iterator turns one block of its own (a captured variable): the law of the statement, out of the library's wpIn_rangeFunc. -/
namespace Go.Proofs.YtefhpbcdjgllnaaGreat
open Go.RowKit

/-- What stands on when block b alone turns and new blocks come. -/
def Lets {β : Type} (b : Nat) (J : β → World → Prop) : Prop := ∀ s W W', J s W → W.grownBy W' (some b) → J s W'

/-- The word of an iterator that turns block b and yields ls, in whatever world of which Z holds. -/
def SeqTurns {α : Type} (F : Fence) (n : Nat) (P : Program) (g : Nat) (lb : Array Value) (encs : α → Array Value) (b : Nat) (Kp : World → World → Prop) (ls : List α) (Z : World → Prop) : Prop :=
  ∀ (l : Nat) (J Jx : List α → World → Prop) (W : World), Z W → Lets b J →
    (∀ pre x W1, J pre W1 → (pre ++ [x]) <+: ls → YieldAt F (n - 1) P l (encs x) W1 fun e W' =>
      (e = .returned (.bool true) ∧ J (pre ++ [x]) W' ∧ Kp W1 W') ∨ (e = .returned (.bool false) ∧ Jx (pre ++ [x]) W')) →
    J [] W →
    CallsIn F n P g (#[.func (.yield l) #[] #[]] ++ lb) W fun e W' => (∃ v, e = .returned v) ∧ (J ls W' ∨ (∃ pre, pre <+: ls ∧ Jx pre W'))

/-- A loop's record has turned, nothing else. -/
def Turned (l : Nat) (W W' : World) : Prop := (∃ r, W.heap[l]? = some (.loop r)) ∧ ∃ r', W' = W.putObj l (.loop r')
theorem Turned.apart {l : Nat} {W W' : World} (h : Turned l W W') {p : Addr} {v : Value} (hc : W.cell? p = some v) : p.block ≠ l := by
  obtain ⟨⟨r, hr⟩, _⟩ := h
  intro e
  rw [World.cell?, e, hr] at hc
  cases hc
theorem Turned.cell {l : Nat} {W W' : World} (h : Turned l W W') {p : Addr} {v : Value} (hc : W.cell? p = some v) : W'.cell? p = some v := by
  have hne := h.apart hc
  obtain ⟨_, r', rfl⟩ := h
  rw [← hc]
  exact World.cell?_of_block (w := W) (World.putObj_heap_other hne)
theorem Turned.frozen {l : Nat} {W W' : World} (h : Turned l W W') {p : Addr} {v : Value} (hc : W.cell? p = some v) : W'.frozen? p = W.frozen? p := by
  have hne := h.apart hc
  obtain ⟨_, r', rfl⟩ := h
  exact World.frozen?_of_block (w := W) (World.putObj_heap_other hne)
theorem Turned.mark {l : Nat} {W : World} {r : Loop} (h : W.heap[l]? = some (.loop r)) (r' : Loop) : Turned l W (W.putObj l (.loop r')) := ⟨⟨r, h⟩, r', rfl⟩

variable {F : Fence} {n : Nat} {P : Program}

theorem range_turns {α : Type} {g : Operand} {ps : Array Tmp} {assign body : Code} {Q : Exit → Act → World → Prop} {a : Act} {w : World}
    (hro : F.round = none) (h1 : 1 ≤ n) {gf : Nat} {lb : Array Value} (hg : a.eval g = .func (.func gf) #[] lb) (hFg : F.fn gf) (eg : ∀ args w, (callFunc gf args).run P w = .ok (.enter gf args) w)
    {encs : α → Array Value} {b : Nat} {Kp : World → World → Prop} {ls : List α} {Z : World → Prop} (hseq : SeqTurns F (n - 1) P gf lb encs b Kp ls Z) (hb : b < w.heap.size)
    (hKt : ∀ {A B C : World}, Kp A B → Kp B C → Kp A C) (hKb : ∀ (l : Nat) (W W' : World), w.heap.size ≤ l → Turned l W W' → Kp W W') (hZ : ∀ W1, Below w.heap.size w W1 → Z W1) (hps : ∀ x, (encs x).size = ps.size)
    (I : List α → World → Prop) (Ix : Code → World → Prop) (hI : OwnFrom w.heap.size I) (hIb : Lets b I) (hIx : ∀ c, OwnFrom w.heap.size (fun (_ : Unit) W => Ix c W)) (h0 : I [] w)
    (hround : ∀ (l : Nat) (pre : List α) (x : α) (W : World), w.heap.size ≤ l → I pre W → (pre ++ [x]) <+: ls →
      assign.wpIn (F.inRound l) (n - 1 - 1) P (Exit.then (fun a' W' => KeepsFrom w.heap.size W W' ∧ Kp W W' ∧ I pre W' ∧
          ∀ W2, Turned l W' W2 → I pre W2 → body.wpIn (F.inRound l) (n - 1 - 1) P (ownPostG w.heap.size Kp (fun _ => I (pre ++ [x])) (fun c _ => Ix c) ([] : List Unit) W2) a' W2) (fun _ _ _ => False))
        { tmps := (ps.zip (encs x)).foldl (fun t (p, v) => t.setIfInBounds p v) a.tmps, defers := [] } W)
    (hdone : ∀ (D : Nat) (W : World), w.heap.size ≤ D → I ls W → W.heap[D]? = some (.deferred (some [])) → Q .normal { a with defers := { target := .collected D, args := #[] } :: a.defers } W)
    (hstop : ∀ (D : Nat) (c : Code) (W : World), w.heap.size ≤ D → Ix c W → W.heap[D]? = some (.deferred (some [])) → c.wpIn F n P Q { a with defers := { target := .collected D, args := #[] } :: a.defers } W) :
    (Code.rangeFunc g ps assign body).wpIn F n P Q a w := by
  refine wpIn_rangeFunc fun fn hfn => ?_
  rw [hro]
  -- the record of this loop, in its states
  obtain ⟨R, hR⟩ : ∃ R : LoopState → Option Code → Loop, R = fun st pe => { state := st, pending := pe, fn, tmps := a.tmps, params := ps, assign, body, defers := w.heap.size } := ⟨_, rfl⟩
  have hsz : (w.alloc (.deferred (some []))).heap.size = w.heap.size + 1 := World.size_alloc _ _
  obtain ⟨V, hV⟩ : ∃ V, (w.alloc (.deferred (some []))).alloc (.loop (R .ready none)) = V := ⟨_, rfl⟩
  have vL : V.heap[w.heap.size + 1]? = some (.loop (R .ready none)) := by
    rw [← hV, ← hsz]; exact World.alloc_heap_new _ _
  have vD : V.heap[w.heap.size]? = some (.deferred (some [])) := by
    rw [← hV, Below.heap_alloc _ _ _ (by omega)]; exact World.alloc_heap_new w _
  have vB : Below w.heap.size w V := by
    rw [← hV]; exact ((Below.refl _ w).alloc (Nat.le_refl _) _).alloc (by omega) _
  have vI : I [] V := by rw [← hV]; exact hI.alloc _ (hI.alloc _ h0)
  -- the bookkeeping beside an invariant
  let Book : LoopState → Option Code → World → Prop := fun st pe W => W.heap[w.heap.size + 1]? = some (.loop (R st pe)) ∧ W.heap[w.heap.size]? = some (.deferred (some []))
  refine ⟨w.heap.size + 1, [{ target := .collected w.heap.size, args := #[] }], V, { target := .fn (.func gf) lb, args := #[.func (.yield (w.heap.size + 1)) #[] #[]] }, V, gf, #[.func (.yield (w.heap.size + 1)) #[] #[]] ++ lb, V, ?_, ?_, ?_, ?_, fun _ => h1, ?_⟩
  · rw [← hV, hR]; exact run_enterLoop_outer _ _ _ _ _
  · simp only [resolve, hg]; simp [go_sem]
  · intro f' hf'; simp [Target.leads] at hf'; subst hf'; exact hFg
  · simp [invoke, go_sem, eg]
  refine (hseq (w.heap.size + 1) (fun pre W => I pre W ∧ Book .ready none W) (fun _ W => ∃ c, Ix c W ∧ Book .done (some c) W) V (hZ V vB) ?_ ?_ ⟨vI, vL, vD⟩).mono ?_
  · rintro s A B ⟨hi, hl, hd⟩ hg'
    exact ⟨hIb s A B hi hg', (hg'.block _ (Array.getElem?_eq_some_iff.1 hl).1 (fun e => by have := Option.some.inj e; omega)).trans hl, (hg'.block _ (Array.getElem?_eq_some_iff.1 hd).1 (fun e => by have := Option.some.inj e; omega)).trans hd⟩
  · rintro pre x W ⟨hi, hl, hd⟩ hpre
    have hy := run_yield (P := P) (args := encs x) hl (by rw [hR]; exact hps x)
    rw [hR] at hy
    refine ⟨fn, _, assign, body, hy, roundIn_of_wpIn hfn (wpIn_mono (hround (w.heap.size + 1) pre x W (by omega) hi hpre) ?_)⟩
    rintro e a' Wa hq
    cases e with
    | normal =>
      obtain ⟨hkf, hkp, hia, hbody⟩ := hq
      replace hl := hkf.same _ _ (by omega) hl rfl
      replace hd := hkf.same _ _ (Nat.le_refl _) hd rfl
      have hlt := (Array.getElem?_eq_some_iff.1 hl).1
      refine ⟨_, run_beginRound hl (by rw [hR]), ?_⟩
      obtain ⟨rb, hrb⟩ : ∃ rb : Loop, rb = { R .ready none with state := .busy } := ⟨_, rfl⟩
      rw [← hrb]
      have hT := Turned.mark hl rb
      have hl2 : (Wa.putObj (w.heap.size + 1) (.loop rb)).heap[w.heap.size + 1]? = some (.loop rb) := World.putObj_heap_same hlt
      have hd2 : (Wa.putObj (w.heap.size + 1) (.loop rb)).heap[w.heap.size]? = some (.deferred (some [])) := (World.putObj_heap_other (by omega)).trans hd
      have hkp2 := hKt hkp (hKb _ _ _ (by omega) hT)
      refine wpIn_mono (hbody _ hT (hI.putObj _ hia (by omega) hl rfl)) ?_
      -- the round's end, whichever way
      have fin : ∀ (j : Option Code) (W3 : World), KeepsFrom w.heap.size (Wa.putObj (w.heap.size + 1) (.loop rb)) W3 →
          ∃ W4, (Instr.endRound (w.heap.size + 1) j).run P W3 = .ok (.bool j.isNone) W4 ∧ Turned (w.heap.size + 1) W3 W4 ∧ Book (if j.isNone then .ready else .done) j W4 := fun j W3 hk3 => by
        have hl3 := hk3.same _ _ (by omega) hl2 rfl
        have hd3 := hk3.same _ _ (Nat.le_refl _) hd2 rfl
        have hend := run_endRound (P := P) j hl3
        refine ⟨_, hend, Turned.mark hl3 _, ?_, (World.putObj_heap_other (by omega)).trans hd3⟩
        rw [World.putObj_heap_same (Array.getElem?_eq_some_iff.1 hl3).1, hrb, hR]
      have own : ∀ {W3 W4 : World} (_ : Turned (w.heap.size + 1) W3 W4) {I' : Unit → World → Prop} (_ : OwnFrom w.heap.size I') (_ : I' () W3), I' () W4 := by
        rintro W3 W4 ⟨⟨r, hr⟩, r', rfl⟩ I' hI' hi'
        exact hI'.putObj _ hi' (by omega) hr rfl
      have ownI : ∀ {W3 W4 : World} (_ : Turned (w.heap.size + 1) W3 W4) (s : List α) (_ : I s W3), I s W4 := by
        rintro W3 W4 ⟨⟨r, hr⟩, r', rfl⟩ s hi'
        exact hI.putObj _ hi' (by omega) hr rfl
      rintro e a3 W3 hp
      cases e with
      | normal =>
        obtain ⟨hk3, hkp3, hi3⟩ := hp
        obtain ⟨W4, he, ht, hbk⟩ := fin none W3 hk3
        exact ⟨_, W4, he, .inl ⟨rfl, ⟨ownI ht _ hi3, hbk⟩, hKt hkp2 (hKt hkp3 (hKb _ _ _ (by omega) ht))⟩⟩
      | ret =>
        obtain ⟨hk3, hi3⟩ := hp
        obtain ⟨W4, he, ht, hbk⟩ := fin (some .ret) W3 hk3
        exact ⟨_, W4, he, .inr ⟨rfl, _, own ht (hIx _) hi3, hbk⟩⟩
      | exit id =>
        obtain ⟨hk3, hi3⟩ := hp
        obtain ⟨W4, he, ht, hbk⟩ := fin (some (.exit id)) W3 hk3
        exact ⟨_, W4, he, .inr ⟨rfl, _, own ht (hIx _) hi3, hbk⟩⟩
      | goto t =>
        obtain ⟨hk3, hi3⟩ := hp
        obtain ⟨W4, he, ht, hbk⟩ := fin (some (.goto t)) W3 hk3
        exact ⟨_, W4, he, .inr ⟨rfl, _, own ht (hIx _) hi3, hbk⟩⟩
      | panic ch => exact hp.elim
      | outgrown => exact hp.elim
    | exit id => exact hq.elim
    | goto t => exact hq.elim
    | ret => exact hq.elim
    | panic ch => exact hq.elim
    | outgrown => exact hq.elim
  · have off : ∀ (st : LoopState) (pe : Option Code) (W2 : World), st ≠ .busy → Book st pe W2 → ∃ W3, (Instr.endLoop (w.heap.size + 1)).run P W2 = .ok pe W3 ∧ Turned (w.heap.size + 1) W2 W3 ∧ W3.heap[w.heap.size]? = some (.deferred (some [])) := fun st pe W2 hst ⟨hl, hd⟩ => by
      have he := run_endLoop (P := P) hl (by rw [hR]; exact hst)
      exact ⟨_, by rw [he, hR], Turned.mark hl _, (World.putObj_heap_other (by omega)).trans hd⟩
    rintro e W2 ⟨⟨v, rfl⟩, (⟨hi, hbk⟩ | ⟨pre, _, c, hi, hbk⟩)⟩
    · obtain ⟨W3, he, ⟨⟨r, hr⟩, r', rfl⟩, hd⟩ := off .ready none W2 (by simp) hbk
      exact ⟨none, _, he, hdone _ _ (Nat.le_refl _) (hI.putObj _ hi (by omega) hr rfl) hd⟩
    · obtain ⟨W3, he, ⟨⟨r, hr⟩, r', rfl⟩, hd⟩ := off .done (some c) W2 (by simp) hbk
      exact ⟨some c, _, he, hstop _ c _ (Nat.le_refl _) ((hIx c).putObj (s := ()) _ hi (by omega) hr rfl) hd⟩
end Go.Proofs.YtefhpbcdjgllnaaGreat

/- Part: A range over a function whose iterator owns blocks of its own, which it lays and turns: the law of the statement, out of the library's wpIn_rangeFunc. -/
namespace Go.Proofs.YtefhpbcdjgllnaaGreat
open Go.RowKit

/-- What stands on whatever becomes of the blocks from B on. -/
def LetsB {β : Type} (B : Nat) (J : β → World → Prop) : Prop := ∀ s W W', J s W → Below B W W' → J s W'
/-- Whatever isn't a loop's record stays. -/
structure KeepL (W W' : World) : Prop where
  os : W'.os = W.os
  tape : W'.tape = W.tape
  output : W'.output = W.output
  size : W.heap.size ≤ W'.heap.size
  block : ∀ q, q < W.heap.size → (¬ ∃ r, W.heap[q]? = some (.loop r)) → W'.heap[q]? = W.heap[q]?
theorem KeepL.trans {A B C : World} (h : KeepL A B) (k : KeepL B C) : KeepL A C :=
  ⟨k.os.trans h.os, k.tape.trans h.tape, k.output.trans h.output, Nat.le_trans h.size k.size, fun q hq hn => (k.block q (Nat.lt_of_lt_of_le hq h.size) (by rw [h.block q hq hn]; exact hn)).trans (h.block q hq hn)⟩
theorem KeepL.of_turned {l : Nat} {W W' : World} (h : Turned l W W') : KeepL W W' := by
  obtain ⟨⟨r, hr⟩, r', rfl⟩ := h
  exact ⟨rfl, rfl, rfl, by simp [World.putObj], fun q _ hn => World.putObj_heap_other (fun e => hn ⟨r, e ▸ hr⟩)⟩
theorem KeepL.of_below {W W' : World} (h : Below W.heap.size W W') : KeepL W W' := ⟨h.os, h.tape, h.output, h.size, fun q hq _ => h.block q hq⟩
theorem KeepL.cell {W W' : World} (h : KeepL W W') {p : Addr} {v : Value} (hc : W.cell? p = some v) : W'.cell? p = some v := by
  have hlt := World.block_lt_of_cell? W p hc
  have hb := h.block p.block hlt (by
    rintro ⟨r, hr⟩
    rw [World.cell?, hr] at hc
    cases hc)
  rw [← hc]
  exact World.cell?_of_block (w := W) hb

/-- The word of an iterator that owns what it lays and yields ls, in whatever world of which Z holds. -/
def SeqOwns {α : Type} (F : Fence) (n : Nat) (P : Program) (g : Nat) (lb : Array Value) (encs : α → Array Value) (Kp : World → World → Prop) (ls : List α) (Z : World → Prop) : Prop :=
  ∀ (l : Nat) (J Jx : List α → World → Prop) (W : World), Z W → LetsB W.heap.size J →
    (∀ pre x W1, J pre W1 → (pre ++ [x]) <+: ls → YieldAt F (n - 1) P l (encs x) W1 fun e W' =>
      (e = .returned (.bool true) ∧ J (pre ++ [x]) W' ∧ Kp W1 W') ∨ (e = .returned (.bool false) ∧ Jx (pre ++ [x]) W')) →
    J [] W →
    CallsIn F n P g (#[.func (.yield l) #[] #[]] ++ lb) W fun e W' => (∃ v, e = .returned v) ∧ (J ls W' ∨ (∃ pre, pre <+: ls ∧ Jx pre W'))

theorem cell_putObj {w : World} {D : Nat} {p : Addr} (o : Obj) (h : p.block ≠ D) : (w.putObj D o).cell? p = w.cell? p := World.cell?_of_block (w := w) (World.putObj_heap_other h)
theorem below_putObj {B D : Nat} (w : World) (o : Obj) (h : B ≤ D) : Below B w (w.putObj D o) := ⟨rfl, rfl, rfl, by simp, fun k hk => World.putObj_heap_other (by omega)⟩

variable {F : Fence} {n : Nat} {P : Program}

theorem range_owns {α : Type} {g : Operand} {ps : Array Tmp} {assign body : Code} {Q : Exit → Act → World → Prop} {a : Act} {w : World}
    (hro : F.round = none) (h1 : 1 ≤ n) {gf : Nat} {lb : Array Value} (hg : a.eval g = .func (.func gf) #[] lb) (hFg : F.fn gf) (eg : ∀ args w, (callFunc gf args).run P w = .ok (.enter gf args) w)
    {encs : α → Array Value} {Kp : World → World → Prop} {ls : List α} {Z : World → Prop} (hseq : SeqOwns F (n - 1) P gf lb encs Kp ls Z)
    (hKt : ∀ {A B C : World}, Kp A B → Kp B C → Kp A C) (hKb : ∀ (l : Nat) (W W' : World), w.heap.size ≤ l → Turned l W W' → Kp W W') (hZ : ∀ W1, Below w.heap.size w W1 → Z W1) (hps : ∀ x, (encs x).size = ps.size)
    (I : List α → World → Prop) (Ix : Code → World → Prop) (hI : OwnFrom w.heap.size I) (hIb : LetsB w.heap.size I) (hIx : ∀ c, OwnFrom w.heap.size (fun (_ : Unit) W => Ix c W)) (h0 : I [] w)
    (hround : ∀ (l : Nat) (pre : List α) (x : α) (W : World), w.heap.size ≤ l → I pre W → (pre ++ [x]) <+: ls →
      assign.wpIn (F.inRound l) (n - 1 - 1) P (Exit.then (fun a' W' => KeepsFrom w.heap.size W W' ∧ Kp W W' ∧ I pre W' ∧
          ∀ W2, Turned l W' W2 → I pre W2 → body.wpIn (F.inRound l) (n - 1 - 1) P (ownPostG w.heap.size Kp (fun _ => I (pre ++ [x])) (fun c _ => Ix c) ([] : List Unit) W2) a' W2) (fun _ _ _ => False))
        { tmps := (ps.zip (encs x)).foldl (fun t (p, v) => t.setIfInBounds p v) a.tmps, defers := [] } W)
    (hdone : ∀ (D : Nat) (W : World), w.heap.size ≤ D → I ls W → W.heap[D]? = some (.deferred (some [])) → Q .normal { a with defers := { target := .collected D, args := #[] } :: a.defers } W)
    (hstop : ∀ (D : Nat) (c : Code) (W : World), w.heap.size ≤ D → Ix c W → W.heap[D]? = some (.deferred (some [])) → c.wpIn F n P Q { a with defers := { target := .collected D, args := #[] } :: a.defers } W) :
    (Code.rangeFunc g ps assign body).wpIn F n P Q a w := by
  refine wpIn_rangeFunc fun fn hfn => ?_
  rw [hro]
  -- the record of this loop, in its states
  obtain ⟨R, hR⟩ : ∃ R : LoopState → Option Code → Loop, R = fun st pe => { state := st, pending := pe, fn, tmps := a.tmps, params := ps, assign, body, defers := w.heap.size } := ⟨_, rfl⟩
  have hsz : (w.alloc (.deferred (some []))).heap.size = w.heap.size + 1 := World.size_alloc _ _
  obtain ⟨V, hV⟩ : ∃ V, (w.alloc (.deferred (some []))).alloc (.loop (R .ready none)) = V := ⟨_, rfl⟩
  have vL : V.heap[w.heap.size + 1]? = some (.loop (R .ready none)) := by
    rw [← hV, ← hsz]; exact World.alloc_heap_new _ _
  have vD : V.heap[w.heap.size]? = some (.deferred (some [])) := by
    rw [← hV, Below.heap_alloc _ _ _ (by omega)]; exact World.alloc_heap_new w _
  have vB : Below w.heap.size w V := by
    rw [← hV]; exact ((Below.refl _ w).alloc (Nat.le_refl _) _).alloc (by omega) _
  have vI : I [] V := by rw [← hV]; exact hI.alloc _ (hI.alloc _ h0)
  -- the bookkeeping beside an invariant
  let Book : LoopState → Option Code → World → Prop := fun st pe W => W.heap[w.heap.size + 1]? = some (.loop (R st pe)) ∧ W.heap[w.heap.size]? = some (.deferred (some []))
  refine ⟨w.heap.size + 1, [{ target := .collected w.heap.size, args := #[] }], V, { target := .fn (.func gf) lb, args := #[.func (.yield (w.heap.size + 1)) #[] #[]] }, V, gf, #[.func (.yield (w.heap.size + 1)) #[] #[]] ++ lb, V, ?_, ?_, ?_, ?_, fun _ => h1, ?_⟩
  · rw [← hV, hR]; exact run_enterLoop_outer _ _ _ _ _
  · simp only [resolve, hg]; simp [go_sem]
  · intro f' hf'; simp [Target.leads] at hf'; subst hf'; exact hFg
  · simp [invoke, go_sem, eg]
  refine (hseq (w.heap.size + 1) (fun pre W => I pre W ∧ Book .ready none W) (fun _ W => ∃ c, Ix c W ∧ Book .done (some c) W) V (hZ V vB) ?_ ?_ ⟨vI, vL, vD⟩).mono ?_
  · rintro s A B ⟨hi, hl, hd⟩ hg'
    have hVs : w.heap.size + 1 < V.heap.size := (Array.getElem?_eq_some_iff.1 vL).1
    exact ⟨hIb s A B hi (hg'.mono (by omega)), (hg'.block _ hVs).trans hl, (hg'.block _ (by omega)).trans hd⟩
  · rintro pre x W ⟨hi, hl, hd⟩ hpre
    have hy := run_yield (P := P) (args := encs x) hl (by rw [hR]; exact hps x)
    rw [hR] at hy
    refine ⟨fn, _, assign, body, hy, roundIn_of_wpIn hfn (wpIn_mono (hround (w.heap.size + 1) pre x W (by omega) hi hpre) ?_)⟩
    rintro e a' Wa hq
    cases e with
    | normal =>
      obtain ⟨hkf, hkp, hia, hbody⟩ := hq
      replace hl := hkf.same _ _ (by omega) hl rfl
      replace hd := hkf.same _ _ (Nat.le_refl _) hd rfl
      have hlt := (Array.getElem?_eq_some_iff.1 hl).1
      refine ⟨_, run_beginRound hl (by rw [hR]), ?_⟩
      obtain ⟨rb, hrb⟩ : ∃ rb : Loop, rb = { R .ready none with state := .busy } := ⟨_, rfl⟩
      rw [← hrb]
      have hT := Turned.mark hl rb
      have hl2 : (Wa.putObj (w.heap.size + 1) (.loop rb)).heap[w.heap.size + 1]? = some (.loop rb) := World.putObj_heap_same hlt
      have hd2 : (Wa.putObj (w.heap.size + 1) (.loop rb)).heap[w.heap.size]? = some (.deferred (some [])) := (World.putObj_heap_other (by omega)).trans hd
      have hkp2 := hKt hkp (hKb _ _ _ (by omega) hT)
      refine wpIn_mono (hbody _ hT (hI.putObj _ hia (by omega) hl rfl)) ?_
      -- the round's end, whichever way
      have fin : ∀ (j : Option Code) (W3 : World), KeepsFrom w.heap.size (Wa.putObj (w.heap.size + 1) (.loop rb)) W3 →
          ∃ W4, (Instr.endRound (w.heap.size + 1) j).run P W3 = .ok (.bool j.isNone) W4 ∧ Turned (w.heap.size + 1) W3 W4 ∧ Book (if j.isNone then .ready else .done) j W4 := fun j W3 hk3 => by
        have hl3 := hk3.same _ _ (by omega) hl2 rfl
        have hd3 := hk3.same _ _ (Nat.le_refl _) hd2 rfl
        have hend := run_endRound (P := P) j hl3
        refine ⟨_, hend, Turned.mark hl3 _, ?_, (World.putObj_heap_other (by omega)).trans hd3⟩
        rw [World.putObj_heap_same (Array.getElem?_eq_some_iff.1 hl3).1, hrb, hR]
      have own : ∀ {W3 W4 : World} (_ : Turned (w.heap.size + 1) W3 W4) {I' : Unit → World → Prop} (_ : OwnFrom w.heap.size I') (_ : I' () W3), I' () W4 := by
        rintro W3 W4 ⟨⟨r, hr⟩, r', rfl⟩ I' hI' hi'
        exact hI'.putObj _ hi' (by omega) hr rfl
      have ownI : ∀ {W3 W4 : World} (_ : Turned (w.heap.size + 1) W3 W4) (s : List α) (_ : I s W3), I s W4 := by
        rintro W3 W4 ⟨⟨r, hr⟩, r', rfl⟩ s hi'
        exact hI.putObj _ hi' (by omega) hr rfl
      rintro e a3 W3 hp
      cases e with
      | normal =>
        obtain ⟨hk3, hkp3, hi3⟩ := hp
        obtain ⟨W4, he, ht, hbk⟩ := fin none W3 hk3
        exact ⟨_, W4, he, .inl ⟨rfl, ⟨ownI ht _ hi3, hbk⟩, hKt hkp2 (hKt hkp3 (hKb _ _ _ (by omega) ht))⟩⟩
      | ret =>
        obtain ⟨hk3, hi3⟩ := hp
        obtain ⟨W4, he, ht, hbk⟩ := fin (some .ret) W3 hk3
        exact ⟨_, W4, he, .inr ⟨rfl, _, own ht (hIx _) hi3, hbk⟩⟩
      | exit id =>
        obtain ⟨hk3, hi3⟩ := hp
        obtain ⟨W4, he, ht, hbk⟩ := fin (some (.exit id)) W3 hk3
        exact ⟨_, W4, he, .inr ⟨rfl, _, own ht (hIx _) hi3, hbk⟩⟩
      | goto t =>
        obtain ⟨hk3, hi3⟩ := hp
        obtain ⟨W4, he, ht, hbk⟩ := fin (some (.goto t)) W3 hk3
        exact ⟨_, W4, he, .inr ⟨rfl, _, own ht (hIx _) hi3, hbk⟩⟩
      | panic ch => exact hp.elim
      | outgrown => exact hp.elim
    | exit id => exact hq.elim
    | goto t => exact hq.elim
    | ret => exact hq.elim
    | panic ch => exact hq.elim
    | outgrown => exact hq.elim
  · have off : ∀ (st : LoopState) (pe : Option Code) (W2 : World), st ≠ .busy → Book st pe W2 → ∃ W3, (Instr.endLoop (w.heap.size + 1)).run P W2 = .ok pe W3 ∧ Turned (w.heap.size + 1) W2 W3 ∧ W3.heap[w.heap.size]? = some (.deferred (some [])) := fun st pe W2 hst ⟨hl, hd⟩ => by
      have he := run_endLoop (P := P) hl (by rw [hR]; exact hst)
      exact ⟨_, by rw [he, hR], Turned.mark hl _, (World.putObj_heap_other (by omega)).trans hd⟩
    rintro e W2 ⟨⟨v, rfl⟩, (⟨hi, hbk⟩ | ⟨pre, _, c, hi, hbk⟩)⟩
    · obtain ⟨W3, he, ⟨⟨r, hr⟩, r', rfl⟩, hd⟩ := off .ready none W2 (by simp) hbk
      exact ⟨none, _, he, hdone _ _ (Nat.le_refl _) (hI.putObj _ hi (by omega) hr rfl) hd⟩
    · obtain ⟨W3, he, ⟨⟨r, hr⟩, r', rfl⟩, hd⟩ := off .done (some c) W2 (by simp) hbk
      exact ⟨some c, _, he, hstop _ c _ (Nat.le_refl _) ((hIx c).putObj (s := ()) _ hi (by omega) hr rfl) hd⟩
end Go.Proofs.YtefhpbcdjgllnaaGreat

/- Part: impl.hadBy's iterator: what a key had, in order. -/
namespace Go.Proofs.YtefhpbcdjgllnaaGreat
open Go.RowKit
attribute [local go_sem] Oper.semAt_some
attribute [local go_sem ↓] Go.wp_at_zero Go.wp_at_succ

/-- The i-th commit lies there, and is yielded as A. -/
def ComAt (W : World) (lo : Option Addr) (Lg : List KD) (i : Nat) (A : Array Value) : Prop :=
  ∃ (b o : Nat) (a0 a1 a2 : Int) (uo : Option Addr) (uc : Nat) (l : List (Int × Int)), lo = some ⟨b, o, none⟩ ∧ Lg.getD i kd0 = ([a0, a1, a2], l) ∧
    W.cell? ⟨b, o + i * 4, none⟩ = some (.int .i64 a0) ∧ W.cell? ⟨b, o + i * 4 + 1, none⟩ = some (.int .i64 a1) ∧ W.cell? ⟨b, o + i * 4 + 2, none⟩ = some (.int .i64 a2) ∧ W.cell? ⟨b, o + i * 4 + 3, none⟩ = some (.slice uo l.length uc) ∧
    A = #[.agg #[.int .i64 a0, .int .i64 a1, .int .i64 a2, .slice uo l.length uc]]
theorem ComAt.keep {W W' : World} {lo : Option Addr} {Lg : List KD} {i : Nat} {A : Array Value} (h : ComAt W lo Lg i A) (hk : ∀ p v, W.cell? p = some v → W'.cell? p = some v) : ComAt W' lo Lg i A := by
  obtain ⟨b, o, a0, a1, a2, uo, uc, l, h0, h1, c0, c1, c2, c3, h9⟩ := h
  exact ⟨b, o, a0, a1, a2, uo, uc, l, h0, h1, hk _ _ c0, hk _ _ c1, hk _ _ c2, hk _ _ c3, h9⟩
theorem yield_boolH {e : Ending} {A B : Prop} (h : (e = .returned (.bool true) ∧ A) ∨ (e = .returned (.bool false) ∧ B)) : ∃ bb : Bool, e = .returned (.bool bb) ∧ ((bb = true ∧ A) ∨ (bb = false ∧ B)) := by
  rcases h with ⟨h1, h2⟩ | ⟨h1, h2⟩
  · exact ⟨true, h1, .inl ⟨rfl, h2⟩⟩
  · exact ⟨false, h1, .inr ⟨rfl, h2⟩⟩
set_option maxRecDepth 100000 in
set_option maxHeartbeats 4000000 in
theorem hadBy1_owns (n : Nat) (hn : 1 ≤ n) (Bk Bl lc : Nat) (lo : Option Addr) (Lg : List KD) (hL : Lg.length ≤ 9223372036854775807) (k : Int) (enc : Nat → Array Value) :
    SeqOwns Fence.wide n Tryz.prog 97 #[.pointer (some ⟨Bk, 0, none⟩), .pointer (some ⟨Bl, 0, none⟩)] enc KeepL (hadL Lg k Lg.length)
      (fun W => W.cell? ⟨Bk, 0, none⟩ = some (.int .i64 k) ∧ W.cell? ⟨Bl, 0, none⟩ = some (.slice lo Lg.length lc) ∧ enc 0 = #[.agg #[.int .i64 k, .int .i64 0, .int .i64 0, .slice none 0 0]] ∧ ∀ i, i < Lg.length → ComAt W lo Lg i (enc (i + 1))) := by
  intro l0 J Jx W hZ hJ hY h0
  obtain ⟨yk, yl, he0, hE⟩ := hZ
  have HYK := hid yk
  have HYL := hid yl
  have HY := hid hY
  have HE := hid hE
  clear hY hE
  refine callsIn_of_wp Tryz.func97 rfl trivial ?_ rfl
  simp only [Tryz.ntmps97, List.size_toArray, List.length_cons, List.length_nil, Nat.reduceAdd, Nat.reduceSub, Array.replicate_succ, Array.replicate_zero, List.push_toArray, List.append_toArray, List.nil_append, List.cons_append]
  have hp0 : ([] : List Nat) ++ [0] <+: hadL Lg k Lg.length := hadL_upto (m := 0) (by omega)
  obtain ⟨fn, tmps, assign, body, hy, hR⟩ := HY.out [] 0 W h0 hp0
  rw [he0] at hy
  have HP0 := hid hp0
  clear hp0
  gi_wp2
  refine hR.mono ?_
  rintro e W3 (⟨rfl, hJ3, hk3⟩ | ⟨rfl, hJx3⟩)
  case inr =>
    gi_wp2
    refine bodyPost_ret (results_none rfl _ _ _) rfl ?_
    exact ⟨⟨_, rfl⟩, .inr ⟨_, HP0.out, hJx3⟩⟩
  have xk := hk3.cell yk
  have xl := hk3.cell yl
  have HK3 := hid hk3
  have HJ3 := hid hJ3
  clear hy hR hJ3 hk3 yk yl
  gi_wp2
  gi_loopw [13] (fun i wr => ∃ m : Nat, m ≤ Lg.length ∧ i = .int .i64 m ∧ Hid (J (hadL Lg k m) wr) ∧ Hid (KeepL W wr)) (fun i _ => Lg.length - (intOf i).toNat)
  case atStart => exact ⟨0, Nat.zero_le _, rfl, hid HJ3.out, hid HK3.out⟩
  case round =>
    obtain ⟨m, hm, rfl, hJs, hkp⟩ := hrel
    obtain ⟨w50, hw50⟩ : ∃ y, y = wr := ⟨_, rfl⟩
    subst hw50
    by_cases hlt : m < Lg.length
    · obtain ⟨b, o, a0, a1, a2, uo, uc, l, rfl, hx, c0, c1, c2, c3, henc⟩ := (HE.out m hlt).keep (fun p v hc => hkp.out.cell hc)
      have hki : (m : Int) < (Lg.length : Int) := by omega
      have hWr : W.heap.size ≤ w50.heap.size := hkp.out.size
      have bA : Below w50.heap.size w50 (w50.alloc (.cells #[.int .i64 a0, .int .i64 a1, .int .i64 a2, .slice uo l.length uc] 64)) := (Below.refl _ w50).alloc (Nat.le_refl _) _
      have HJA := hid (hJ _ _ _ hJs.out (bA.mono hWr))
      have HKA := hid (hkp.out.trans (KeepL.of_below bA))
      have HENC := hid henc
      have hkey : keyK (Lg.getD m kd0) = a0 := by rw [hx]; rfl
      have HKEY := hid hkey
      have y1 := hkp.out.cell HYK.out
      have HLT := hid hlt
      clear henc hx hJs hkp hkey
      have y2 := HKA.out.cell HYK.out
      by_cases hk : a0 = k
      · have g1 : (a0 == k) = true := by simpa using hk
        have hb : (keyK (Lg.getD m kd0) == k) = true := by rw [HKEY.out]; exact g1
        have hp : hadL Lg k m ++ [m + 1] <+: hadL Lg k Lg.length := by rw [← hadL_more hb]; exact hadL_upto (by have := HLT.out; omega)
        obtain ⟨fn, tmps, assign, body, hy, hR⟩ := HY.out _ (m + 1) (w50.alloc (.cells #[.int .i64 a0, .int .i64 a1, .int .i64 a2, .slice uo l.length uc] 64)) HJA.out hp
        rw [HENC.out] at hy
        have HP := hid hp
        have HB := hid hb
        have HK := hid hk
        clear hk hp hb
        gi_wp2
        refine hR.mono ?_
        rintro e W4 (⟨rfl, hJ4, hk4⟩ | ⟨rfl, hJx4⟩)
        · rw [← hadL_more HB.out] at hJ4
          have HJ4 := hid hJ4
          have HK4 := hid (HKA.out.trans hk4)
          clear hy hR hJ4 hk4
          gi_wp2
          go_roundw
          case rel => exact ⟨m + 1, by have := HLT.out; omega, by go_num, HJ4, HK4⟩
          case measure =>
            have := HLT.out
            simp [intOf]
            omega
        · gi_wp2
          refine bodyPost_ret (results_none rfl _ _ _) rfl ?_
          exact ⟨⟨_, rfl⟩, .inr ⟨_, HP.out, hJx4⟩⟩
      · have g1 : (a0 == k) = false := by simpa using hk
        have hb : (keyK (Lg.getD m kd0) == k) = false := by rw [HKEY.out]; exact g1
        have HJ4 : Hid (J (hadL Lg k (m + 1)) (w50.alloc (.cells #[.int .i64 a0, .int .i64 a1, .int .i64 a2, .slice uo l.length uc] 64))) := hid (by rw [hadL_skip hb]; exact HJA.out)
        have HK := hid hk
        clear hk hb
        gi_wp2
        refine ⟨fun f h => (by cases h), ?_⟩
        gi_wp2
        go_roundw
        case rel => exact ⟨m + 1, by have := HLT.out; omega, by go_num, HJ4, HKA⟩
        case measure =>
          have := HLT.out
          simp [intOf]
          omega
    · obtain rfl : m = Lg.length := by omega
      gi_wp2
      go_end0
      exact ⟨⟨_, rfl⟩, .inl hJs.out⟩
end Go.Proofs.YtefhpbcdjgllnaaGreat

/- Part: impl.hadBy, impl.wasSo: contracts. -/
namespace Go.Proofs.YtefhpbcdjgllnaaGreat
open Go.RowKit Go.Shelf
attribute [local go_sem] Oper.semAt_some
attribute [local go_sem ↓] Go.wp_at_zero Go.wp_at_succ

theorem hadBy_any (lo : Option Addr) (n lc : Nat) (k : Int) (w : World) :
    Calls Tryz.prog 63 #[.slice lo n lc, .int .i64 k] w fun e W' => e = .returned (.func (.func 97) #[] #[.pointer (some ⟨w.heap.size + 1, 0, none⟩), .pointer (some ⟨w.heap.size, 0, none⟩)]) ∧ W' = (w.alloc (.cells #[.slice lo n lc] 41)).alloc (.cells #[.int .i64 k] 3) := by
  go_enter Tryz.func63, Tryz.ntmps63
  go_wp2
  go_ret
  exact ⟨by simp, rfl⟩
/-- What is yielded, and how it reads. -/
def EncH (W : World) (Lg : List KD) (k : Int) (x : Nat) (A : Array Value) : Prop :=
  ∃ (a0 a1 a2 : Int) (uo : Option Addr) (uc : Nat) (l : List (Int × Int)), A = #[.agg #[.int .i64 a0, .int .i64 a1, .int .i64 a2, .slice uo l.length uc]] ∧ hadE Lg k x = ([a0, a1, a2], l) ∧ Rd W (.slice uo l.length uc) l
theorem encH_of {W : World} {v : Value} {Lg : List KD} (h : RdM 4 3 true W v Lg) (k : Int) : ∃ (ao : Option Addr) (cap : Nat) (enc : Nat → Array Value), v = .slice ao Lg.length cap ∧ Lg.length ≤ maxLen ∧ enc 0 = #[.agg #[.int .i64 k, .int .i64 0, .int .i64 0, .slice none 0 0]] ∧
    (∀ i, i < Lg.length → ComAt W ao Lg i (enc (i + 1))) ∧ (∀ i, (enc i).size = 1) ∧ ∀ x, x < Lg.length + 1 → EncH W Lg k x (enc x) := by
  obtain ⟨ao, cap, rfl, hml, hc⟩ := h
  have each : ∀ i, ∃ A : Array Value, (i < Lg.length → ComAt W ao Lg i A ∧ EncH W Lg k (i + 1) A) ∧ A.size = 1 := fun i => by
    by_cases hi : i < Lg.length
    · obtain ⟨b, o, ha, hlt, hcc⟩ := hc (by omega)
      obtain ⟨a0, a1, a2, l, u, hx, c0, c1, c2, c3, hu⟩ := atK_3k (hcc i hi)
      obtain ⟨uo, uc, rfl, _⟩ := id hu
      exact ⟨#[.agg #[.int .i64 a0, .int .i64 a1, .int .i64 a2, .slice uo l.length uc]], fun _ => ⟨⟨b, o, a0, a1, a2, uo, uc, l, ha, hx, c0, c1, c2, c3, rfl⟩, ⟨a0, a1, a2, uo, uc, l, rfl, hx, hu⟩⟩, rfl⟩
    · exact ⟨#[.bool false], fun h => absurd h hi, rfl⟩
  refine ⟨ao, cap, fun x => match x with | 0 => #[.agg #[.int .i64 k, .int .i64 0, .int .i64 0, .slice none 0 0]] | i + 1 => (each i).choose, rfl, hml, rfl, fun i hi => ((each i).choose_spec.1 hi).1, fun i => ?_, fun x hx => ?_⟩
  · cases i with
    | zero => rfl
    | succ i => exact (each i).choose_spec.2
  · cases x with
    | zero => exact ⟨k, 0, 0, none, 0, [], rfl, rfl, Rd.nil _ none 0⟩
    | succ i => exact ((each i).choose_spec.1 (by omega)).2
theorem grown_below {W W' : World} (h : Below W.heap.size W W') : W.grownBy W' none := ⟨h.os, h.tape, h.output, h.size, fun k hk _ => h.block k hk⟩
/-- Cells that lie there. -/
def Sat (W : World) (B : Nat) (A : Array Value) (t : TypeId) : Prop := W.heap[B]? = some (.cells A t (0, 0))
theorem Sat.lt {W : World} {B : Nat} {A : Array Value} {t : TypeId} (h : Sat W B A t) : B < W.heap.size := (Array.getElem?_eq_some_iff.1 h).1
theorem Sat.kept {W W' : World} {row : Option Nat} {B : Nat} {A : Array Value} {t : TypeId} (h : Sat W B A t) (hg : W.grownBy W' row) (hne : some B ≠ row) : Sat W' B A t := (hg.block B h.lt hne).trans h
theorem Sat.later {W W' : World} {B : Nat} {A : Array Value} {t : TypeId} (h : Sat W B A t) (hb : Below W.heap.size W W') : Sat W' B A t := (hb.block _ h.lt).trans h
theorem sat_from (B0 B : Nat) (A : Array Value) (t : TypeId) : OwnFrom B0 (fun (_ : Unit) W => Sat W B A t) := fun _ X Y row hs hg hrow =>
  hs.kept hg (fun e' => by obtain ⟨o, ho, hc⟩ := (hrow B e'.symm).2; rw [show X.heap[B]? = _ from hs] at ho; cases ho; cases hc)
theorem box_from (B0 B : Nat) (t : TypeId) (v : Value) : OwnFrom B0 (fun (_ : Unit) W => Boxed W B t v) := (boxed_own (β := Unit) B t (fun _ => v)).from B0
/-- None of what came has the Ver. -/
def WasI (w : World) (rb ib : Nat) (IA : Array Value) (Lg : List KD) (k p1 : Int) (pre : List Nat) (W : World) : Prop :=
  (∀ y ∈ pre, verK (hadE Lg k y) ≠ p1) ∧ Boxed W rb 4 (.bool false) ∧ Sat W ib IA 49 ∧ Below w.heap.size w W
/-- One has it. -/
def WasX (w : World) (rb : Nat) (r : Bool) (c : Code) (W : World) : Prop := c = .ret ∧ Boxed W rb 4 (.bool r) ∧ Below w.heap.size w W
theorem wasI_own (w : World) (rb ib : Nat) (IA : Array Value) (Lg : List KD) (k p1 : Int) (B0 : Nat) (hB : w.heap.size ≤ B0) : OwnFrom B0 (WasI w rb ib IA Lg k p1) := by
  rintro pre A A' row ⟨h0, h1, h2, hb⟩ hg hr
  exact ⟨h0, box_from B0 _ _ _ () A A' row h1 hg hr, sat_from B0 _ _ _ () A A' row h2 hg hr, hb.grown hg hb.size (fun k e => by have := (hr k e).1; omega)⟩
theorem wasX_own (w : World) (rb : Nat) (r : Bool) (c : Code) (B0 : Nat) (hB : w.heap.size ≤ B0) : OwnFrom B0 (fun (_ : Unit) W => WasX w rb r c W) := by
  rintro _ A A' row ⟨hc, h1, hb⟩ hg hr
  exact ⟨hc, box_from B0 _ _ _ () A A' row h1 hg hr, hb.grown hg hb.size (fun k e => by have := (hr k e).1; omega)⟩
theorem wasI_lets (w : World) (rb ib : Nat) (IA : Array Value) (Lg : List KD) (k p1 : Int) (B : Nat) (hB : w.heap.size ≤ B) (h1 : rb < B) (h2 : ib < B) : LetsB B (WasI w rb ib IA Lg k p1) := by
  rintro pre A A' ⟨h0, hx, hy, hb⟩ hg
  exact ⟨h0, (hg.block _ h1).trans hx, (hg.block _ h2).trans hy, hb.trans (hg.mono (by omega))⟩

set_option maxRecDepth 100000 in
set_option maxHeartbeats 4000000 in
theorem wasSo_any (v u : Value) (Lg : List KD) (k p1 n : Int) (l : List (Int × Int)) (w : World) (h : RdM 4 3 true w v Lg) (hu : Rd w u l) :
    Calls Tryz.prog 31 #[v, .agg #[.int .i64 k, .int .i64 p1, .int .i64 n, u]] w fun e w' => e = .returned (.bool (wasB Lg k p1 n l)) ∧ Below w.heap.size w w' := by
  have HU := hid hu
  obtain ⟨uo, uc, rfl, _⟩ := hu
  obtain ⟨ao, cap, enc, rfl, hml, he0, hE, hsz, hX⟩ := encH_of h k
  unfold maxLen at hml
  have HE0 := hid he0
  have HE := hid hE
  have HEX := hid hX
  clear h he0 hE hX
  refine (callsIn_wide (n := 3)).1 ?_
  refine callsIn_of_wp_marks Tryz.func31 rfl trivial ?_ rfl
  simp only [Tryz.ntmps31, List.size_toArray, List.length_cons, List.length_nil, Nat.reduceAdd, Nat.reduceSub, Array.replicate_succ, Array.replicate_zero, List.push_toArray, List.append_toArray, List.nil_append, List.cons_append]
  gi_wp2_with fail
  obtain ⟨IA, hIA⟩ : ∃ IA : Array Value, IA = #[.int .i64 k, .int .i64 p1, .int .i64 n, .slice uo l.length uc] := ⟨_, rfl⟩
  have hb0 : Below w.heap.size w ((w.alloc (.cells #[.int .i64 k, .int .i64 p1, .int .i64 n, .slice uo l.length uc] 49)).alloc (.cells #[.bool false] 4)) := ((Below.refl _ w).alloc (Nat.le_refl _) _).alloc (by simp) _
  have hz0 : ((w.alloc (.cells #[.int .i64 k, .int .i64 p1, .int .i64 n, .slice uo l.length uc] 49)).alloc (.cells #[.bool false] 4)).heap.size = w.heap.size + 2 := by simp
  have hx0 : Boxed ((w.alloc (.cells #[.int .i64 k, .int .i64 p1, .int .i64 n, .slice uo l.length uc] 49)).alloc (.cells #[.bool false] 4)) (w.heap.size + 1) 4 (.bool false) := by
    have := Boxed.new (w.alloc (.cells #[.int .i64 k, .int .i64 p1, .int .i64 n, .slice uo l.length uc] 49)) 4 (.bool false)
    rwa [World.size_alloc] at this
  have hs0 : Sat ((w.alloc (.cells #[.int .i64 k, .int .i64 p1, .int .i64 n, .slice uo l.length uc] 49)).alloc (.cells #[.bool false] 4)) w.heap.size IA 49 := by
    rw [hIA]
    exact Sat.later (World.alloc_heap_new w _) ((Below.refl _ _).alloc (Nat.le_refl _) _)
  generalize (w.alloc (.cells #[.int .i64 k, .int .i64 p1, .int .i64 n, .slice uo l.length uc] 49)).alloc (.cells #[.bool false] 4) = W0 at hb0 hx0 hz0 hs0 ⊢
  refine ⟨trivial, (callsIn_wide.2 (hadBy_any ao Lg.length cap k W0)).mono ?_⟩
  rintro e W1 ⟨rfl, hW1⟩
  rw [hz0]
  have b01 : Below W0.heap.size W0 W1 := by rw [hW1]; exact ((Below.refl _ W0).alloc (Nat.le_refl _) _).alloc (by simp) _
  have hx1 : Boxed W1 (w.heap.size + 1) 4 (.bool false) := (b01.block _ hx0.lt).trans hx0
  have hs1 : Sat W1 w.heap.size IA 49 := hs0.later b01
  have hb1 : Below w.heap.size w W1 := hb0.trans (b01.mono hb0.size)
  have hz1 : W1.heap.size = w.heap.size + 4 := by rw [hW1]; simp [hz0]
  have hy1 : W1.cell? ⟨w.heap.size + 2, 0, none⟩ = some (.slice ao Lg.length cap) := by rw [hW1, ← hz0]; go_cell
  have hy2 : W1.cell? ⟨w.heap.size + 2 + 1, 0, none⟩ = some (.int .i64 k) := by rw [hW1, ← hz0]; go_cell
  have HZ : Hid (∀ W, Below W1.heap.size W1 W → W.cell? ⟨w.heap.size + 2 + 1, 0, none⟩ = some (.int .i64 k) ∧ W.cell? ⟨w.heap.size + 2, 0, none⟩ = some (.slice ao Lg.length cap) ∧ enc 0 = #[.agg #[.int .i64 k, .int .i64 0, .int .i64 0, .slice none 0 0]] ∧ ∀ i, i < Lg.length → ComAt W ao Lg i (enc (i + 1))) :=
    hid (fun W hb => ⟨cell_later hb hy2, cell_later hb hy1, HE0.out, fun i hi => (HE.out i hi).keep (fun p v hc => cell_later (hb1.trans (hb.mono hb1.size)) hc)⟩)
  have HX1 := hid hx1
  have HS1 := hid hs1
  have HB1 := hid hb1
  have HZ1 := hid hz1
  have HIA := hid hIA
  clear hW1 hb0 hx0 hz0 hs0 hx1 hs1 hb1 hy1 hy2 hz1 b01 hIA
  gi_wp2_with fail
  have hsz1 : W1.heap.size = w.heap.size + 4 := HZ1.out
  refine range_owns (Kp := KeepL) (ls := hadL Lg k Lg.length) (Z := fun W => W.cell? ⟨w.heap.size + 2 + 1, 0, none⟩ = some (.int .i64 k) ∧ W.cell? ⟨w.heap.size + 2, 0, none⟩ = some (.slice ao Lg.length cap) ∧ enc 0 = #[.agg #[.int .i64 k, .int .i64 0, .int .i64 0, .slice none 0 0]] ∧ ∀ i, i < Lg.length → ComAt W ao Lg i (enc (i + 1))) rfl (by omega) (gf := 97) (lb := #[.pointer (some ⟨w.heap.size + 2 + 1, 0, none⟩), .pointer (some ⟨w.heap.size + 2, 0, none⟩)]) rfl trivial
    (enters_of Tryz.func97 (by kernel_rfl) rfl) (encs := enc) (hadBy1_owns 2 (by omega) _ _ cap ao Lg (by omega) k enc) KeepL.trans (fun l W W' _ hT => KeepL.of_turned hT) (fun W hb => HZ.out W hb) (fun x => by rw [hsz x]; rfl)
    (WasI w (w.heap.size + 1) w.heap.size IA Lg k p1) (WasX w (w.heap.size + 1) (wasB Lg k p1 n l)) (wasI_own w _ _ _ _ _ _ _ (by omega)) (wasI_lets w _ _ _ _ _ _ _ (by omega) (by omega) (by omega)) (fun c => wasX_own w _ _ c _ (by omega)) ⟨fun _ h => absurd h (by simp), HX1.out, HS1.out, HB1.out⟩ ?round ?done ?stop
  case done =>
    rintro D W hD ⟨hrs, h1, h2, hb⟩ hK
    have HRS := hid (wasB_none (n := n) (l := l) hrs)
    have HB := hid hb
    have y1 := h1.cell
    have f1 := h1.frozen
    clear hrs hb h2
    gi_wp2
    have hK2 : (W.setCell ⟨w.heap.size + 1, 0, none⟩ (.bool false)).heap[D]? = some (.deferred (some [])) := by
      rw [Below.heap_setCell _ _ _ _ (by show D ≠ w.heap.size + 1; omega)]; exact hK
    have e0 : ((W.setCell ⟨w.heap.size + 1, 0, none⟩ (.bool false)).putObj D (.deferred none)).cell? ⟨w.heap.size + 1, 0, none⟩ = some (.bool false) := by
      rw [cell_putObj _ (by show w.heap.size + 1 ≠ D; omega)]; go_cell
    refine ⟨by simp, .inl ⟨_, _, rfl, run_takeDeferred hK2, ?_⟩⟩
    exact ⟨.bool false, by simp [results, Tryz.results31, go_sem, e0], by rw [HRS.out], (HB.out.setCell (p := ⟨w.heap.size + 1, 0, none⟩) (by show _ ≤ w.heap.size + 1; omega) _).trans (below_putObj _ _ (by omega))⟩
  case stop =>
    rintro D c W hD ⟨rfl, h1, hb⟩ hK
    have HB := hid hb
    have y1 := h1.cell
    clear hb
    gi_wp2
    have e0 : (W.putObj D (.deferred none)).cell? ⟨w.heap.size + 1, 0, none⟩ = some (.bool (wasB Lg k p1 n l)) := by
      rw [cell_putObj _ (by show w.heap.size + 1 ≠ D; omega)]; exact y1
    refine ⟨by simp, .inl ⟨_, _, rfl, run_takeDeferred hK, ?_⟩⟩
    exact ⟨.bool (wasB Lg k p1 n l), by simp [results, Tryz.results31, go_sem, e0], rfl, HB.out.trans (below_putObj _ _ (by omega))⟩
  case round =>
    rintro l0 pre x W hl ⟨hrs, h1, h2, hb⟩ hpre
    have hx : x < Lg.length + 1 := by
      rcases hadL_mem (hpre.subset (by simp) : x ∈ hadL Lg k Lg.length) with rfl | ⟨i, rfl, h1, _⟩
      · omega
      · omega
    obtain ⟨a0, a1, a2, xo, xc, lx, henc, hxx, hxu⟩ := HEX.out x hx
    rw [henc]
    have HXU := hid hxu
    have HYes : Hid (a1 = p1 → wasB Lg k p1 n l = eqV a2 n lx l) := hid (fun h => by
      rw [wasB_at hpre hrs (by rw [hxx]; exact h), hxx]
      simp [eqV, eqL])
    have HNo : Hid (a1 ≠ p1 → ∀ y ∈ pre ++ [x], verK (hadE Lg k y) ≠ p1) := hid (fun h y hy => by
      rcases List.mem_append.1 hy with hy | hy
      · exact hrs y hy
      · rw [List.mem_singleton.1 hy, hxx]; exact h)
    have HRS := hid hrs
    have HB := hid hb
    clear henc hxx hpre hrs hx
    gi_wp2
    refine ⟨(KeepsOthers.alloc _ _).from _, KeepL.of_below ((Below.refl _ W).alloc (Nat.le_refl _) _), ⟨HRS.out, h1.alloc _, h2.later ((Below.refl _ W).alloc (Nat.le_refl _) _), HB.out.alloc HB.out.size _⟩, ?_⟩
    rintro W2 hT ⟨_, g1, g2, gb⟩
    have t0 := hT.cell (show (W.alloc (.cells #[.int .i64 a0, .int .i64 a1, .int .i64 a2, .slice xo lx.length xc] 49)).cell? ⟨W.heap.size, 0, none⟩ = some (.int .i64 a0) by go_cell)
    have t1 := hT.cell (show (W.alloc (.cells #[.int .i64 a0, .int .i64 a1, .int .i64 a2, .slice xo lx.length xc] 49)).cell? ⟨W.heap.size, 1, none⟩ = some (.int .i64 a1) by go_cell)
    have t2 := hT.cell (show (W.alloc (.cells #[.int .i64 a0, .int .i64 a1, .int .i64 a2, .slice xo lx.length xc] 49)).cell? ⟨W.heap.size, 2, none⟩ = some (.int .i64 a2) by go_cell)
    have t3 := hT.cell (show (W.alloc (.cells #[.int .i64 a0, .int .i64 a1, .int .i64 a2, .slice xo lx.length xc] 49)).cell? ⟨W.heap.size, 3, none⟩ = some (.slice xo lx.length xc) by go_cell)
    rw [HIA.out] at g2
    have i1 : W2.cell? ⟨w.heap.size, 1, none⟩ = some (.int .i64 p1) := by simp [World.cell?, show W2.heap[w.heap.size]? = _ from g2]
    have i2 : W2.cell? ⟨w.heap.size, 2, none⟩ = some (.int .i64 n) := by simp [World.cell?, show W2.heap[w.heap.size]? = _ from g2]
    have i3 : W2.cell? ⟨w.heap.size, 3, none⟩ = some (.slice uo l.length uc) := by simp [World.cell?, show W2.heap[w.heap.size]? = _ from g2]
    have GB := hid gb
    have G2 := hid g2
    clear hT gb HB g2
    by_cases he : a1 = p1
    · have HY := hid (HYes.out he)
      have g9 : (a1 == p1) = true := by simpa using he
      have HEQ := hid he
      clear he
      gi_wp2_with fail
      refine ⟨trivial, (callsIn_wide.2 (implVSame_any a2 n _ _ lx l W2 (HXU.out.later GB.out) (HU.out.later GB.out))).mono ?_⟩
      rintro e W3 ⟨rfl, b3⟩
      have g3 := grown_below b3
      have H1 := g1.kept g3 (by simp)
      have y1 := H1.cell
      have f1 := H1.frozen
      have GB3 := hid (GB.out.trans (b3.mono GB.out.size))
      clear b3
      gi_wp2
      exact ⟨(KeepsFrom.of_grownBy (B := W1.heap.size) g3 (by simp)).trans ((KeepsOthers.setCell _ _ _).from _), rfl, by rw [HY.out]; exact H1.set _, GB3.out.setCell (p := ⟨w.heap.size + 1, 0, none⟩) (by show _ ≤ w.heap.size + 1; omega) _⟩
    · have HN := hid (HNo.out he)
      have g9 : (a1 == p1) = false := by simpa using he
      have HEQ := hid he
      clear he
      gi_wp2
      exact ⟨KeepsFrom.refl _ _, ⟨rfl, rfl, rfl, Nat.le_refl _, fun _ _ _ => rfl⟩, HN.out, g1, by rw [HIA.out]; exact G2.out, GB.out⟩
end Go.Proofs.YtefhpbcdjgllnaaGreat

/- Part: impl.writtenAnew, (*truth).toldRows: contracts. -/
namespace Go.Proofs.YtefhpbcdjgllnaaGreat
open Go.RowKit
attribute [local go_sem ↓] Go.wp_at_zero Go.wp_at_succ

theorem len2 {x : KD} (h : x.1.length = 2) : x = ([x.1.getD 0 0, x.1.getD 1 0], x.2) := by
  obtain ⟨xs, l⟩ := x
  match xs, h with
  | [a, b], _ => rfl
theorem newAt_put {Lg : List KD} {k : Nat} {key p1 nm : Int} {l : List (Int × Int)} (hx : Lg.getD k kd0 = ([key, p1, nm], l)) : putN (newAt Lg k) key ([(newAt Lg k key).1.getD 0 0 + 1, nm], l) = newAt Lg (k + 1) := by
  have hc : colK Lg k 2 = nm := by rw [colK, hx]; rfl
  rw [newAt_step, hx, hc]
  funext q
  unfold putN
  by_cases e : q = key
  · subst e
    simp [keyK]
  · have e' : ¬ key = q := fun h => e h.symm
    simp [keyK, e, e']
theorem newLog_put {Lg : List KD} {k : Nat} {key p1 nm : Int} {l : List (Int × Int)} (hx : Lg.getD k kd0 = ([key, p1, nm], l)) : newLog Lg k ++ [([key, (newAt Lg k key).1.getD 0 0 + 1, nm], l)] = newLog Lg (k + 1) := by
  rw [newLog_succ, newCom, colK, hx]
  rfl
theorem Tru.zero (w : World) (db : Nat) (sb : Nat) (o1 o2 : Obj) : Tru ((((w.alloc (.map #[] 0)).alloc o1).alloc o2).alloc (.cells #[.int .i64 0, .int .i64 0, .int .i64 0, .map (some w.heap.size), .map (some db), .slice none 0 0, .map (some sb), .slice none 0 0] 136))
    w.heap.size (w.heap.size + 1 + 1 + 1) w.heap.size 0 0 0 0 db (.slice none 0 0) sb (fun _ => ([0, 0], [])) [] (.slice none 0 0) (fun _ => .slice none 0 0) [] (fun _ => .slice none 0 0) := by
  have e : rowOf (fun _ => ([0, 0], [])) (fun _ => .slice none 0 0) = fun _ => none := by
    funext x
    unfold rowOf
    split <;> simp
  refine ⟨⟨by go_cell, by go_cell, by go_cell, by go_cell, by go_cell, by go_cell, by go_cell, by go_cell, fun o => by (first | go_cell | (simp [World.frozen?, World.alloc]; done) | rfl), by simp⟩, ?_, RowC.nil _ _ _, KinC.nil _ _ _, fun k h => absurd rfl h, fun _ _ => rfl, ⟨by simp [Value.ownBlock], by simp [Value.ownBlock]⟩, fun k h => absurd rfl h, fun i hi => absurd hi (Nat.not_lt_zero _), by omega, Nat.le_refl _, by omega⟩
  rw [e]
  exact (MapF.made IsNum w).later ((((Below.refl _ _).alloc (Nat.le_refl _) _).alloc (by simp) _).alloc (by simp) _)
set_option maxRecDepth 100000 in
set_option maxHeartbeats 4000000 in
theorem writtenAnew_any (v : Value) (Lg : List KD) (w : World) (h : RdM 4 3 true w v Lg) (hn : Lg.length ≤ 1000) (hk : ∀ i, i < Lg.length → (Lg.getD i kd0).2.length ≤ 1099511627776) :
    Calls Tryz.prog 79 #[v] w fun e w' => ∃ (K rb db sb : Nat) (lv : Value) (us : Int → Value) (xs : List Value) (ts : Nat → Value), e = .returned (.pointer (some ⟨K, 0, none⟩)) ∧ Tru w' w.heap.size K rb Lg.length 0 0 0 db (.slice none 0 0) sb (newAt Lg Lg.length) (newLog Lg Lg.length) lv us xs ts ∧ Below w.heap.size w w' := by
  obtain ⟨ao, cap, rfl, hml, hc⟩ := h
  have HC := hid hc
  have HK := hid hk
  clear hc hk
  unfold maxLen at hml
  go_enter Tryz.func79, Tryz.ntmps79
  have hmm := @run_makeMap Tryz.prog
  go_wp2
  go_loopw [13] (fun i wr => ∃ (k : Nat) (lv : Value) (us : Int → Value) (xs : List Value) (ts : Nat → Value), k ≤ Lg.length ∧ i = .int .i64 k ∧ Hid (Tru wr w.heap.size (w.heap.size + 1 + 1 + 1) w.heap.size k 0 0 0 (w.heap.size + 1) (.slice none 0 0) (w.heap.size + 1 + 1) (newAt Lg k) (newLog Lg k) lv us xs ts) ∧ Hid (Below w.heap.size w wr)) (fun i _ => Lg.length - (intOf i).toNat)
  case atStart => exact ⟨0, _, _, _, _, Nat.zero_le _, rfl, hid (Tru.zero w (w.heap.size + 1) (w.heap.size + 1 + 1) (.map #[] 0) (.map #[] 0)), hid (by go_grown)⟩
  case round =>
    obtain ⟨k, lv, us, xs, ts, hk, rfl, hT, hbel⟩ := hrel
    obtain ⟨w50, hw50⟩ : ∃ y, y = wr := ⟨_, rfl⟩
    subst hw50
    by_cases hlt : k < Lg.length
    · obtain ⟨b, o, rfl, hb, hcc⟩ := HC.out (by omega)
      obtain ⟨key, p1, nm, l, u, hx, e0, e1, e2, e3, hu⟩ := atK_3k (hcc k hlt)
      have HU := hid hu
      have HX := hid hx
      have hll := HK.out k hlt
      rw [hx] at hll
      have HLL := hid hll
      obtain ⟨uo, uc, rfl, _⟩ := hu
      have hki : (k : Int) < (Lg.length : Int) := by omega
      have x0 := (hbel.out.cell (p := ⟨b, o + k * 4, none⟩) hb).trans e0
      have x1 := (hbel.out.cell (p := ⟨b, o + k * 4 + 1, none⟩) hb).trans e1
      have x2 := (hbel.out.cell (p := ⟨b, o + k * 4 + 2, none⟩) hb).trans e2
      have x3 := (hbel.out.cell (p := ⟨b, o + k * 4 + 3, none⟩) hb).trans e3
      have c50 : Below w.heap.size w w50 := hbel.out
      have HLT := hid hlt
      clear hx hll hcc e0 e1 e2 e3 hlt hmm
      go_wp2_with fail
      generalize hW51 : (w50.alloc (.cells #[.int .i64 key, .int .i64 p1, .int .i64 nm, .slice uo l.length uc] 64)) = w51
      have m0_51 : w51.cell? ⟨w50.heap.size, 0, none⟩ = some (.int .i64 key) := by subst hW51; go_cell
      have m1_51 : w51.cell? ⟨w50.heap.size, 1, none⟩ = some (.int .i64 p1) := by subst hW51; go_cell
      have m2_51 : w51.cell? ⟨w50.heap.size, 2, none⟩ = some (.int .i64 nm) := by subst hW51; go_cell
      have m3_51 : w51.cell? ⟨w50.heap.size, 3, none⟩ = some (.slice uo l.length uc) := by subst hW51; go_cell
      have ml_51 : w50.heap.size < w51.heap.size := by subst hW51; simp
      have d51 : Below w50.heap.size w50 w51 := by subst hW51; go_grown
      clear hW51
      have c51 : Below w.heap.size w w51 := c50.trans (d51.mono c50.size)
      have H51 := hid (hT.out.later d51)
      clear x0 x1 x2 x3
      refine (commit_any w w51 w.heap.size (w.heap.size + 1 + 1 + 1) w.heap.size k 0 0 0 (w.heap.size + 1) (.slice none 0 0) (w.heap.size + 1 + 1) (newAt Lg k) (newLog Lg k) lv us xs ts key nm (.slice uo l.length uc) l H51.out HU.out HLL.out c51 (Nat.le_refl _) (by rw [newLog_length]; omega) (newAt_le Lg k key).1 (by have := (newAt_le Lg k key).2; omega)).mono ?_
      rintro e w52 ⟨rfl, ⟨lv', us', xs', ts', hT2⟩, b52⟩
      rw [newAt_put HX.out, newLog_put HX.out] at hT2
      have HT2 := hid hT2
      have HB2 := hid (c51.trans b52)
      clear hT2 b52
      go_wp2_with fail
      go_roundw
      case rel => exact ⟨k + 1, lv', us', xs', ts', by have := HLT.out; omega, by go_num, HT2, HB2⟩
      case measure =>
        have := HLT.out
        simp [intOf]
        omega
    · obtain rfl : k = Lg.length := by omega
      go_wp2
      go_ret
      exact ⟨_, _, _, _, _, _, _, _, by simp, hT.out, hbel.out⟩
set_option maxRecDepth 100000 in
set_option maxHeartbeats 4000000 in
theorem toldRows_any (w : World) (B K rb n : Nat) (p f st : Int) (db : Nat) (iv : Value) (sb : Nat) (N : Int → KD) (M : List KD) (lv : Value) (us : Int → Value) (xs : List Value) (ts : Nat → Value)
    (h : Tru w B K rb n p f st db iv sb N M lv us xs ts) (h2 : ∀ k, (N k).1.length = 2) :
    Calls Tryz.prog 83 #[.pointer (some ⟨K, 0, none⟩)] w fun e w' => (∃ v, e = .returned v ∧ RdM 3 2 true w' v ((List.range 24).map fun (k : Nat) => N (k : Int))) ∧ Below w.heap.size w w' := by
  have H := hid h
  have H2 := hid h2
  obtain ⟨i0, hi, hz0, hz1, hz2⟩ := info_parts Tryz.info86
  have hby : i0.bytes * 24 ≤ 281474976710656 := by rw [hz2]; omega
  have hKw := h.var.lt
  clear h h2
  go_enter Tryz.func83, Tryz.ntmps83
  go_wp2_with (first | (at_make; refine wpList_make_full _ rfl (.const (.int .i64 24)) (.const (.int .i64 24)) 37 rfl w.heap.size 86 i0 _ 3 Tryz.underlying37 hi hz0 hz1 .i64 .i64 _ _ 24 rfl rfl rfl rfl hby (by decide) (Nat.le_refl _) ?_; intro w1 hown hgrow; have HOW := hid hown; have HGR := hid hgrow; clear hown hgrow))
  have c1 : Below w.heap.size w w1 := (Below.refl _ w).grown HGR.out (Nat.le_refl _) (by simp)
  have HR1 := hid (RowsC.made HOW.out (W := w1) rfl (Nat.le_refl _))
  clear hi hz0 hz1 hz2 hby HOW HGR
  go_loopw [8] (fun i wr => ∃ (j : Nat) (vs : Nat → Value), j ≤ 24 ∧ i = .int .i64 j ∧ Hid (RowsC wr w.heap.size (fun k => if k < j then N (k : Int) else ([0, 0], [])) vs) ∧ Hid (∀ k, k < 24 → Rd w (vs k) (if k < j then N (k : Int) else ([0, 0], [])).2) ∧ Hid (Below w.heap.size w wr)) (fun i _ => 24 - (intOf i).toNat)
  case atStart => exact ⟨0, _, Nat.zero_le _, rfl, hid (by simpa using HR1.out), hid (fun k _ => by simpa using Rd.nil w none 0), hid c1⟩
  case round =>
    obtain ⟨j, vs, hj, rfl, hrow, hrd, hbel⟩ := hrel
    obtain ⟨w50, hw50⟩ : ∃ y, y = wr := ⟨_, rfl⟩
    subst hw50
    by_cases hlt : j < 24
    · have hT := H.out.later hbel.out
      have k3 := hT.var.c3
      have hlk := hT.lookup (j : Int)
      have hown := H.out.kinOf (j : Int)
      obtain ⟨zo, zc, hz, _⟩ := hown.rd
      have HU := hid hown.rd
      have hx := len2 (H2.out (j : Int))
      obtain ⟨na, ha⟩ : ∃ z, (N (j : Int)).1.getD 0 0 = z := ⟨_, rfl⟩
      obtain ⟨nb, hb⟩ : ∃ z, (N (j : Int)).1.getD 1 0 = z := ⟨_, rfl⟩
      rw [ha, hb] at hlk hx
      rw [ha] at hz HU
      have hN : (fun k => if k = j then ([na, nb], (N (j : Int)).2) else (if k < j then N (k : Int) else ([0, 0], []))) = (fun k => if k < j + 1 then N (k : Int) else (([0, 0], []) : KD)) := by
        funext k
        by_cases e : k = j
        · subst e
          simp only [if_true, show k < k + 1 from Nat.lt_succ_self k]
          exact hx.symm
        · simp only [if_neg e]
          by_cases e2 : k < j
          · simp only [if_pos e2, show k < j + 1 from by omega, if_true]
          · simp only [if_neg e2, show ¬ k < j + 1 from by omega, if_false]
      have HN := hid hN
      rw [hz] at hlk HU
      have HLJ : Hid ((N (j : Int)).2.length = (N (j : Int)).2.length) := hid rfl
      generalize (N (j : Int)).2 = lj at hlk HU HN
      have hji : (j : Int) < 24 := by omega
      have f0 := hrow.out.frz (j * 3)
      have f1 := hrow.out.frz (j * 3 + 1)
      have f2 := hrow.out.frz (j * 3 + 2)
      have x0 := hrow.out.ver j hlt
      have x1 := hrow.out.num j hlt
      have x2 := hrow.out.kin j hlt
      have hG := hrow.out.lt
      have HLT := hid hlt
      clear hz hown hT hx hlt ha hb hN HLJ
      go_wp2_with fail
      go_roundw
      case rel =>
        have hr2 := hrow.out.put j na nb (.slice zo lj.length zc) lj
        rw [HN.out] at hr2
        have hd2 : ∀ k, k < 24 → Rd w ((fun k => if k = j then .slice zo lj.length zc else vs k) k) (if k < j + 1 then N (k : Int) else ([0, 0], [])).2 := fun k hk => by
          rw [← congrFun HN.out k]
          by_cases e : k = j
          · simp only [if_pos e]; exact HU.out
          · simp only [if_neg e]; exact hrd.out k hk
        exact ⟨j + 1, _, by have := HLT.out; omega, by go_num, hid hr2, hid hd2, hid (((hbel.out.setCell (p := ⟨w.heap.size, j * 3, none⟩) (Nat.le_refl _) _).setCell (p := ⟨w.heap.size, j * 3 + 1, none⟩) (Nat.le_refl _) _).setCell (p := ⟨w.heap.size, j * 3 + 2, none⟩) (Nat.le_refl _) _)⟩
      case measure =>
        have := HLT.out
        simp [intOf]
        omega
    · obtain rfl : j = 24 := by omega
      go_wp2
      go_ret
      refine ⟨⟨.slice (some ⟨w.heap.size, 0, none⟩) 24 24, by simp, ?_⟩, hbel.out⟩
      have := hrow.out.rd (fun k hk => by simp only [if_pos hk]; exact H2.out _) (fun k hk => (hrd.out k hk).later hbel.out)
      rwa [List.map_congr_left (g := fun (k : Nat) => N (k : Int)) (fun k hk => if_pos (by simpa using hk))] at this
end Go.Proofs.YtefhpbcdjgllnaaGreat

/- Part: Comparisons of a shard's lists: contracts. Written by a program (gsb.py). -/
namespace Go.Proofs.YtefhpbcdjgllnaaGreat
open Go.RowKit
attribute [local go_sem ↓] Go.wp_at_zero Go.wp_at_succ

theorem sVSame_k (n m : Int) (va vb : Value) (la lb : List (Int × Int)) (w : World) (ha : Rd w va la) (hb : Rd w vb lb) {c : Bool} (hc : (n == m && eqL la lb) = c) :
    Calls Tryz.prog 21 #[.agg #[.int .i64 n, va], .agg #[.int .i64 m, vb]] w fun e w' => e = .returned (.bool c) ∧ Below w.heap.size w w' := hc ▸ specVSame_any n m va vb la lb w ha hb
theorem iVSame_k (n m : Int) (va vb : Value) (la lb : List (Int × Int)) (w : World) (ha : Rd w va la) (hb : Rd w vb lb) {c : Bool} (hc : (n == m && eqL la lb) = c) :
    Calls Tryz.prog 64 #[.agg #[.int .i64 n, va], .agg #[.int .i64 m, vb]] w fun e w' => e = .returned (.bool c) ∧ Below w.heap.size w w' := hc ▸ implVSame_any n m va vb la lb w ha hb
theorem eqK_3 (p0 p1 p2 t0 t1 t2 : Int) (la lb : List (Int × Int)) : eqK ([p0, p1, p2], la) ([t0, t1, t2], lb) = (decide (p0 = t0) && (decide (p1 = t1) && (p2 == t2 && eqL la lb))) := by
  by_cases h0 : p0 = t0 <;> by_cases h1 : p1 = t1 <;> by_cases h2 : p2 = t2 <;> simp [eqK, eqL, h0, h1, h2]
theorem eqK_2 (p0 p1 t0 t1 : Int) (la lb : List (Int × Int)) : eqK ([p0, p1], la) ([t0, t1], lb) = (decide (p0 = t0) && (p1 == t1 && eqL la lb)) := by
  by_cases h0 : p0 = t0 <;> by_cases h1 : p1 = t1 <;> simp [eqK, eqL, h0, h1]

set_option maxRecDepth 100000 in
set_option maxHeartbeats 2000000 in
theorem implCommitSame_any (p0 p1 p2 t0 t1 t2 : Int) (la lb : List (Int × Int)) (va vb : Value) (w : World) (ha : Rd w va la) (hb : Rd w vb lb) :
    Calls Tryz.prog 81 #[.agg #[.int .i64 p0, .int .i64 p1, .int .i64 p2, va], .agg #[.int .i64 t0, .int .i64 t1, .int .i64 t2, vb]] w fun e w' => e = .returned (.bool (eqK ([p0, p1, p2], la) ([t0, t1, t2], lb))) ∧ Below w.heap.size w w' := by
  rw [eqK_3]
  have HA := hid ha
  have HB := hid hb
  obtain ⟨ao, ac, hv, _⟩ := ha
  subst hv
  obtain ⟨bo, bc, hv, _⟩ := hb
  subst hv
  by_cases h0 : p0 = t0
  · subst h0
    by_cases h1 : p1 = t1
    · subst h1
      simp only [decide_true, Bool.true_and]
      cases hc : (p2 == t2 && eqL la lb) with
      | true =>
        go_enter Tryz.func81, Tryz.ntmps81
        go_wp2_with (first | (go_at_call 64; refine (iVSame_k p2 t2 _ _ la lb _ (HA.out.later (by go_grown)) (HB.out.later (by go_grown)) hc).mono ?_; rintro e w2 ⟨rfl, b2⟩; have bb : Below w.heap.size w w2 := (Below.trans (by go_grown) (b2.mono (by first | omega | (simp; done) | (simp; omega))))))
        all_goals
          go_ret
          exact ⟨by simp, bb⟩
      | false =>
        go_enter Tryz.func81, Tryz.ntmps81
        go_wp2_with (first | (go_at_call 64; refine (iVSame_k p2 t2 _ _ la lb _ (HA.out.later (by go_grown)) (HB.out.later (by go_grown)) hc).mono ?_; rintro e w2 ⟨rfl, b2⟩; have bb : Below w.heap.size w w2 := (Below.trans (by go_grown) (b2.mono (by first | omega | (simp; done) | (simp; omega))))))
        all_goals
          go_ret
          exact ⟨by simp, bb⟩
    · have hne : (p1 == t1) = false := by simpa using h1
      go_enter Tryz.func81, Tryz.ntmps81
      go_wp2_with fail
      go_ret
      exact ⟨by simp [h1], by go_grown⟩
  · have hne : (p0 == t0) = false := by simpa using h0
    go_enter Tryz.func81, Tryz.ntmps81
    go_wp2_with fail
    go_ret
    exact ⟨by simp [h0], by go_grown⟩

set_option maxRecDepth 100000 in
set_option maxHeartbeats 2000000 in
theorem implRowSame_any (p0 p1 t0 t1 : Int) (la lb : List (Int × Int)) (va vb : Value) (w : World) (ha : Rd w va la) (hb : Rd w vb lb) :
    Calls Tryz.prog 84 #[.agg #[.int .i64 p0, .int .i64 p1, va], .agg #[.int .i64 t0, .int .i64 t1, vb]] w fun e w' => e = .returned (.bool (eqK ([p0, p1], la) ([t0, t1], lb))) ∧ Below w.heap.size w w' := by
  rw [eqK_2]
  have HA := hid ha
  have HB := hid hb
  obtain ⟨ao, ac, hv, _⟩ := ha
  subst hv
  obtain ⟨bo, bc, hv, _⟩ := hb
  subst hv
  by_cases h0 : p0 = t0
  · subst h0
    simp only [decide_true, Bool.true_and]
    cases hc : (p1 == t1 && eqL la lb) with
    | true =>
      go_enter Tryz.func84, Tryz.ntmps84
      go_wp2_with (first | (go_at_call 64; refine (iVSame_k p1 t1 _ _ la lb _ (HA.out.later (by go_grown)) (HB.out.later (by go_grown)) hc).mono ?_; rintro e w2 ⟨rfl, b2⟩; have bb : Below w.heap.size w w2 := (Below.trans (by go_grown) (b2.mono (by first | omega | (simp; done) | (simp; omega))))))
      all_goals
        go_ret
        exact ⟨by simp, bb⟩
    | false =>
      go_enter Tryz.func84, Tryz.ntmps84
      go_wp2_with (first | (go_at_call 64; refine (iVSame_k p1 t1 _ _ la lb _ (HA.out.later (by go_grown)) (HB.out.later (by go_grown)) hc).mono ?_; rintro e w2 ⟨rfl, b2⟩; have bb : Below w.heap.size w w2 := (Below.trans (by go_grown) (b2.mono (by first | omega | (simp; done) | (simp; omega))))))
      all_goals
        go_ret
        exact ⟨by simp, bb⟩
  · have hne : (p0 == t0) = false := by simpa using h0
    go_enter Tryz.func84, Tryz.ntmps84
    go_wp2_with fail
    go_ret
    exact ⟨by simp [h0], by go_grown⟩

set_option maxRecDepth 100000 in
set_option maxHeartbeats 2000000 in
theorem equalRows_any (va vb : Value) (la lb : List KD) (w : World) (ha : RdM 3 2 true w va la) (hb : RdM 3 2 true w vb lb) :
    Calls Tryz.prog 82 #[va, vb, .func (.func 84) #[] #[]] w fun e w' => e = .returned (.bool (eqM la lb)) ∧ Below w.heap.size w w' := by
  obtain ⟨aa, ca, rfl, hla, hca⟩ := ha
  obtain ⟨ab, cb, rfl, hlb, hcb⟩ := hb
  unfold maxLen at hla hlb
  by_cases hne : ((la.length : Int) != (lb.length : Int)) = true
  · have : la ≠ lb := fun h => by simp [h] at hne
    go_enter Tryz.func82, Tryz.ntmps82
    go_wp2
    go_ret
    exact ⟨by simp [eqM_no this], by go_grown⟩
  · have hlen : la.length = lb.length := by simp at hne; omega
    have HL : Hid (la.length = lb.length) := hlen
    clear hlen
    go_enter Tryz.func82, Tryz.ntmps82
    go_wp2
    go_loopw [17] (fun i wr => ∃ k : Nat, k ≤ la.length ∧ i = .int .i64 k ∧ Hid (la.take k = lb.take k) ∧ Below w.heap.size w wr) (fun i _ => la.length - (intOf i).toNat)
    case atStart => exact ⟨0, Nat.zero_le _, rfl, rfl, Below.refl _ _⟩
    case round =>
      obtain ⟨k, hk, rfl, hpre, hbel⟩ := hrel
      by_cases hlt : k < la.length
      · obtain ⟨ba, oa, rfl, hba, hcca⟩ := hca (by omega)
        obtain ⟨bb, ob, rfl, hbb, hccb⟩ := hcb (by have := HL.out; omega)
        have hkb : (k : Int) < (lb.length : Int) := by have := HL.out; omega
        obtain ⟨p0, p1, lx, ux, hx, c0, c1, c2, hux⟩ := atK_2k ((hcca k hlt).later hba hbel)
        obtain ⟨t0, t1, ly, uy, hy, d0, d1, d2, huy⟩ := atK_2k ((hccb k (by have := HL.out; omega)).later hbb hbel)
        have hnext : Hid (la.getD k kd0 = lb.getD k kd0 → la.take (k + 1) = lb.take (k + 1)) := hid (fun h => take_more la lb kd0 k hlt (by have := HL.out; omega) hpre h)
        have hdiff : Hid (¬ la.getD k kd0 = lb.getD k kd0 → eqM la lb = false) := hid (fun h => eqM_no (fun e => h (by rw [e])))
        rw [hx, hy] at hnext hdiff
        have hsz := (hbel).size
        have HUA := hid hux
        have HUB := hid huy
        clear hux huy
        clear hcca hccb hx hy
        have hba' : ba < wr.heap.size := by omega
        have hbb' : bb < wr.heap.size := by omega
        clear hca hcb
        obtain ⟨uao, uac, huav, _⟩ := HUA.out
        obtain ⟨ubo, ubc, hubv, _⟩ := HUB.out
        subst huav
        subst hubv
        go_wp2_with fail
        refine (implRowSame_any p0 p1 t0 t1 lx ly _ _ _ (HUA.out.later (by go_grown)) (HUB.out.later (by go_grown))).mono ?_
        rintro e w2 ⟨rfl, b2⟩
        have d2' : Below wr.heap.size wr w2 := (Below.trans (by go_grown) (b2.mono (by first | omega | (simp; done) | (simp; omega))))
        have c2' := hbel.trans (d2'.mono hsz)
        clear b2 d2'
        cases hxy : eqK ([p0, p1], lx) ([t0, t1], ly) with
        | true =>
          have hN := hid (hnext.out (eqK_iff.1 hxy))
          clear hnext hdiff
          go_wp2
          go_roundw
          case rel => exact ⟨k + 1, by omega, by go_num, hN, c2'⟩
          case measure => simp [intOf]; omega
        | false =>
          have hN := hid (hdiff.out (fun e => by rw [eqK_iff.2 e] at hxy; cases hxy))
          clear hnext hdiff
          go_wp2
          go_ret
          exact ⟨by simp [hN.out], c2'⟩
      · have hall : eqM la lb = true := eqM_yes (by have h1 := HL.out; have h2 := hpre.out; rwa [List.take_of_length_le (by omega), List.take_of_length_le (by omega)] at h2)
        go_wp2
        go_ret
        exact ⟨by simp [hall], hbel⟩

set_option maxRecDepth 100000 in
set_option maxHeartbeats 2000000 in
theorem equalCommits_any (va vb : Value) (la lb : List KD) (w : World) (ha : RdM 4 3 true w va la) (hb : RdM 4 3 true w vb lb) :
    Calls Tryz.prog 80 #[va, vb, .func (.func 81) #[] #[]] w fun e w' => e = .returned (.bool (eqM la lb)) ∧ Below w.heap.size w w' := by
  obtain ⟨aa, ca, rfl, hla, hca⟩ := ha
  obtain ⟨ab, cb, rfl, hlb, hcb⟩ := hb
  unfold maxLen at hla hlb
  by_cases hne : ((la.length : Int) != (lb.length : Int)) = true
  · have : la ≠ lb := fun h => by simp [h] at hne
    go_enter Tryz.func80, Tryz.ntmps80
    go_wp2
    go_ret
    exact ⟨by simp [eqM_no this], by go_grown⟩
  · have hlen : la.length = lb.length := by simp at hne; omega
    have HL : Hid (la.length = lb.length) := hlen
    clear hlen
    go_enter Tryz.func80, Tryz.ntmps80
    go_wp2
    go_loopw [17] (fun i wr => ∃ k : Nat, k ≤ la.length ∧ i = .int .i64 k ∧ Hid (la.take k = lb.take k) ∧ Below w.heap.size w wr) (fun i _ => la.length - (intOf i).toNat)
    case atStart => exact ⟨0, Nat.zero_le _, rfl, rfl, Below.refl _ _⟩
    case round =>
      obtain ⟨k, hk, rfl, hpre, hbel⟩ := hrel
      by_cases hlt : k < la.length
      · obtain ⟨ba, oa, rfl, hba, hcca⟩ := hca (by omega)
        obtain ⟨bb, ob, rfl, hbb, hccb⟩ := hcb (by have := HL.out; omega)
        have hkb : (k : Int) < (lb.length : Int) := by have := HL.out; omega
        obtain ⟨p0, p1, p2, lx, ux, hx, c0, c1, c2, c3, hux⟩ := atK_3k ((hcca k hlt).later hba hbel)
        obtain ⟨t0, t1, t2, ly, uy, hy, d0, d1, d2, d3, huy⟩ := atK_3k ((hccb k (by have := HL.out; omega)).later hbb hbel)
        have hnext : Hid (la.getD k kd0 = lb.getD k kd0 → la.take (k + 1) = lb.take (k + 1)) := hid (fun h => take_more la lb kd0 k hlt (by have := HL.out; omega) hpre h)
        have hdiff : Hid (¬ la.getD k kd0 = lb.getD k kd0 → eqM la lb = false) := hid (fun h => eqM_no (fun e => h (by rw [e])))
        rw [hx, hy] at hnext hdiff
        have hsz := (hbel).size
        have HUA := hid hux
        have HUB := hid huy
        clear hux huy
        clear hcca hccb hx hy
        have hba' : ba < wr.heap.size := by omega
        have hbb' : bb < wr.heap.size := by omega
        clear hca hcb
        obtain ⟨uao, uac, huav, _⟩ := HUA.out
        obtain ⟨ubo, ubc, hubv, _⟩ := HUB.out
        subst huav
        subst hubv
        go_wp2_with fail
        refine (implCommitSame_any p0 p1 p2 t0 t1 t2 lx ly _ _ _ (HUA.out.later (by go_grown)) (HUB.out.later (by go_grown))).mono ?_
        rintro e w2 ⟨rfl, b2⟩
        have d2' : Below wr.heap.size wr w2 := (Below.trans (by go_grown) (b2.mono (by first | omega | (simp; done) | (simp; omega))))
        have c2' := hbel.trans (d2'.mono hsz)
        clear b2 d2'
        cases hxy : eqK ([p0, p1, p2], lx) ([t0, t1, t2], ly) with
        | true =>
          have hN := hid (hnext.out (eqK_iff.1 hxy))
          clear hnext hdiff
          go_wp2
          go_roundw
          case rel => exact ⟨k + 1, by omega, by go_num, hN, c2'⟩
          case measure => simp [intOf]; omega
        | false =>
          have hN := hid (hdiff.out (fun e => by rw [eqK_iff.2 e] at hxy; cases hxy))
          clear hnext hdiff
          go_wp2
          go_ret
          exact ⟨by simp [hN.out], c2'⟩
      · have hall : eqM la lb = true := eqM_yes (by have h1 := HL.out; have h2 := hpre.out; rwa [List.take_of_length_le (by omega), List.take_of_length_le (by omega)] at h2)
        go_wp2
        go_ret
        exact ⟨by simp [hall], hbel⟩

end Go.Proofs.YtefhpbcdjgllnaaGreat

/- Part: impl.logRight: contract. -/
namespace Go.Proofs.YtefhpbcdjgllnaaGreat
open Go.RowKit
attribute [local go_sem ↓] Go.wp_at_zero Go.wp_at_succ

theorem logB_is {p : Int} {R Lg : List KD} (h3 : ∀ i, i < Lg.length → (Lg.getD i kd0).1.length = 3) (h60 : Lg.length ≤ 60) (hk : ∀ i, i < Lg.length → partOf (keyK (Lg.getD i kd0)) = p ∧ okV (keyK (Lg.getD i kd0)) (colK Lg i 2) (Lg.getD i kd0).2 = true) :
    logB p R Lg = (eqM Lg (newLog Lg Lg.length) && eqM R (newRows Lg)) := by
  rw [Bool.eq_iff_iff, ← logB_new h3, Bool.and_eq_true]
  simp only [eqM, decide_eq_true_eq]
  exact ⟨fun h => h.2.2, fun h => ⟨h60, hk, h⟩⟩
theorem Tru.log {w : World} {B K rb n : Nat} {p f st : Int} {db : Nat} {iv : Value} {sb : Nat} {N : Int → KD} {M : List KD} {lv : Value} {us : Int → Value} {xs : List Value} {ts : Nat → Value} (h : Tru w B K rb n p f st db iv sb N M lv us xs ts) : RdM 4 3 true w lv M :=
  h.row.rdM (fun i hi => (h.kin.own i hi).rd)
theorem equalCommits_is {va vb : Value} {la lb : List KD} {w : World} {r : Bool} (hr : eqM la lb = r) (ha : RdM 4 3 true w va la) (hb : RdM 4 3 true w vb lb) :
    Calls Tryz.prog 80 #[va, vb, .func (.func 81) #[] #[]] w fun e w' => e = .returned (.bool r) ∧ Below w.heap.size w w' := hr ▸ equalCommits_any va vb la lb w ha hb
theorem equalRows_is {va vb : Value} {la lb : List KD} {w : World} {r : Bool} (hr : eqM la lb = r) (ha : RdM 3 2 true w va la) (hb : RdM 3 2 true w vb lb) :
    Calls Tryz.prog 82 #[va, vb, .func (.func 84) #[] #[]] w fun e w' => e = .returned (.bool r) ∧ Below w.heap.size w w' := hr ▸ equalRows_any va vb la lb w ha hb
set_option maxRecDepth 100000 in
set_option maxHeartbeats 8000000 in
theorem logRight_any (p f st : Int) (v0 v1 v2 v3 v4 : Value) (R Lg : List KD) (w : World) (hR : RdM 3 2 true w v0 R) (hL : RdM 4 3 true w v4 Lg) :
    Calls Tryz.prog 55 #[.agg #[.int .i64 p, .int .i64 f, .int .i64 st, v0, v1, v2, v3, v4]] w fun e w' => e = .returned (.bool (logB p R Lg)) ∧ Below w.heap.size w w' := by
  have HR := hid hR
  have HL := hid hL
  obtain ⟨ro, rc, rfl, _⟩ := hR
  obtain ⟨lo, lc, rfl, hml, hcl⟩ := hL
  have HC := hid hcl
  have h3 : ∀ i, i < Lg.length → (Lg.getD i kd0).1.length = 3 := fun i hi => by
    obtain ⟨b, o, _, _, hcc⟩ := hcl (by omega)
    exact (hcc i hi).len
  have H3 := hid h3
  clear h3 hcl
  unfold maxLen at hml
  go_enter Tryz.func55, Tryz.ntmps55
  by_cases h60 : Lg.length ≤ 60
  case neg =>
    have hno : logB p R Lg = false := logB_len (fun q => h60 q.2)
    have g1 : decide ((Lg.length : Int) > 60) = true := by simp; omega
    go_wp2
    go_ret
    exact ⟨by simp [hno], by go_grown⟩
  have g1 : decide ((Lg.length : Int) > 60) = false := by simp; omega
  go_wp2_with fail
  generalize hW1 : (w.alloc (.cells #[.int .i64 p, .int .i64 f, .int .i64 st, .slice ro R.length rc, v1, v2, v3, .slice lo Lg.length lc] 43)) = w1
  have a0_1 : w1.cell? ⟨w.heap.size, 0, none⟩ = some (.int .i64 p) := by subst hW1; go_cell
  have a1_1 : w1.cell? ⟨w.heap.size, 1, none⟩ = some (.int .i64 f) := by subst hW1; go_cell
  have a2_1 : w1.cell? ⟨w.heap.size, 2, none⟩ = some (.int .i64 st) := by subst hW1; go_cell
  have a3_1 : w1.cell? ⟨w.heap.size, 3, none⟩ = some (.slice ro R.length rc) := by subst hW1; go_cell
  have a4_1 : w1.cell? ⟨w.heap.size, 4, none⟩ = some (v1) := by subst hW1; go_cell
  have a5_1 : w1.cell? ⟨w.heap.size, 5, none⟩ = some (v2) := by subst hW1; go_cell
  have a6_1 : w1.cell? ⟨w.heap.size, 6, none⟩ = some (v3) := by subst hW1; go_cell
  have a7_1 : w1.cell? ⟨w.heap.size, 7, none⟩ = some (.slice lo Lg.length lc) := by subst hW1; go_cell
  have al_1 : w.heap.size < w1.heap.size := by subst hW1; first | (simp; done) | (simp; omega)
  have c1 : Below w.heap.size w w1 := by subst hW1; go_grown
  have s1 : w1.heap.size = w.heap.size + 1 := by subst hW1; simp
  clear hW1
  have qa0_1 := cell_regrown a0_1
  have qa1_1 := cell_regrown a1_1
  have qa2_1 := cell_regrown a2_1
  have qa3_1 := cell_regrown a3_1
  have qa4_1 := cell_regrown a4_1
  have qa5_1 := cell_regrown a5_1
  have qa6_1 := cell_regrown a6_1
  have qa7_1 := cell_regrown a7_1
  clear qa0_1 qa1_1 qa2_1 qa3_1 qa4_1 qa5_1 qa6_1 qa7_1 g1
  go_loopw [13] (fun i wr => ∃ k : Nat, k ≤ Lg.length ∧ i = .int .i64 k ∧ Hid (∀ i, i < k → partOf (keyK (Lg.getD i kd0)) = p ∧ okV (keyK (Lg.getD i kd0)) (colK Lg i 2) (Lg.getD i kd0).2 = true) ∧ Hid (Below w1.heap.size w1 wr)) (fun i _ => Lg.length - (intOf i).toNat)
  case atStart => exact ⟨0, Nat.zero_le _, rfl, hid (fun j hj => absurd hj (Nat.not_lt_zero j)), hid (Below.refl _ _)⟩
  case round =>
    obtain ⟨k, hk, rfl, hpre, hbel⟩ := hrel
    obtain ⟨w50, hw50⟩ : ∃ y, y = wr := ⟨_, rfl⟩
    subst hw50
    have b50 := hbel.out
    have d50 : Below w1.heap.size w1 w50 := (Below.trans (by go_grown) (b50.mono (by first | omega | (simp; done) | (simp; omega))))
    have c50 : Below w.heap.size w w50 := c1.trans (d50.mono c1.size)
    have a0_50 : w50.cell? ⟨w.heap.size, 0, none⟩ = some (.int .i64 p) := (by rw [b50.cell (by first | omega | (simp; done) | (simp; omega))]; go_cell)
    have a1_50 : w50.cell? ⟨w.heap.size, 1, none⟩ = some (.int .i64 f) := (by rw [b50.cell (by first | omega | (simp; done) | (simp; omega))]; go_cell)
    have a2_50 : w50.cell? ⟨w.heap.size, 2, none⟩ = some (.int .i64 st) := (by rw [b50.cell (by first | omega | (simp; done) | (simp; omega))]; go_cell)
    have a3_50 : w50.cell? ⟨w.heap.size, 3, none⟩ = some (.slice ro R.length rc) := (by rw [b50.cell (by first | omega | (simp; done) | (simp; omega))]; go_cell)
    have a4_50 : w50.cell? ⟨w.heap.size, 4, none⟩ = some (v1) := (by rw [b50.cell (by first | omega | (simp; done) | (simp; omega))]; go_cell)
    have a5_50 : w50.cell? ⟨w.heap.size, 5, none⟩ = some (v2) := (by rw [b50.cell (by first | omega | (simp; done) | (simp; omega))]; go_cell)
    have a6_50 : w50.cell? ⟨w.heap.size, 6, none⟩ = some (v3) := (by rw [b50.cell (by first | omega | (simp; done) | (simp; omega))]; go_cell)
    have a7_50 : w50.cell? ⟨w.heap.size, 7, none⟩ = some (.slice lo Lg.length lc) := (by rw [b50.cell (by first | omega | (simp; done) | (simp; omega))]; go_cell)
    have al_50 : w.heap.size < w50.heap.size := (by have := b50.size; first | omega | (revert this; simp; done) | (revert this; simp; omega))
    clear a0_1 a1_1 a2_1 a3_1 a4_1 a5_1 a6_1 a7_1 al_1
    clear b50 d50
    by_cases hlt : k < Lg.length
    · obtain ⟨b, o, rfl, hb, hcc⟩ := HC.out (by omega)
      obtain ⟨key, p1, nm, l, u, hx, e0, e1, e2, e3, hu⟩ := atK_3k ((hcc k hlt).later hb c50)
      have HU := hid hu
      have HNO : Hid (¬ (partOf key = p ∧ okV key nm l = true) → logB p R Lg = false) := hid (fun q => logB_no hlt (fun z => q ⟨by have := z.1; rwa [hx] at this, by have := z.2.1; rwa [colK, hx] at this⟩))
      have HMORE : Hid (partOf key = p → okV key nm l = true → ∀ i, i < k + 1 → partOf (keyK (Lg.getD i kd0)) = p ∧ okV (keyK (Lg.getD i kd0)) (colK Lg i 2) (Lg.getD i kd0).2 = true) := hid (fun h1 h2 i hi => by
        by_cases e : i = k
        · subst e
          rw [colK, hx]
          exact ⟨h1, h2⟩
        · exact hpre.out i (by omega))
      obtain ⟨uo, uc, rfl, _⟩ := hu
      have hki : (k : Int) < (Lg.length : Int) := by omega
      have HLT := hid hlt
      have HB1 := hid hbel.out
      clear hx hcc hlt hpre hbel
      go_upto_region 6 with fail
      generalize hW51 : (w50.alloc (.cells #[.int .i64 key, .int .i64 p1, .int .i64 nm, .slice uo l.length uc] 64)) = w51
      have m0_51 : w51.cell? ⟨w50.heap.size, 0, none⟩ = some (.int .i64 key) := by subst hW51; go_cell
      have m1_51 : w51.cell? ⟨w50.heap.size, 1, none⟩ = some (.int .i64 p1) := by subst hW51; go_cell
      have m2_51 : w51.cell? ⟨w50.heap.size, 2, none⟩ = some (.int .i64 nm) := by subst hW51; go_cell
      have m3_51 : w51.cell? ⟨w50.heap.size, 3, none⟩ = some (.slice uo l.length uc) := by subst hW51; go_cell
      have ml_51 : w50.heap.size < w51.heap.size := by subst hW51; simp
      have d51 : Below w50.heap.size w50 w51 := by subst hW51; go_grown
      clear hW51
      have c51 : Below w.heap.size w w51 := c50.trans (d51.mono c50.size)
      have a0_51 : w51.cell? ⟨w.heap.size, 0, none⟩ = some (.int .i64 p) := (by rw [d51.cell (by first | omega | (simp; done) | (simp; omega))]; go_cell)
      have a1_51 : w51.cell? ⟨w.heap.size, 1, none⟩ = some (.int .i64 f) := (by rw [d51.cell (by first | omega | (simp; done) | (simp; omega))]; go_cell)
      have a2_51 : w51.cell? ⟨w.heap.size, 2, none⟩ = some (.int .i64 st) := (by rw [d51.cell (by first | omega | (simp; done) | (simp; omega))]; go_cell)
      have a3_51 : w51.cell? ⟨w.heap.size, 3, none⟩ = some (.slice ro R.length rc) := (by rw [d51.cell (by first | omega | (simp; done) | (simp; omega))]; go_cell)
      have a4_51 : w51.cell? ⟨w.heap.size, 4, none⟩ = some (v1) := (by rw [d51.cell (by first | omega | (simp; done) | (simp; omega))]; go_cell)
      have a5_51 : w51.cell? ⟨w.heap.size, 5, none⟩ = some (v2) := (by rw [d51.cell (by first | omega | (simp; done) | (simp; omega))]; go_cell)
      have a6_51 : w51.cell? ⟨w.heap.size, 6, none⟩ = some (v3) := (by rw [d51.cell (by first | omega | (simp; done) | (simp; omega))]; go_cell)
      have a7_51 : w51.cell? ⟨w.heap.size, 7, none⟩ = some (.slice (some ⟨b, o, none⟩) Lg.length lc) := (by rw [d51.cell (by first | omega | (simp; done) | (simp; omega))]; go_cell)
      have al_51 : w.heap.size < w51.heap.size := (by have := d51.size; omega)
      clear a0_50 a1_50 a2_50 a3_50 a4_50 a5_50 a6_50 a7_50 al_50
      have HD51 := hid d51
      have HU51 := hid (HU.out.later d51)
      clear e0 e1 e2 e3 a1_51 a2_51 a3_51 a4_51 a5_51 a6_51 a7_51
      have ra0 := cell_regrown a0_51
      have rm0 := cell_regrown m0_51
      have rm2 := cell_regrown m2_51
      have rm3 := cell_regrown m3_51
      have OV := fun (W : World) (h : Rd W (.slice uo l.length uc) l) => implOkV_any key nm _ l W h
      by_cases h0 : partOf key = p
      case neg =>
        have g0 : (partOf key != p) = true := by simpa using h0
        have hno := HNO.out (fun q => h0 q.1)
        refine wp_region_quiet_below (by kernel_rfl) (by kernel_rfl) ?_
        repeat (first | go_big_quiet_skip | (go_big_quiet_want; go_big_quiet_op; first | go_big_quiet_on | go_big_quiet_call (first | (go_at_call 30; exact Calls.regrown_of ((implShard_any _ _).mono fun _ _ h => ⟨h.1, by rw [h.2]; exact Below.refl _ _⟩)))))
        refine wpQuiet_nil ?_
        rintro wq ⟨pq, hwq⟩
        have hq : Below w51.heap.size w51 wq := by rw [hwq]; exact below_regrown _ _ _
        clear hwq pq
        have cq := c51.trans (hq.mono c51.size)
        go_wp2
        go_ret
        exact ⟨by simp [hno], cq⟩
      have g0 : (partOf key != p) = false := by simpa using h0
      cases hv : okV key nm l with
      | false =>
        have hno := HNO.out (fun q => by rw [hv] at q; cases q.2)
        rw [hv] at OV
        clear hv
        refine wp_region_quiet_below (by kernel_rfl) (by kernel_rfl) ?_
        repeat (first | go_big_quiet_skip | (go_big_quiet_want; go_big_quiet_op; first | go_big_quiet_on | go_big_quiet_call (first | (go_at_call 30; exact Calls.regrown_of ((implShard_any _ _).mono fun _ _ h => ⟨h.1, by rw [h.2]; exact Below.refl _ _⟩)) | (go_at_call 60; exact Calls.regrown_of (OV _ (HU51.out.later (below_regrown _ _ _)))))))
        refine wpQuiet_nil ?_
        rintro wq ⟨pq, hwq⟩
        have hq : Below w51.heap.size w51 wq := by rw [hwq]; exact below_regrown _ _ _
        clear hwq pq
        have cq := c51.trans (hq.mono c51.size)
        go_wp2
        go_ret
        exact ⟨by simp [hno], cq⟩
      | true =>
        have HM := hid (HMORE.out h0 hv)
        rw [hv] at OV
        clear hv
        refine wp_region_quiet_below (by kernel_rfl) (by kernel_rfl) ?_
        repeat (first | go_big_quiet_skip | (go_big_quiet_want; go_big_quiet_op; first | go_big_quiet_on | go_big_quiet_call (first | (go_at_call 30; exact Calls.regrown_of ((implShard_any _ _).mono fun _ _ h => ⟨h.1, by rw [h.2]; exact Below.refl _ _⟩)) | (go_at_call 60; exact Calls.regrown_of (OV _ (HU51.out.later (below_regrown _ _ _)))))))
        refine wpQuiet_nil ?_
        rintro wq ⟨pq, hwq⟩
        have hq : Below w51.heap.size w51 wq := by rw [hwq]; exact below_regrown _ _ _
        clear hwq pq
        have HQ := hid (HB1.out.trans ((HD51.out.trans (hq.mono HD51.out.size)).mono HB1.out.size))
        go_wp2_with fail
        go_roundw
        case rel => exact ⟨k + 1, by have := HLT.out; omega, by go_num, HM, HQ⟩
        case measure =>
          have := HLT.out
          simp [intOf]
          omega
    · obtain rfl : k = Lg.length := by omega
      have HIS := hid (logB_is (R := R) H3.out h60 hpre.out)
      have hle : ∀ i, i < Lg.length → (Lg.getD i kd0).2.length ≤ 1099511627776 := fun i hi => Nat.le_trans (okV_le (hpre.out i hi).2) (by decide)
      have HLE := hid hle
      have HB1 := hid hbel.out
      clear hle hpre hbel hlt
      go_wp2_with fail
      refine (writtenAnew_any _ Lg _ (HL.out.later c50) (by omega) HLE.out).mono ?_
      rintro e w60 ⟨K, rb, db, sb, lv, us, xs, ts, rfl, hT, b60⟩
      have d60 : Below w50.heap.size w50 w60 := (Below.trans (by go_grown) (b60.mono (by first | omega | (simp; done) | (simp; omega))))
      have c60 : Below w.heap.size w w60 := c50.trans (d60.mono c50.size)
      have a0_60 : w60.cell? ⟨w.heap.size, 0, none⟩ = some (.int .i64 p) := (by rw [b60.cell (by first | omega | (simp; done) | (simp; omega))]; go_cell)
      have a1_60 : w60.cell? ⟨w.heap.size, 1, none⟩ = some (.int .i64 f) := (by rw [b60.cell (by first | omega | (simp; done) | (simp; omega))]; go_cell)
      have a2_60 : w60.cell? ⟨w.heap.size, 2, none⟩ = some (.int .i64 st) := (by rw [b60.cell (by first | omega | (simp; done) | (simp; omega))]; go_cell)
      have a3_60 : w60.cell? ⟨w.heap.size, 3, none⟩ = some (.slice ro R.length rc) := (by rw [b60.cell (by first | omega | (simp; done) | (simp; omega))]; go_cell)
      have a4_60 : w60.cell? ⟨w.heap.size, 4, none⟩ = some (v1) := (by rw [b60.cell (by first | omega | (simp; done) | (simp; omega))]; go_cell)
      have a5_60 : w60.cell? ⟨w.heap.size, 5, none⟩ = some (v2) := (by rw [b60.cell (by first | omega | (simp; done) | (simp; omega))]; go_cell)
      have a6_60 : w60.cell? ⟨w.heap.size, 6, none⟩ = some (v3) := (by rw [b60.cell (by first | omega | (simp; done) | (simp; omega))]; go_cell)
      have a7_60 : w60.cell? ⟨w.heap.size, 7, none⟩ = some (.slice lo Lg.length lc) := (by rw [b60.cell (by first | omega | (simp; done) | (simp; omega))]; go_cell)
      have al_60 : w.heap.size < w60.heap.size := (by have := b60.size; first | omega | (revert this; simp; done) | (revert this; simp; omega))
      clear a0_50 a1_50 a2_50 a3_50 a4_50 a5_50 a6_50 a7_50 al_50
      have HT := hid hT
      have k7 := hT.var.c7
      obtain ⟨no, nc, hlv, _⟩ := hT.log
      subst hlv
      clear b60 d60 hT
      go_upto_region 10 with fail
      have HL60 := hid (HL.out.later c60)
      have HR60 := hid (HR.out.later c60)
      have HTL := hid HT.out.log
      have hKl := HT.out.var.lt
      cases he : eqM Lg (newLog Lg Lg.length) with
      | false =>
        have hno : logB p R Lg = false := by rw [HIS.out, he, Bool.false_and]
        have HE := hid he
        have rk7 := cell_regrown k7
        have ra3 := cell_regrown a3_60
        have ra7 := cell_regrown a7_60
        clear he
        refine wp_region_quiet_below (by kernel_rfl) (by kernel_rfl) ?_
        repeat (first | go_big_quiet_skip | (go_big_quiet_want; go_big_quiet_op; first | go_big_quiet_on | go_big_quiet_call (first | (go_at_call 80; exact Calls.regrown_of (equalCommits_is HE.out (HL60.out.later (below_regrown _ _ _)) (HTL.out.later (below_regrown _ _ _)))))))
        refine wpQuiet_nil ?_
        rintro wq ⟨pq, hwq⟩
        have hq : Below w60.heap.size w60 wq := by rw [hwq]; exact below_regrown _ _ _
        clear hwq pq
        have cq := c60.trans (hq.mono c60.size)
        go_wp2
        go_ret
        exact ⟨by simp [hno], cq⟩
      | true =>
        obtain ⟨r2, hr2⟩ : ∃ z, eqM R (newRows Lg) = z := ⟨_, rfl⟩
        have hyes : logB p R Lg = r2 := by rw [HIS.out, he, hr2, Bool.true_and]
        have HE := hid he
        have HE2 := hid hr2
        clear he hr2
        have S60 := hid (And.intro a3_60 (And.intro a7_60 k7))
        go_region_held3 (fun w' => w'.cell? ⟨w.heap.size, 3, none⟩ = some (.slice ro R.length rc) ∧ w'.cell? ⟨w.heap.size, 7, none⟩ = some (.slice lo Lg.length lc) ∧ w'.cell? ⟨K, 7, none⟩ = some (.slice no (newLog Lg Lg.length).length nc)) (go_keep) (first
          | (go_at_call 80; refine (equalCommits_is HE.out (HL60.out.later (by go_grown)) (HTL.out.later (by go_grown))).mono ?_; rintro e w61 ⟨rfl, b61⟩; have d61 : Below w60.heap.size w60 w61 := (Below.trans (by go_grown) (b61.mono (by first | omega | (simp; done) | (simp; omega)))); have c61 : Below w.heap.size w w61 := c60.trans (d61.mono c60.size); have a0_61 : w61.cell? ⟨w.heap.size, 0, none⟩ = some (.int .i64 p) := (by rw [b61.cell (by first | omega | (simp; done) | (simp; omega))]; go_cell); have a1_61 : w61.cell? ⟨w.heap.size, 1, none⟩ = some (.int .i64 f) := (by rw [b61.cell (by first | omega | (simp; done) | (simp; omega))]; go_cell); have a2_61 : w61.cell? ⟨w.heap.size, 2, none⟩ = some (.int .i64 st) := (by rw [b61.cell (by first | omega | (simp; done) | (simp; omega))]; go_cell); have a3_61 : w61.cell? ⟨w.heap.size, 3, none⟩ = some (.slice ro R.length rc) := (by rw [b61.cell (by first | omega | (simp; done) | (simp; omega))]; go_cell); have a4_61 : w61.cell? ⟨w.heap.size, 4, none⟩ = some (v1) := (by rw [b61.cell (by first | omega | (simp; done) | (simp; omega))]; go_cell); have a5_61 : w61.cell? ⟨w.heap.size, 5, none⟩ = some (v2) := (by rw [b61.cell (by first | omega | (simp; done) | (simp; omega))]; go_cell); have a6_61 : w61.cell? ⟨w.heap.size, 6, none⟩ = some (v3) := (by rw [b61.cell (by first | omega | (simp; done) | (simp; omega))]; go_cell); have a7_61 : w61.cell? ⟨w.heap.size, 7, none⟩ = some (.slice lo Lg.length lc) := (by rw [b61.cell (by first | omega | (simp; done) | (simp; omega))]; go_cell); have al_61 : w.heap.size < w61.heap.size := (by have := b61.size; first | omega | (revert this; simp; done) | (revert this; simp; omega)); clear a0_60 a1_60 a2_60 a3_60 a4_60 a5_60 a6_60 a7_60 al_60; have k7_61 := (d61.cell (p := ⟨K, 7, none⟩) hKl).trans k7; have HT61 := hid (HT.out.later d61))
          | (go_at_call 83; refine (toldRows_any _ _ K rb _ _ _ _ _ _ _ _ _ _ _ _ _ HT61.out (fun q => newAt_len Lg _ q)).mono ?_; rintro e w62 ⟨⟨rv, rfl, hrd⟩, b62⟩; have d62 : Below w61.heap.size w61 w62 := (Below.trans (by go_grown) (b62.mono (by first | omega | (simp; done) | (simp; omega)))); have c62 : Below w.heap.size w w62 := c61.trans (d62.mono c61.size); have a0_62 : w62.cell? ⟨w.heap.size, 0, none⟩ = some (.int .i64 p) := (by rw [b62.cell (by first | omega | (simp; done) | (simp; omega))]; go_cell); have a1_62 : w62.cell? ⟨w.heap.size, 1, none⟩ = some (.int .i64 f) := (by rw [b62.cell (by first | omega | (simp; done) | (simp; omega))]; go_cell); have a2_62 : w62.cell? ⟨w.heap.size, 2, none⟩ = some (.int .i64 st) := (by rw [b62.cell (by first | omega | (simp; done) | (simp; omega))]; go_cell); have a3_62 : w62.cell? ⟨w.heap.size, 3, none⟩ = some (.slice ro R.length rc) := (by rw [b62.cell (by first | omega | (simp; done) | (simp; omega))]; go_cell); have a4_62 : w62.cell? ⟨w.heap.size, 4, none⟩ = some (v1) := (by rw [b62.cell (by first | omega | (simp; done) | (simp; omega))]; go_cell); have a5_62 : w62.cell? ⟨w.heap.size, 5, none⟩ = some (v2) := (by rw [b62.cell (by first | omega | (simp; done) | (simp; omega))]; go_cell); have a6_62 : w62.cell? ⟨w.heap.size, 6, none⟩ = some (v3) := (by rw [b62.cell (by first | omega | (simp; done) | (simp; omega))]; go_cell); have a7_62 : w62.cell? ⟨w.heap.size, 7, none⟩ = some (.slice lo Lg.length lc) := (by rw [b62.cell (by first | omega | (simp; done) | (simp; omega))]; go_cell); have al_62 : w.heap.size < w62.heap.size := (by have := b62.size; first | omega | (revert this; simp; done) | (revert this; simp; omega)); clear a0_61 a1_61 a2_61 a3_61 a4_61 a5_61 a6_61 a7_61 al_61; have k7_62 := (d62.cell (p := ⟨K, 7, none⟩) (Nat.lt_of_lt_of_le hKl d61.size)).trans k7_61; have HRR := hid hrd; have HR62 := hid ((HR60.out.later d61).later d62); obtain ⟨rro, rrc, hrv, _⟩ := hrd; subst hrv)
          | (go_at_call 82; refine (equalRows_is (lb := newRows Lg) HE2.out (HR62.out.later (by go_grown)) (HRR.out.later (by go_grown))).mono ?_; rintro e w63 ⟨rfl, b63⟩; have d63 : Below w62.heap.size w62 w63 := (Below.trans (by go_grown) (b63.mono (by first | omega | (simp; done) | (simp; omega)))); have c63 : Below w.heap.size w w63 := c62.trans (d63.mono c62.size); have a0_63 : w63.cell? ⟨w.heap.size, 0, none⟩ = some (.int .i64 p) := (by rw [b63.cell (by first | omega | (simp; done) | (simp; omega))]; go_cell); have a1_63 : w63.cell? ⟨w.heap.size, 1, none⟩ = some (.int .i64 f) := (by rw [b63.cell (by first | omega | (simp; done) | (simp; omega))]; go_cell); have a2_63 : w63.cell? ⟨w.heap.size, 2, none⟩ = some (.int .i64 st) := (by rw [b63.cell (by first | omega | (simp; done) | (simp; omega))]; go_cell); have a3_63 : w63.cell? ⟨w.heap.size, 3, none⟩ = some (.slice ro R.length rc) := (by rw [b63.cell (by first | omega | (simp; done) | (simp; omega))]; go_cell); have a4_63 : w63.cell? ⟨w.heap.size, 4, none⟩ = some (v1) := (by rw [b63.cell (by first | omega | (simp; done) | (simp; omega))]; go_cell); have a5_63 : w63.cell? ⟨w.heap.size, 5, none⟩ = some (v2) := (by rw [b63.cell (by first | omega | (simp; done) | (simp; omega))]; go_cell); have a6_63 : w63.cell? ⟨w.heap.size, 6, none⟩ = some (v3) := (by rw [b63.cell (by first | omega | (simp; done) | (simp; omega))]; go_cell); have a7_63 : w63.cell? ⟨w.heap.size, 7, none⟩ = some (.slice lo Lg.length lc) := (by rw [b63.cell (by first | omega | (simp; done) | (simp; omega))]; go_cell); have al_63 : w.heap.size < w63.heap.size := (by have := b63.size; first | omega | (revert this; simp; done) | (revert this; simp; omega)); clear a0_62 a1_62 a2_62 a3_62 a4_62 a5_62 a6_62 a7_62 al_62; have k7_63 := (d63.cell (p := ⟨K, 7, none⟩) (Nat.lt_of_lt_of_le hKl (Nat.le_trans d61.size d62.size))).trans k7_62))
        all_goals
          go_wp2
          go_ret
          exact ⟨by simp [hyes], c63⟩
end Go.Proofs.YtefhpbcdjgllnaaGreat

/- Part: impl.ShardOk: contract. Written by a program (gso.py). -/
namespace Go.Proofs.YtefhpbcdjgllnaaGreat
open Go.RowKit
attribute [local go_sem ↓] Go.wp_at_zero Go.wp_at_succ

set_option maxRecDepth 100000 in
set_option maxHeartbeats 4000000 in
theorem implSOk_any (p f st : Int) (v0 v1 v2 v3 v4 : Value) (R D T S Lg : List KD) (w : World) (h : RSShard w v0 v1 v2 v3 v4 R D T S Lg) :
    Calls Tryz.prog 28 #[.agg #[.int .i64 p, .int .i64 f, .int .i64 st, v0, v1, v2, v3, v4]] w fun e w' => e = .returned (.bool (okS p f st R D T S Lg)) ∧ Below w.heap.size w w' := by
  have H := hid h
  obtain ⟨o0, o1, o2, o3, o4, q0, q1, q2, q3, q4, rfl, rfl, rfl, rfl, rfl⟩ := h.open
  clear h
  go_enter Tryz.func28, Tryz.ntmps28
  by_cases hp : 0 ≤ p ∧ p < 2
  case neg =>
    have hno : okS p f st R D T S Lg = false := by
      unfold okS
      rw [decide_eq_false hp]
      simp
    go_wp2_with fail
    refine (partOk_any p _).mono ?_
    rintro e w2 ⟨rfl, rfl⟩
    rw [decide_eq_false hp]
    go_wp2
    go_ret
    exact ⟨by first | (simp; done) | simp [hno], by go_grown⟩
  by_cases hf : 0 ≤ f
  case neg =>
    have hno : okS p f st R D T S Lg = false := by
      unfold okS
      rw [decide_eq_false hf]
      simp
    have gf : decide (f ≥ 0) = false := by simp; omega
    go_wp2_with fail
    refine (partOk_any p _).mono ?_
    rintro e w2 ⟨rfl, rfl⟩
    rw [decide_eq_true hp]
    go_wp2
    go_ret
    exact ⟨by first | (simp; done) | simp [hno], by go_grown⟩
  have gf : decide (f ≥ 0) = true := by simp; omega
  by_cases hs0 : 0 ≤ st
  case neg =>
    have hno : okS p f st R D T S Lg = false := by
      unfold okS
      rw [decide_eq_false (show ¬ (0 ≤ st ∧ st ≤ 60) from fun z => hs0 z.1)]
      simp
    have gs0 : decide (0 ≤ st) = false := by simp; omega
    go_wp2_with fail
    refine (partOk_any p _).mono ?_
    rintro e w2 ⟨rfl, rfl⟩
    rw [decide_eq_true hp]
    go_wp2
    go_ret
    exact ⟨by first | (simp; done) | simp [hno], by go_grown⟩
  have gs0 : decide (0 ≤ st) = true := by simp; omega
  by_cases hs1 : st ≤ 60
  case neg =>
    have hno : okS p f st R D T S Lg = false := by
      unfold okS
      rw [decide_eq_false (show ¬ (0 ≤ st ∧ st ≤ 60) from fun z => hs1 z.2)]
      simp
    have gs1 : decide (st ≤ 60) = false := by simp; omega
    go_wp2_with fail
    refine (partOk_any p _).mono ?_
    rintro e w2 ⟨rfl, rfl⟩
    rw [decide_eq_true hp]
    go_wp2
    go_ret
    exact ⟨by first | (simp; done) | simp [hno], by go_grown⟩
  have gs1 : decide (st ≤ 60) = true := by simp; omega
  have hs : 0 ≤ st ∧ st ≤ 60 := ⟨hs0, hs1⟩
  have hd0 : decide (0 ≤ p ∧ p < 2) = true := decide_eq_true hp
  have hd1 : decide (0 ≤ f) = true := decide_eq_true hf
  have hd2 : decide (0 ≤ st ∧ st ≤ 60) = true := decide_eq_true hs
  have HOK : Hid (okS p f st R D T S Lg = (logB p R Lg && (donesB p R D && (intsB p st T && seenB p S)))) := hid (by
    unfold okS
    rw [hd0, hd1, hd2]
    simp only [Bool.true_and])
  have HP := hid hp
  clear hd0 hd1 hd2
  go_wp2_with fail
  refine (partOk_any p _).mono ?_
  rintro e w2 ⟨rfl, rfl⟩
  rw [decide_eq_true hp]
  go_wp2_with fail
  generalize hW1 : (w.alloc (.cells #[.int .i64 p, .int .i64 f, .int .i64 st, .slice o0 R.length q0, .slice o1 D.length q1, .slice o2 T.length q2, .slice o3 S.length q3, .slice o4 Lg.length q4] 43)) = w1
  have a0_1 : w1.cell? ⟨w.heap.size, 0, none⟩ = some (.int .i64 p) := by subst hW1; go_cell
  have a1_1 : w1.cell? ⟨w.heap.size, 1, none⟩ = some (.int .i64 f) := by subst hW1; go_cell
  have a2_1 : w1.cell? ⟨w.heap.size, 2, none⟩ = some (.int .i64 st) := by subst hW1; go_cell
  have a3_1 : w1.cell? ⟨w.heap.size, 3, none⟩ = some (.slice o0 R.length q0) := by subst hW1; go_cell
  have a4_1 : w1.cell? ⟨w.heap.size, 4, none⟩ = some (.slice o1 D.length q1) := by subst hW1; go_cell
  have a5_1 : w1.cell? ⟨w.heap.size, 5, none⟩ = some (.slice o2 T.length q2) := by subst hW1; go_cell
  have a6_1 : w1.cell? ⟨w.heap.size, 6, none⟩ = some (.slice o3 S.length q3) := by subst hW1; go_cell
  have a7_1 : w1.cell? ⟨w.heap.size, 7, none⟩ = some (.slice o4 Lg.length q4) := by subst hW1; go_cell
  have al_1 : w.heap.size < w1.heap.size := by subst hW1; first | (simp; done) | (simp; omega)
  have c1 : Below w.heap.size w w1 := by subst hW1; go_grown
  have s1 : w1.heap.size = w.heap.size + 1 := by subst hW1; simp
  clear hW1
  have qa0_1 := cell_regrown a0_1
  have qa1_1 := cell_regrown a1_1
  have qa2_1 := cell_regrown a2_1
  have qa3_1 := cell_regrown a3_1
  have qa4_1 := cell_regrown a4_1
  have qa5_1 := cell_regrown a5_1
  have qa6_1 := cell_regrown a6_1
  have qa7_1 := cell_regrown a7_1
  clear qa0_1 qa1_1 qa2_1 qa3_1 qa4_1 qa5_1 qa6_1 qa7_1
  refine (logRight_any p f st _ _ _ _ _ R Lg _ (H.out.h0.later c1) (H.out.h4.later c1)).mono ?_
  rintro e w2 ⟨rfl, b2⟩
  have d2 : Below w1.heap.size w1 w2 := (Below.trans (by go_grown) (b2.mono (by first | omega | (simp; done) | (simp; omega))))
  have c2 : Below w.heap.size w w2 := c1.trans (d2.mono c1.size)
  have a0_2 : w2.cell? ⟨w.heap.size, 0, none⟩ = some (.int .i64 p) := (by rw [b2.cell (by first | omega | (simp; done) | (simp; omega))]; go_cell)
  have a1_2 : w2.cell? ⟨w.heap.size, 1, none⟩ = some (.int .i64 f) := (by rw [b2.cell (by first | omega | (simp; done) | (simp; omega))]; go_cell)
  have a2_2 : w2.cell? ⟨w.heap.size, 2, none⟩ = some (.int .i64 st) := (by rw [b2.cell (by first | omega | (simp; done) | (simp; omega))]; go_cell)
  have a3_2 : w2.cell? ⟨w.heap.size, 3, none⟩ = some (.slice o0 R.length q0) := (by rw [b2.cell (by first | omega | (simp; done) | (simp; omega))]; go_cell)
  have a4_2 : w2.cell? ⟨w.heap.size, 4, none⟩ = some (.slice o1 D.length q1) := (by rw [b2.cell (by first | omega | (simp; done) | (simp; omega))]; go_cell)
  have a5_2 : w2.cell? ⟨w.heap.size, 5, none⟩ = some (.slice o2 T.length q2) := (by rw [b2.cell (by first | omega | (simp; done) | (simp; omega))]; go_cell)
  have a6_2 : w2.cell? ⟨w.heap.size, 6, none⟩ = some (.slice o3 S.length q3) := (by rw [b2.cell (by first | omega | (simp; done) | (simp; omega))]; go_cell)
  have a7_2 : w2.cell? ⟨w.heap.size, 7, none⟩ = some (.slice o4 Lg.length q4) := (by rw [b2.cell (by first | omega | (simp; done) | (simp; omega))]; go_cell)
  have al_2 : w.heap.size < w2.heap.size := (by have := b2.size; first | omega | (revert this; simp; done) | (revert this; simp; omega))
  clear a0_1 a1_1 a2_1 a3_1 a4_1 a5_1 a6_1 a7_1 al_1
  clear b2 d2
  cases hb0 : logB p R Lg with
  | false =>
    have hno : okS p f st R D T S Lg = false := by rw [HOK.out, hb0]; simp
    go_wp2
    go_ret
    exact ⟨by simp [hno], c2⟩
  | true =>
    have HB0 := hid hb0
    have HR24 := hid ((of_decide_eq_true hb0).1)
    clear hb0
    go_wp2_with fail
    refine (donesRight_any p f st _ _ _ _ _ R D _ (H.out.h0.later c2) (H.out.h1.later c2) HR24.out HP.out.1).mono ?_
    rintro e w3 ⟨rfl, b3⟩
    have d3 : Below w2.heap.size w2 w3 := (Below.trans (by go_grown) (b3.mono (by first | omega | (simp; done) | (simp; omega))))
    have c3 : Below w.heap.size w w3 := c2.trans (d3.mono c2.size)
    have a0_3 : w3.cell? ⟨w.heap.size, 0, none⟩ = some (.int .i64 p) := (by rw [b3.cell (by first | omega | (simp; done) | (simp; omega))]; go_cell)
    have a1_3 : w3.cell? ⟨w.heap.size, 1, none⟩ = some (.int .i64 f) := (by rw [b3.cell (by first | omega | (simp; done) | (simp; omega))]; go_cell)
    have a2_3 : w3.cell? ⟨w.heap.size, 2, none⟩ = some (.int .i64 st) := (by rw [b3.cell (by first | omega | (simp; done) | (simp; omega))]; go_cell)
    have a3_3 : w3.cell? ⟨w.heap.size, 3, none⟩ = some (.slice o0 R.length q0) := (by rw [b3.cell (by first | omega | (simp; done) | (simp; omega))]; go_cell)
    have a4_3 : w3.cell? ⟨w.heap.size, 4, none⟩ = some (.slice o1 D.length q1) := (by rw [b3.cell (by first | omega | (simp; done) | (simp; omega))]; go_cell)
    have a5_3 : w3.cell? ⟨w.heap.size, 5, none⟩ = some (.slice o2 T.length q2) := (by rw [b3.cell (by first | omega | (simp; done) | (simp; omega))]; go_cell)
    have a6_3 : w3.cell? ⟨w.heap.size, 6, none⟩ = some (.slice o3 S.length q3) := (by rw [b3.cell (by first | omega | (simp; done) | (simp; omega))]; go_cell)
    have a7_3 : w3.cell? ⟨w.heap.size, 7, none⟩ = some (.slice o4 Lg.length q4) := (by rw [b3.cell (by first | omega | (simp; done) | (simp; omega))]; go_cell)
    have al_3 : w.heap.size < w3.heap.size := (by have := b3.size; first | omega | (revert this; simp; done) | (revert this; simp; omega))
    clear a0_2 a1_2 a2_2 a3_2 a4_2 a5_2 a6_2 a7_2 al_2
    clear b3 d3
    cases hb1 : donesB p R D with
    | false =>
      have hno : okS p f st R D T S Lg = false := by rw [HOK.out, HB0.out, hb1]; simp
      go_wp2
      go_ret
      exact ⟨by simp [hno], c3⟩
    | true =>
      have HB1 := hid hb1
      clear hb1
      go_wp2_with fail
      refine (intentsRight_any p f st _ _ _ _ _ T _ (H.out.h2.later c3) HP.out.1).mono ?_
      rintro e w4 ⟨rfl, b4⟩
      have d4 : Below w3.heap.size w3 w4 := (Below.trans (by go_grown) (b4.mono (by first | omega | (simp; done) | (simp; omega))))
      have c4 : Below w.heap.size w w4 := c3.trans (d4.mono c3.size)
      have a0_4 : w4.cell? ⟨w.heap.size, 0, none⟩ = some (.int .i64 p) := (by rw [b4.cell (by first | omega | (simp; done) | (simp; omega))]; go_cell)
      have a1_4 : w4.cell? ⟨w.heap.size, 1, none⟩ = some (.int .i64 f) := (by rw [b4.cell (by first | omega | (simp; done) | (simp; omega))]; go_cell)
      have a2_4 : w4.cell? ⟨w.heap.size, 2, none⟩ = some (.int .i64 st) := (by rw [b4.cell (by first | omega | (simp; done) | (simp; omega))]; go_cell)
      have a3_4 : w4.cell? ⟨w.heap.size, 3, none⟩ = some (.slice o0 R.length q0) := (by rw [b4.cell (by first | omega | (simp; done) | (simp; omega))]; go_cell)
      have a4_4 : w4.cell? ⟨w.heap.size, 4, none⟩ = some (.slice o1 D.length q1) := (by rw [b4.cell (by first | omega | (simp; done) | (simp; omega))]; go_cell)
      have a5_4 : w4.cell? ⟨w.heap.size, 5, none⟩ = some (.slice o2 T.length q2) := (by rw [b4.cell (by first | omega | (simp; done) | (simp; omega))]; go_cell)
      have a6_4 : w4.cell? ⟨w.heap.size, 6, none⟩ = some (.slice o3 S.length q3) := (by rw [b4.cell (by first | omega | (simp; done) | (simp; omega))]; go_cell)
      have a7_4 : w4.cell? ⟨w.heap.size, 7, none⟩ = some (.slice o4 Lg.length q4) := (by rw [b4.cell (by first | omega | (simp; done) | (simp; omega))]; go_cell)
      have al_4 : w.heap.size < w4.heap.size := (by have := b4.size; first | omega | (revert this; simp; done) | (revert this; simp; omega))
      clear a0_3 a1_3 a2_3 a3_3 a4_3 a5_3 a6_3 a7_3 al_3
      clear b4 d4
      cases hb2 : intsB p st T with
      | false =>
        have hno : okS p f st R D T S Lg = false := by rw [HOK.out, HB0.out, HB1.out, hb2]; simp
        go_wp2
        go_ret
        exact ⟨by simp [hno], c4⟩
      | true =>
        have HB2 := hid hb2
        clear hb2
        go_wp2_with fail
        refine (seenRight_any p f st _ _ _ _ _ S _ (H.out.h3.later c4) HP.out.1).mono ?_
        rintro e w5 ⟨rfl, b5⟩
        have d5 : Below w4.heap.size w4 w5 := (Below.trans (by go_grown) (b5.mono (by first | omega | (simp; done) | (simp; omega))))
        have c5 : Below w.heap.size w w5 := c4.trans (d5.mono c4.size)
        have a0_5 : w5.cell? ⟨w.heap.size, 0, none⟩ = some (.int .i64 p) := (by rw [b5.cell (by first | omega | (simp; done) | (simp; omega))]; go_cell)
        have a1_5 : w5.cell? ⟨w.heap.size, 1, none⟩ = some (.int .i64 f) := (by rw [b5.cell (by first | omega | (simp; done) | (simp; omega))]; go_cell)
        have a2_5 : w5.cell? ⟨w.heap.size, 2, none⟩ = some (.int .i64 st) := (by rw [b5.cell (by first | omega | (simp; done) | (simp; omega))]; go_cell)
        have a3_5 : w5.cell? ⟨w.heap.size, 3, none⟩ = some (.slice o0 R.length q0) := (by rw [b5.cell (by first | omega | (simp; done) | (simp; omega))]; go_cell)
        have a4_5 : w5.cell? ⟨w.heap.size, 4, none⟩ = some (.slice o1 D.length q1) := (by rw [b5.cell (by first | omega | (simp; done) | (simp; omega))]; go_cell)
        have a5_5 : w5.cell? ⟨w.heap.size, 5, none⟩ = some (.slice o2 T.length q2) := (by rw [b5.cell (by first | omega | (simp; done) | (simp; omega))]; go_cell)
        have a6_5 : w5.cell? ⟨w.heap.size, 6, none⟩ = some (.slice o3 S.length q3) := (by rw [b5.cell (by first | omega | (simp; done) | (simp; omega))]; go_cell)
        have a7_5 : w5.cell? ⟨w.heap.size, 7, none⟩ = some (.slice o4 Lg.length q4) := (by rw [b5.cell (by first | omega | (simp; done) | (simp; omega))]; go_cell)
        have al_5 : w.heap.size < w5.heap.size := (by have := b5.size; first | omega | (revert this; simp; done) | (revert this; simp; omega))
        clear a0_4 a1_4 a2_4 a3_4 a4_4 a5_4 a6_4 a7_4 al_4
        clear b5 d5
        have hyes : okS p f st R D T S Lg = seenB p S := by rw [HOK.out, HB0.out, HB1.out, HB2.out]; simp
        go_wp2
        go_ret
        exact ⟨by simp [hyes], c5⟩
end Go.Proofs.YtefhpbcdjgllnaaGreat

/- Part: What an item and the floors are asked (the program's side): contracts of verRight, itemRight, floorsRight. -/
namespace Go.Proofs.YtefhpbcdjgllnaaGreat
open Go.RowKit
attribute [local go_sem ↓] Go.wp_at_zero Go.wp_at_succ

theorem verRight_any (a : Int) (w : World) : Calls Tryz.prog 59 #[.int .i64 a] w fun e w' => e = .returned (.bool (verR a)) ∧ w' = w := by
  go_enter Tryz.func59, Tryz.ntmps59
  go_wp2
  all_goals
    go_ret
    exact ⟨by first | (simp_all [verR]; done) | (simp_all [verR]; omega), rfl⟩
set_option maxHeartbeats 1000000 in
theorem itemRight_any (p0 p1 p2 : Int) (v : Value) (l : List (Int × Int)) (w : World) (h : Rd w v l) :
    Calls Tryz.prog 29 #[.agg #[.int .i64 p0, .int .i64 p1, .int .i64 p2, v]] w fun e w' => e = .returned (.bool (itR p0 p1 p2 l)) ∧ Below w.heap.size w w' := by
  have HR := hid h
  obtain ⟨ao, ac, hv, _⟩ := h
  subst hv
  go_enter Tryz.func29, Tryz.ntmps29
  go_wp2_with fail
  generalize hW1 : (w.alloc (.cells #[.int .i64 p0, .int .i64 p1, .int .i64 p2, .slice ao l.length ac] 49)) = w1
  have a0_1 : w1.cell? ⟨w.heap.size, 0, none⟩ = some (.int .i64 p0) := by subst hW1; go_cell
  have a1_1 : w1.cell? ⟨w.heap.size, 1, none⟩ = some (.int .i64 p1) := by subst hW1; go_cell
  have a2_1 : w1.cell? ⟨w.heap.size, 2, none⟩ = some (.int .i64 p2) := by subst hW1; go_cell
  have a3_1 : w1.cell? ⟨w.heap.size, 3, none⟩ = some (.slice ao l.length ac) := by subst hW1; go_cell
  have al_1 : w.heap.size < w1.heap.size := by subst hW1; first | (simp; done) | (simp; omega)
  have c1 : Below w.heap.size w w1 := by subst hW1; go_grown
  have s1 : w1.heap.size = w.heap.size + 1 := by subst hW1; simp
  clear hW1
  have qa0_1 := cell_regrown a0_1
  have qa1_1 := cell_regrown a1_1
  have qa2_1 := cell_regrown a2_1
  have qa3_1 := cell_regrown a3_1
  refine (verRight_any p1 _).mono ?_
  rintro e w2 ⟨rfl, rfl⟩
  cases hv : verR p1 with
  | false =>
    go_wp2_with fail
    go_ret
    exact ⟨by simp [itR, hv], c1⟩
  | true =>
    go_wp2_with fail
    refine (implOkV_any p0 p2 _ l _ (HR.out.later c1)).mono ?_
    rintro e w3 ⟨rfl, b3⟩
    have c3 := c1.trans (b3.mono c1.size)
    go_wp2_with fail
    go_ret
    exact ⟨by simp [itR, hv], c3⟩
/-- Where the first floor stands that is wrong. -/
def FirstBad (L : List KD) (e : Ending) : Prop := (FlrTo L L.length ∧ e = .returned (.int .i64 (-1))) ∨ (¬ FlrTo L L.length ∧ ∃ n : Nat, e = .returned (.int .i64 n))
theorem FlrTo.more {L : List KD} {k : Nat} (h : FlrTo L k) (hv : verR (flr L k) = true) : FlrTo L (k + 1) := by
  intro j hj
  by_cases e : j = k
  · rw [e]; exact hv
  · exact h j (by omega)
end Go.Proofs.YtefhpbcdjgllnaaGreat

/- Part: impl.ToldWas: contract. Written by a program (gtw.py). -/
namespace Go.Proofs.YtefhpbcdjgllnaaGreat
open Go.RowKit
attribute [local go_sem ↓] Go.wp_at_zero Go.wp_at_succ

theorem implSOk_is {p f st : Int} {v0 v1 v2 v3 v4 : Value} {R D T S Lg : List KD} {r : Bool} (hr : okS p f st R D T S Lg = r) (w : World) (h : RSShard w v0 v1 v2 v3 v4 R D T S Lg) :
    Calls Tryz.prog 28 #[.agg #[.int .i64 p, .int .i64 f, .int .i64 st, v0, v1, v2, v3, v4]] w fun e w' => e = .returned (.bool r) ∧ Below w.heap.size w w' := hr ▸ implSOk_any p f st v0 v1 v2 v3 v4 R D T S Lg w h
theorem itemRight_is {k p1 n : Int} {u : Value} {l : List (Int × Int)} {r : Bool} (hr : itemB k p1 n l = r) (w : World) (h : Rd w u l) : Calls Tryz.prog 29 #[.agg #[.int .i64 k, .int .i64 p1, .int .i64 n, u]] w fun e w' => e = .returned (.bool r) ∧ Below w.heap.size w w' := hr ▸ itemRight_any k p1 n u l w h
theorem wasSo_is {v u : Value} {Lg : List KD} {k p1 n : Int} {l : List (Int × Int)} {r : Bool} (hr : wasB Lg k p1 n l = r) (w : World) (h : RdM 4 3 true w v Lg) (hu : Rd w u l) :
    Calls Tryz.prog 31 #[v, .agg #[.int .i64 k, .int .i64 p1, .int .i64 n, u]] w fun e w' => e = .returned (.bool r) ∧ Below w.heap.size w w' := hr ▸ wasSo_any v u Lg k p1 n l w h hu
set_option maxRecDepth 100000 in
set_option maxHeartbeats 8000000 in
theorem implToldWas_any (p f st : Int) (v0 v1 v2 v3 v4 : Value) (R D T S Lg : List KD) (k p1 n : Int) (u : Value) (l : List (Int × Int)) (w : World) (ha : RSShard w v0 v1 v2 v3 v4 R D T S Lg) (hu : Rd w u l) :
    Calls Tryz.prog 9 #[.agg #[.int .i64 p, .int .i64 f, .int .i64 st, v0, v1, v2, v3, v4], .agg #[.int .i64 k, .int .i64 p1, .int .i64 n, u]] w fun e w' => e = .returned (.bool (toldWasB k p1 n l p f st R D T S Lg)) ∧ Below w.heap.size w w' := by
  have HA := hid ha
  have HU := hid hu
  obtain ⟨o0, o1, o2, o3, o4, q0, q1, q2, q3, q4, rfl, rfl, rfl, rfl, rfl⟩ := ha.open
  obtain ⟨uo, uc, rfl, _⟩ := hu
  clear ha
  go_enter Tryz.func9, Tryz.ntmps9
  go_upto_region 1 with fail
  generalize hW1 : ((w.alloc (.cells #[.int .i64 p, .int .i64 f, .int .i64 st, .slice o0 R.length q0, .slice o1 D.length q1, .slice o2 T.length q2, .slice o3 S.length q3, .slice o4 Lg.length q4] 43)).alloc (.cells #[.int .i64 k, .int .i64 p1, .int .i64 n, .slice uo l.length uc] 49)) = w1
  have a0_1 : w1.cell? ⟨w.heap.size, 0, none⟩ = some (.int .i64 p) := by subst hW1; go_cell
  have a1_1 : w1.cell? ⟨w.heap.size, 1, none⟩ = some (.int .i64 f) := by subst hW1; go_cell
  have a2_1 : w1.cell? ⟨w.heap.size, 2, none⟩ = some (.int .i64 st) := by subst hW1; go_cell
  have a3_1 : w1.cell? ⟨w.heap.size, 3, none⟩ = some (.slice o0 R.length q0) := by subst hW1; go_cell
  have a4_1 : w1.cell? ⟨w.heap.size, 4, none⟩ = some (.slice o1 D.length q1) := by subst hW1; go_cell
  have a5_1 : w1.cell? ⟨w.heap.size, 5, none⟩ = some (.slice o2 T.length q2) := by subst hW1; go_cell
  have a6_1 : w1.cell? ⟨w.heap.size, 6, none⟩ = some (.slice o3 S.length q3) := by subst hW1; go_cell
  have a7_1 : w1.cell? ⟨w.heap.size, 7, none⟩ = some (.slice o4 Lg.length q4) := by subst hW1; go_cell
  have al_1 : w.heap.size < w1.heap.size := by subst hW1; first | (simp; done) | (simp; omega)
  have b0_1 : w1.cell? ⟨w.heap.size + 1, 0, none⟩ = some (.int .i64 k) := by subst hW1; go_cell
  have b1_1 : w1.cell? ⟨w.heap.size + 1, 1, none⟩ = some (.int .i64 p1) := by subst hW1; go_cell
  have b2_1 : w1.cell? ⟨w.heap.size + 1, 2, none⟩ = some (.int .i64 n) := by subst hW1; go_cell
  have b3_1 : w1.cell? ⟨w.heap.size + 1, 3, none⟩ = some (.slice uo l.length uc) := by subst hW1; go_cell
  have bl_1 : w.heap.size + 1 < w1.heap.size := by subst hW1; first | (simp; done) | (simp; omega)
  have c1 : Below w.heap.size w w1 := by subst hW1; go_grown
  have s1 : w1.heap.size = w.heap.size + 2 := by subst hW1; simp
  clear hW1
  have qa0_1 := cell_regrown a0_1
  have qa1_1 := cell_regrown a1_1
  have qa2_1 := cell_regrown a2_1
  have qa3_1 := cell_regrown a3_1
  have qa4_1 := cell_regrown a4_1
  have qa5_1 := cell_regrown a5_1
  have qa6_1 := cell_regrown a6_1
  have qa7_1 := cell_regrown a7_1
  have qb0_1 := cell_regrown b0_1
  have qb1_1 := cell_regrown b1_1
  have qb2_1 := cell_regrown b2_1
  have qb3_1 := cell_regrown b3_1
  clear qa0_1 qa1_1 qa2_1 qa3_1 qa4_1 qa5_1 qa6_1 qa7_1 qb0_1 qb1_1 qb2_1 qb3_1 s1
  have ra0 := cell_regrown a0_1
  have ra1 := cell_regrown a1_1
  have ra2 := cell_regrown a2_1
  have ra3 := cell_regrown a3_1
  have ra4 := cell_regrown a4_1
  have ra5 := cell_regrown a5_1
  have ra6 := cell_regrown a6_1
  have ra7 := cell_regrown a7_1
  have rb0 := cell_regrown b0_1
  have rb1 := cell_regrown b1_1
  have rb2 := cell_regrown b2_1
  have rb3 := cell_regrown b3_1
  have HA1 := hid (HA.out.later c1)
  have HU1 := hid (HU.out.later c1)
  have HQ2 : Hid (wasB Lg k p1 n l = wasB Lg k p1 n l) := hid rfl
  cases hs : okS p f st R D T S Lg with
  | false =>
    have HQ0 := hid hs
    have HQ1 : Hid (itemB k p1 n l = itemB k p1 n l) := hid rfl
    have hno : toldWasB k p1 n l p f st R D T S Lg = false := by
      unfold toldWasB
      rw [hs, Bool.false_and]
    refine wp_region_quiet_below (by kernel_rfl) (by kernel_rfl) ?_
    repeat (first | go_big_quiet_skip | (go_big_quiet_want; go_big_quiet_op; first | go_big_quiet_on | go_big_quiet_call (first | (go_at_call 28; exact Calls.regrown_of (implSOk_is HQ0.out _ (HA1.out.later (below_regrown _ _ _)))) | (go_at_call 29; exact Calls.regrown_of (itemRight_is HQ1.out _ (HU1.out.later (below_regrown _ _ _)))) | (go_at_call 30; exact Calls.regrown_of (implShard_b _ _)) | (go_at_call 31; exact Calls.regrown_of (wasSo_is HQ2.out _ (HA1.out.later (below_regrown _ _ _)).h4 (HU1.out.later (below_regrown _ _ _)))))))
    refine wpQuiet_nil ?_
    rintro wq ⟨pq, hwq⟩
    have hq : Below w1.heap.size w1 wq := by rw [hwq]; exact below_regrown _ _ _
    clear hwq pq
    have cq := c1.trans (hq.mono c1.size)
    go_wp2
    go_ret
    exact ⟨by first | (simp; done) | simp [hno], cq⟩
  | true =>
    have HQ0 := hid hs
    cases hi : itemB k p1 n l with
    | false =>
      have HQ1 := hid hi
      have hno : toldWasB k p1 n l p f st R D T S Lg = false := by
        unfold toldWasB
        rw [hs, hi, Bool.true_and, Bool.false_and]
      refine wp_region_quiet_below (by kernel_rfl) (by kernel_rfl) ?_
      repeat (first | go_big_quiet_skip | (go_big_quiet_want; go_big_quiet_op; first | go_big_quiet_on | go_big_quiet_call (first | (go_at_call 28; exact Calls.regrown_of (implSOk_is HQ0.out _ (HA1.out.later (below_regrown _ _ _)))) | (go_at_call 29; exact Calls.regrown_of (itemRight_is HQ1.out _ (HU1.out.later (below_regrown _ _ _)))) | (go_at_call 30; exact Calls.regrown_of (implShard_b _ _)) | (go_at_call 31; exact Calls.regrown_of (wasSo_is HQ2.out _ (HA1.out.later (below_regrown _ _ _)).h4 (HU1.out.later (below_regrown _ _ _)))))))
      refine wpQuiet_nil ?_
      rintro wq ⟨pq, hwq⟩
      have hq : Below w1.heap.size w1 wq := by rw [hwq]; exact below_regrown _ _ _
      clear hwq pq
      have cq := c1.trans (hq.mono c1.size)
      go_wp2
      go_ret
      exact ⟨by first | (simp; done) | simp [hno], cq⟩
    | true =>
      have HQ1 := hid hi
      by_cases hp : partOf k = p
      case neg =>
        have g0 : (partOf k == p) = false := by simpa using hp
        have hno : toldWasB k p1 n l p f st R D T S Lg = false := by
          unfold toldWasB
          rw [hs, hi, Bool.true_and, Bool.true_and, decide_eq_false hp, Bool.false_and]
        refine wp_region_quiet_below (by kernel_rfl) (by kernel_rfl) ?_
        repeat (first | go_big_quiet_skip | (go_big_quiet_want; go_big_quiet_op; first | go_big_quiet_on | go_big_quiet_call (first | (go_at_call 28; exact Calls.regrown_of (implSOk_is HQ0.out _ (HA1.out.later (below_regrown _ _ _)))) | (go_at_call 29; exact Calls.regrown_of (itemRight_is HQ1.out _ (HU1.out.later (below_regrown _ _ _)))) | (go_at_call 30; exact Calls.regrown_of (implShard_b _ _)) | (go_at_call 31; exact Calls.regrown_of (wasSo_is HQ2.out _ (HA1.out.later (below_regrown _ _ _)).h4 (HU1.out.later (below_regrown _ _ _)))))))
        refine wpQuiet_nil ?_
        rintro wq ⟨pq, hwq⟩
        have hq : Below w1.heap.size w1 wq := by rw [hwq]; exact below_regrown _ _ _
        clear hwq pq
        have cq := c1.trans (hq.mono c1.size)
        go_wp2
        go_ret
        exact ⟨by first | (simp; done) | simp [hno], cq⟩
      have g0 : (partOf k == p) = true := by simpa using hp
      have HRES : Hid (toldWasB k p1 n l p f st R D T S Lg = wasB Lg k p1 n l) := hid (by
        unfold toldWasB
        rw [hs, hi, decide_eq_true hp]
        simp)
      have HPK := hid hp
      clear hs hi hp
      refine wp_region_quiet_below (by kernel_rfl) (by kernel_rfl) ?_
      repeat (first | go_big_quiet_skip | (go_big_quiet_want; go_big_quiet_op; first | go_big_quiet_on | go_big_quiet_call (first | (go_at_call 28; exact Calls.regrown_of (implSOk_is HQ0.out _ (HA1.out.later (below_regrown _ _ _)))) | (go_at_call 29; exact Calls.regrown_of (itemRight_is HQ1.out _ (HU1.out.later (below_regrown _ _ _)))) | (go_at_call 30; exact Calls.regrown_of (implShard_b _ _)) | (go_at_call 31; exact Calls.regrown_of (wasSo_is HQ2.out _ (HA1.out.later (below_regrown _ _ _)).h4 (HU1.out.later (below_regrown _ _ _)))))))
      refine wpQuiet_nil ?_
      rintro wq ⟨pq, hwq⟩
      have hq : Below w1.heap.size w1 wq := by rw [hwq]; exact below_regrown _ _ _
      clear hwq pq
      have cq := c1.trans (hq.mono c1.size)
      go_wp2
      go_ret
      exact ⟨by rw [HRES.out]; simp, cq⟩
end Go.Proofs.YtefhpbcdjgllnaaGreat

/- Part: The law FnExactToldWas: its walk. Written by a program (glaw2.py). -/
namespace Go.Proofs.YtefhpbcdjgllnaaGreat
open Go.RowKit
attribute [local go_sem ↓] Go.wp_at_zero Go.wp_at_succ

set_option maxRecDepth 100000 in
set_option maxHeartbeats 8000000 in
theorem lawTWas_any (p : Int) (f : Int) (st : Int) (va0 va1 va2 va3 va4 : Value) (A0 A1 A2 A3 A4 : List KD) (k p1 n : Int) (vb0 : Value) (l : List (Int × Int)) (w : World) (ha : RSShard w va0 va1 va2 va3 va4 A0 A1 A2 A3 A4) (hb : Rd w vb0 l) :
    Calls Tryz.prog 3 #[.agg #[.int .i64 p, .int .i64 f, .int .i64 st, va0, va1, va2, va3, va4], .agg #[.int .i64 k, .int .i64 p1, .int .i64 n, vb0]] w fun e w' => e = .returned (.bool true) ∧ Below w.heap.size w w' := by
  have HA := hid ha
  obtain ⟨ao0, ao1, ao2, ao3, ao4, ac0, ac1, ac2, ac3, ac4, rfl, rfl, rfl, rfl, rfl⟩ := ha.open
  have HB := hid hb
  obtain ⟨bo0, bc0, rfl⟩ := open_rd hb
  clear ha hb
  go_enter Tryz.func3, Tryz.ntmps3
  go_wp2_with fail
  generalize hW1 : ((w.alloc (.cells #[.int .i64 p, .int .i64 f, .int .i64 st, .slice ao0 A0.length ac0, .slice ao1 A1.length ac1, .slice ao2 A2.length ac2, .slice ao3 A3.length ac3, .slice ao4 A4.length ac4] 28)).alloc (.cells #[.int .i64 k, .int .i64 p1, .int .i64 n, .slice bo0 l.length bc0] 33)) = w1
  have a0_1 : w1.cell? ⟨w.heap.size, 0, none⟩ = some (.int .i64 p) := by subst hW1; go_cell
  have a1_1 : w1.cell? ⟨w.heap.size, 1, none⟩ = some (.int .i64 f) := by subst hW1; go_cell
  have a2_1 : w1.cell? ⟨w.heap.size, 2, none⟩ = some (.int .i64 st) := by subst hW1; go_cell
  have a3_1 : w1.cell? ⟨w.heap.size, 3, none⟩ = some (.slice ao0 A0.length ac0) := by subst hW1; go_cell
  have a4_1 : w1.cell? ⟨w.heap.size, 4, none⟩ = some (.slice ao1 A1.length ac1) := by subst hW1; go_cell
  have a5_1 : w1.cell? ⟨w.heap.size, 5, none⟩ = some (.slice ao2 A2.length ac2) := by subst hW1; go_cell
  have a6_1 : w1.cell? ⟨w.heap.size, 6, none⟩ = some (.slice ao3 A3.length ac3) := by subst hW1; go_cell
  have a7_1 : w1.cell? ⟨w.heap.size, 7, none⟩ = some (.slice ao4 A4.length ac4) := by subst hW1; go_cell
  have al_1 : w.heap.size < w1.heap.size := by subst hW1; first | (simp; done) | (simp; omega)
  have b0_1 : w1.cell? ⟨w.heap.size + 1, 0, none⟩ = some (.int .i64 k) := by subst hW1; go_cell
  have b1_1 : w1.cell? ⟨w.heap.size + 1, 1, none⟩ = some (.int .i64 p1) := by subst hW1; go_cell
  have b2_1 : w1.cell? ⟨w.heap.size + 1, 2, none⟩ = some (.int .i64 n) := by subst hW1; go_cell
  have b3_1 : w1.cell? ⟨w.heap.size + 1, 3, none⟩ = some (.slice bo0 l.length bc0) := by subst hW1; go_cell
  have bl_1 : w.heap.size + 1 < w1.heap.size := by subst hW1; first | (simp; done) | (simp; omega)
  have c1 : Below w.heap.size w w1 := by subst hW1; go_grown
  have s1 : w1.heap.size = w.heap.size + 2 := by subst hW1; simp
  clear hW1
  have qa0_1 := cell_regrown a0_1
  have qa1_1 := cell_regrown a1_1
  have qa2_1 := cell_regrown a2_1
  have qa3_1 := cell_regrown a3_1
  have qa4_1 := cell_regrown a4_1
  have qa5_1 := cell_regrown a5_1
  have qa6_1 := cell_regrown a6_1
  have qa7_1 := cell_regrown a7_1
  have qb0_1 := cell_regrown b0_1
  have qb1_1 := cell_regrown b1_1
  have qb2_1 := cell_regrown b2_1
  have qb3_1 := cell_regrown b3_1
  refine (szShard_rd p f st _ _ _ _ _ A0 A1 A2 A3 A4 _ _ (HA.out.later c1) (by omega) (by omega)).mono ?_
  rintro e w2 ⟨hs, b2⟩
  have d2 : Below w1.heap.size w1 w2 := (Below.trans (by go_grown) (b2.mono (by first | omega | (simp; done) | (simp; omega))))
  have c2 : Below w.heap.size w w2 := c1.trans (d2.mono c1.size)
  have a0_2 : w2.cell? ⟨w.heap.size, 0, none⟩ = some (.int .i64 p) := (by rw [b2.cell (by first | omega | (simp; done) | (simp; omega))]; go_cell)
  have a1_2 : w2.cell? ⟨w.heap.size, 1, none⟩ = some (.int .i64 f) := (by rw [b2.cell (by first | omega | (simp; done) | (simp; omega))]; go_cell)
  have a2_2 : w2.cell? ⟨w.heap.size, 2, none⟩ = some (.int .i64 st) := (by rw [b2.cell (by first | omega | (simp; done) | (simp; omega))]; go_cell)
  have a3_2 : w2.cell? ⟨w.heap.size, 3, none⟩ = some (.slice ao0 A0.length ac0) := (by rw [b2.cell (by first | omega | (simp; done) | (simp; omega))]; go_cell)
  have a4_2 : w2.cell? ⟨w.heap.size, 4, none⟩ = some (.slice ao1 A1.length ac1) := (by rw [b2.cell (by first | omega | (simp; done) | (simp; omega))]; go_cell)
  have a5_2 : w2.cell? ⟨w.heap.size, 5, none⟩ = some (.slice ao2 A2.length ac2) := (by rw [b2.cell (by first | omega | (simp; done) | (simp; omega))]; go_cell)
  have a6_2 : w2.cell? ⟨w.heap.size, 6, none⟩ = some (.slice ao3 A3.length ac3) := (by rw [b2.cell (by first | omega | (simp; done) | (simp; omega))]; go_cell)
  have a7_2 : w2.cell? ⟨w.heap.size, 7, none⟩ = some (.slice ao4 A4.length ac4) := (by rw [b2.cell (by first | omega | (simp; done) | (simp; omega))]; go_cell)
  have al_2 : w.heap.size < w2.heap.size := (by have := b2.size; first | omega | (revert this; simp; done) | (revert this; simp; omega))
  have b0_2 : w2.cell? ⟨w.heap.size + 1, 0, none⟩ = some (.int .i64 k) := (by rw [b2.cell (by first | omega | (simp; done) | (simp; omega))]; go_cell)
  have b1_2 : w2.cell? ⟨w.heap.size + 1, 1, none⟩ = some (.int .i64 p1) := (by rw [b2.cell (by first | omega | (simp; done) | (simp; omega))]; go_cell)
  have b2_2 : w2.cell? ⟨w.heap.size + 1, 2, none⟩ = some (.int .i64 n) := (by rw [b2.cell (by first | omega | (simp; done) | (simp; omega))]; go_cell)
  have b3_2 : w2.cell? ⟨w.heap.size + 1, 3, none⟩ = some (.slice bo0 l.length bc0) := (by rw [b2.cell (by first | omega | (simp; done) | (simp; omega))]; go_cell)
  have bl_2 : w.heap.size + 1 < w2.heap.size := (by have := b2.size; first | omega | (revert this; simp; done) | (revert this; simp; omega))
  clear a0_1 a1_1 a2_1 a3_1 a4_1 a5_1 a6_1 a7_1 al_1 b0_1 b1_1 b2_1 b3_1 bl_1
  clear b2 d2
  rcases hs with ⟨r, rfl, hr0, hr1, hA⟩ | rfl
  · have HLA := hid hA
    have hr2 : ¬ (r < 0) := by omega
    clear hA
    go_wp2_with fail
    refine (szItem_rd k p1 n _ l _ _ (HB.out.later c2) (by omega) (by omega)).mono ?_
    rintro e w3 ⟨hs, b3⟩
    have d3 : Below w2.heap.size w2 w3 := (Below.trans (by go_grown) (b3.mono (by first | omega | (simp; done) | (simp; omega))))
    have c3 : Below w.heap.size w w3 := c2.trans (d3.mono c2.size)
    have a0_3 : w3.cell? ⟨w.heap.size, 0, none⟩ = some (.int .i64 p) := (by rw [b3.cell (by first | omega | (simp; done) | (simp; omega))]; go_cell)
    have a1_3 : w3.cell? ⟨w.heap.size, 1, none⟩ = some (.int .i64 f) := (by rw [b3.cell (by first | omega | (simp; done) | (simp; omega))]; go_cell)
    have a2_3 : w3.cell? ⟨w.heap.size, 2, none⟩ = some (.int .i64 st) := (by rw [b3.cell (by first | omega | (simp; done) | (simp; omega))]; go_cell)
    have a3_3 : w3.cell? ⟨w.heap.size, 3, none⟩ = some (.slice ao0 A0.length ac0) := (by rw [b3.cell (by first | omega | (simp; done) | (simp; omega))]; go_cell)
    have a4_3 : w3.cell? ⟨w.heap.size, 4, none⟩ = some (.slice ao1 A1.length ac1) := (by rw [b3.cell (by first | omega | (simp; done) | (simp; omega))]; go_cell)
    have a5_3 : w3.cell? ⟨w.heap.size, 5, none⟩ = some (.slice ao2 A2.length ac2) := (by rw [b3.cell (by first | omega | (simp; done) | (simp; omega))]; go_cell)
    have a6_3 : w3.cell? ⟨w.heap.size, 6, none⟩ = some (.slice ao3 A3.length ac3) := (by rw [b3.cell (by first | omega | (simp; done) | (simp; omega))]; go_cell)
    have a7_3 : w3.cell? ⟨w.heap.size, 7, none⟩ = some (.slice ao4 A4.length ac4) := (by rw [b3.cell (by first | omega | (simp; done) | (simp; omega))]; go_cell)
    have al_3 : w.heap.size < w3.heap.size := (by have := b3.size; first | omega | (revert this; simp; done) | (revert this; simp; omega))
    have b0_3 : w3.cell? ⟨w.heap.size + 1, 0, none⟩ = some (.int .i64 k) := (by rw [b3.cell (by first | omega | (simp; done) | (simp; omega))]; go_cell)
    have b1_3 : w3.cell? ⟨w.heap.size + 1, 1, none⟩ = some (.int .i64 p1) := (by rw [b3.cell (by first | omega | (simp; done) | (simp; omega))]; go_cell)
    have b2_3 : w3.cell? ⟨w.heap.size + 1, 2, none⟩ = some (.int .i64 n) := (by rw [b3.cell (by first | omega | (simp; done) | (simp; omega))]; go_cell)
    have b3_3 : w3.cell? ⟨w.heap.size + 1, 3, none⟩ = some (.slice bo0 l.length bc0) := (by rw [b3.cell (by first | omega | (simp; done) | (simp; omega))]; go_cell)
    have bl_3 : w.heap.size + 1 < w3.heap.size := (by have := b3.size; first | omega | (revert this; simp; done) | (revert this; simp; omega))
    clear a0_2 a1_2 a2_2 a3_2 a4_2 a5_2 a6_2 a7_2 al_2 b0_2 b1_2 b2_2 b3_2 bl_2
    clear b3 d3
    rcases hs with ⟨q, rfl, hq0, hq1, hB⟩ | rfl
    · have HLB := hid hB
      have hq2 : ¬ (q < 0) := by omega
      clear hB hr0 hr1 hq0 hq1
      go_wp2_with fail
      obtain ⟨rv, hrv⟩ : ∃ z, toldWasB k p1 n l p f st A0 A1 A2 A3 A4 = z := ⟨_, rfl⟩
      have HRV := hid hrv
      clear hrv
      go_upto_region 8 with fail
      go_cut [6] from 10 (fun s wx => s = .bool rv ∧ Below w3.heap.size w3 wx)
      case first => as_aux_lemma =>
        go_region_with (first
          | (go_at_call 7; refine (toShard_rd p f st (.slice ao0 A0.length ac0) (.slice ao1 A1.length ac1) (.slice ao2 A2.length ac2) (.slice ao3 A3.length ac3) (.slice ao4 A4.length ac4) A0 A1 A2 A3 A4 _ (HA.out.later (c3.drew)) HLA.out).mono ?_; rintro e w4 ⟨⟨xo0, xo1, xo2, xo3, xo4, xc0, xc1, xc2, xc3, xc4, rfl, oa⟩, b4⟩; have OA4 := hid oa; clear oa; have d4 : Below w3.heap.size w3 w4 := (Below.trans (by go_grown) (b4.mono (by first | omega | (simp; done) | (simp; omega)))); have c4 : Below w.heap.size w w4 := c3.trans (d4.mono c3.size); have a0_4 : w4.cell? ⟨w.heap.size, 0, none⟩ = some (.int .i64 p) := (by rw [b4.cell (by first | omega | (simp; done) | (simp; omega))]; go_cell); have a1_4 : w4.cell? ⟨w.heap.size, 1, none⟩ = some (.int .i64 f) := (by rw [b4.cell (by first | omega | (simp; done) | (simp; omega))]; go_cell); have a2_4 : w4.cell? ⟨w.heap.size, 2, none⟩ = some (.int .i64 st) := (by rw [b4.cell (by first | omega | (simp; done) | (simp; omega))]; go_cell); have a3_4 : w4.cell? ⟨w.heap.size, 3, none⟩ = some (.slice ao0 A0.length ac0) := (by rw [b4.cell (by first | omega | (simp; done) | (simp; omega))]; go_cell); have a4_4 : w4.cell? ⟨w.heap.size, 4, none⟩ = some (.slice ao1 A1.length ac1) := (by rw [b4.cell (by first | omega | (simp; done) | (simp; omega))]; go_cell); have a5_4 : w4.cell? ⟨w.heap.size, 5, none⟩ = some (.slice ao2 A2.length ac2) := (by rw [b4.cell (by first | omega | (simp; done) | (simp; omega))]; go_cell); have a6_4 : w4.cell? ⟨w.heap.size, 6, none⟩ = some (.slice ao3 A3.length ac3) := (by rw [b4.cell (by first | omega | (simp; done) | (simp; omega))]; go_cell); have a7_4 : w4.cell? ⟨w.heap.size, 7, none⟩ = some (.slice ao4 A4.length ac4) := (by rw [b4.cell (by first | omega | (simp; done) | (simp; omega))]; go_cell); have al_4 : w.heap.size < w4.heap.size := (by have := b4.size; first | omega | (revert this; simp; done) | (revert this; simp; omega)); have b0_4 : w4.cell? ⟨w.heap.size + 1, 0, none⟩ = some (.int .i64 k) := (by rw [b4.cell (by first | omega | (simp; done) | (simp; omega))]; go_cell); have b1_4 : w4.cell? ⟨w.heap.size + 1, 1, none⟩ = some (.int .i64 p1) := (by rw [b4.cell (by first | omega | (simp; done) | (simp; omega))]; go_cell); have b2_4 : w4.cell? ⟨w.heap.size + 1, 2, none⟩ = some (.int .i64 n) := (by rw [b4.cell (by first | omega | (simp; done) | (simp; omega))]; go_cell); have b3_4 : w4.cell? ⟨w.heap.size + 1, 3, none⟩ = some (.slice bo0 l.length bc0) := (by rw [b4.cell (by first | omega | (simp; done) | (simp; omega))]; go_cell); have bl_4 : w.heap.size + 1 < w4.heap.size := (by have := b4.size; first | omega | (revert this; simp; done) | (revert this; simp; omega)); clear a0_3 a1_3 a2_3 a3_3 a4_3 a5_3 a6_3 a7_3 al_3 b0_3 b1_3 b2_3 b3_3 bl_3)
          | (go_at_call 8; refine (toItem_rd k p1 n (.slice bo0 l.length bc0) l _ (HB.out.later c4) HLB.out).mono ?_; rintro e w5 ⟨⟨yo0, yc0, rfl, oa⟩, b5⟩; have OB5 := hid oa; clear oa; have d5 : Below w4.heap.size w4 w5 := (Below.trans (by go_grown) (b5.mono (by first | omega | (simp; done) | (simp; omega)))); have c5 : Below w.heap.size w w5 := c4.trans (d5.mono c4.size))
          | (go_at_call 6; refine (specToldWas_any p f st _ _ _ _ _ A0 A1 A2 A3 A4 k p1 n _ l _ (OA4.out.later d5) OB5.out).mono ?_; rintro e w6 ⟨rfl, b6⟩; rw [HRV.out]; have d6 : Below w5.heap.size w5 w6 := (Below.trans (by go_grown) (b6.mono (by first | omega | (simp; done) | (simp; omega)))); have c6 : Below w.heap.size w w6 := c5.trans (d6.mono c5.size)))
        all_goals
          go_wp2_with fail
          go_meet
          exact ⟨rfl, (d4.trans (d5.mono d4.size)).trans (d6.mono (Nat.le_trans d4.size d5.size))⟩
      case rest => as_aux_lemma =>
        obtain ⟨rfl, b4⟩ := hcut
        obtain ⟨w4, hw4⟩ : ∃ x, x = wc := ⟨_, rfl⟩
        subst hw4
        have d4 : Below w3.heap.size w3 w4 := (Below.trans (by go_grown) (b4.mono (by first | omega | (simp; done) | (simp; omega))))
        have c4 : Below w.heap.size w w4 := c3.trans (d4.mono c3.size)
        have a0_4 : w4.cell? ⟨w.heap.size, 0, none⟩ = some (.int .i64 p) := (by rw [b4.cell (by first | omega | (simp; done) | (simp; omega))]; go_cell)
        have a1_4 : w4.cell? ⟨w.heap.size, 1, none⟩ = some (.int .i64 f) := (by rw [b4.cell (by first | omega | (simp; done) | (simp; omega))]; go_cell)
        have a2_4 : w4.cell? ⟨w.heap.size, 2, none⟩ = some (.int .i64 st) := (by rw [b4.cell (by first | omega | (simp; done) | (simp; omega))]; go_cell)
        have a3_4 : w4.cell? ⟨w.heap.size, 3, none⟩ = some (.slice ao0 A0.length ac0) := (by rw [b4.cell (by first | omega | (simp; done) | (simp; omega))]; go_cell)
        have a4_4 : w4.cell? ⟨w.heap.size, 4, none⟩ = some (.slice ao1 A1.length ac1) := (by rw [b4.cell (by first | omega | (simp; done) | (simp; omega))]; go_cell)
        have a5_4 : w4.cell? ⟨w.heap.size, 5, none⟩ = some (.slice ao2 A2.length ac2) := (by rw [b4.cell (by first | omega | (simp; done) | (simp; omega))]; go_cell)
        have a6_4 : w4.cell? ⟨w.heap.size, 6, none⟩ = some (.slice ao3 A3.length ac3) := (by rw [b4.cell (by first | omega | (simp; done) | (simp; omega))]; go_cell)
        have a7_4 : w4.cell? ⟨w.heap.size, 7, none⟩ = some (.slice ao4 A4.length ac4) := (by rw [b4.cell (by first | omega | (simp; done) | (simp; omega))]; go_cell)
        have al_4 : w.heap.size < w4.heap.size := (by have := b4.size; first | omega | (revert this; simp; done) | (revert this; simp; omega))
        have b0_4 : w4.cell? ⟨w.heap.size + 1, 0, none⟩ = some (.int .i64 k) := (by rw [b4.cell (by first | omega | (simp; done) | (simp; omega))]; go_cell)
        have b1_4 : w4.cell? ⟨w.heap.size + 1, 1, none⟩ = some (.int .i64 p1) := (by rw [b4.cell (by first | omega | (simp; done) | (simp; omega))]; go_cell)
        have b2_4 : w4.cell? ⟨w.heap.size + 1, 2, none⟩ = some (.int .i64 n) := (by rw [b4.cell (by first | omega | (simp; done) | (simp; omega))]; go_cell)
        have b3_4 : w4.cell? ⟨w.heap.size + 1, 3, none⟩ = some (.slice bo0 l.length bc0) := (by rw [b4.cell (by first | omega | (simp; done) | (simp; omega))]; go_cell)
        have bl_4 : w.heap.size + 1 < w4.heap.size := (by have := b4.size; first | omega | (revert this; simp; done) | (revert this; simp; omega))
        clear a0_3 a1_3 a2_3 a3_3 a4_3 a5_3 a6_3 a7_3 al_3 b0_3 b1_3 b2_3 b3_3 bl_3
        clear b4 d4
        go_wp2_with fail
        refine (toShard_rd p f st _ _ _ _ _ A0 A1 A2 A3 A4 _ (HA.out.later c4) HLA.out).mono ?_
        rintro e w5 ⟨⟨po0, po1, po2, po3, po4, pc0, pc1, pc2, pc3, pc4, rfl, oa⟩, b5⟩
        have OC5 := hid oa
        clear oa
        have d5 : Below w4.heap.size w4 w5 := (Below.trans (by go_grown) (b5.mono (by first | omega | (simp; done) | (simp; omega))))
        have c5 : Below w.heap.size w w5 := c4.trans (d5.mono c4.size)
        have a0_5 : w5.cell? ⟨w.heap.size, 0, none⟩ = some (.int .i64 p) := (by rw [b5.cell (by first | omega | (simp; done) | (simp; omega))]; go_cell)
        have a1_5 : w5.cell? ⟨w.heap.size, 1, none⟩ = some (.int .i64 f) := (by rw [b5.cell (by first | omega | (simp; done) | (simp; omega))]; go_cell)
        have a2_5 : w5.cell? ⟨w.heap.size, 2, none⟩ = some (.int .i64 st) := (by rw [b5.cell (by first | omega | (simp; done) | (simp; omega))]; go_cell)
        have a3_5 : w5.cell? ⟨w.heap.size, 3, none⟩ = some (.slice ao0 A0.length ac0) := (by rw [b5.cell (by first | omega | (simp; done) | (simp; omega))]; go_cell)
        have a4_5 : w5.cell? ⟨w.heap.size, 4, none⟩ = some (.slice ao1 A1.length ac1) := (by rw [b5.cell (by first | omega | (simp; done) | (simp; omega))]; go_cell)
        have a5_5 : w5.cell? ⟨w.heap.size, 5, none⟩ = some (.slice ao2 A2.length ac2) := (by rw [b5.cell (by first | omega | (simp; done) | (simp; omega))]; go_cell)
        have a6_5 : w5.cell? ⟨w.heap.size, 6, none⟩ = some (.slice ao3 A3.length ac3) := (by rw [b5.cell (by first | omega | (simp; done) | (simp; omega))]; go_cell)
        have a7_5 : w5.cell? ⟨w.heap.size, 7, none⟩ = some (.slice ao4 A4.length ac4) := (by rw [b5.cell (by first | omega | (simp; done) | (simp; omega))]; go_cell)
        have al_5 : w.heap.size < w5.heap.size := (by have := b5.size; first | omega | (revert this; simp; done) | (revert this; simp; omega))
        have b0_5 : w5.cell? ⟨w.heap.size + 1, 0, none⟩ = some (.int .i64 k) := (by rw [b5.cell (by first | omega | (simp; done) | (simp; omega))]; go_cell)
        have b1_5 : w5.cell? ⟨w.heap.size + 1, 1, none⟩ = some (.int .i64 p1) := (by rw [b5.cell (by first | omega | (simp; done) | (simp; omega))]; go_cell)
        have b2_5 : w5.cell? ⟨w.heap.size + 1, 2, none⟩ = some (.int .i64 n) := (by rw [b5.cell (by first | omega | (simp; done) | (simp; omega))]; go_cell)
        have b3_5 : w5.cell? ⟨w.heap.size + 1, 3, none⟩ = some (.slice bo0 l.length bc0) := (by rw [b5.cell (by first | omega | (simp; done) | (simp; omega))]; go_cell)
        have bl_5 : w.heap.size + 1 < w5.heap.size := (by have := b5.size; first | omega | (revert this; simp; done) | (revert this; simp; omega))
        clear a0_4 a1_4 a2_4 a3_4 a4_4 a5_4 a6_4 a7_4 al_4 b0_4 b1_4 b2_4 b3_4 bl_4
        clear b5 d5
        go_wp2_with fail
        generalize hW6 : (w5.alloc (.cells #[.int .i64 p, .int .i64 f, .int .i64 st, .slice po0 A0.length pc0, .slice po1 A1.length pc1, .slice po2 A2.length pc2, .slice po3 A3.length pc3, .slice po4 A4.length pc4] 43)) = w6
        have x0_6 : w6.cell? ⟨w5.heap.size, 0, none⟩ = some (.int .i64 p) := by subst hW6; go_cell
        have x1_6 : w6.cell? ⟨w5.heap.size, 1, none⟩ = some (.int .i64 f) := by subst hW6; go_cell
        have x2_6 : w6.cell? ⟨w5.heap.size, 2, none⟩ = some (.int .i64 st) := by subst hW6; go_cell
        have x3_6 : w6.cell? ⟨w5.heap.size, 3, none⟩ = some (.slice po0 A0.length pc0) := by subst hW6; go_cell
        have x4_6 : w6.cell? ⟨w5.heap.size, 4, none⟩ = some (.slice po1 A1.length pc1) := by subst hW6; go_cell
        have x5_6 : w6.cell? ⟨w5.heap.size, 5, none⟩ = some (.slice po2 A2.length pc2) := by subst hW6; go_cell
        have x6_6 : w6.cell? ⟨w5.heap.size, 6, none⟩ = some (.slice po3 A3.length pc3) := by subst hW6; go_cell
        have x7_6 : w6.cell? ⟨w5.heap.size, 7, none⟩ = some (.slice po4 A4.length pc4) := by subst hW6; go_cell
        have xl_6 : w5.heap.size < w6.heap.size := by subst hW6; simp
        have d6 : Below w5.heap.size w5 w6 := by subst hW6; go_grown
        clear hW6
        have c6 : Below w.heap.size w w6 := c5.trans (d6.mono c5.size)
        have a0_6 : w6.cell? ⟨w.heap.size, 0, none⟩ = some (.int .i64 p) := (by rw [d6.cell (by first | omega | (simp; done) | (simp; omega))]; go_cell)
        have a1_6 : w6.cell? ⟨w.heap.size, 1, none⟩ = some (.int .i64 f) := (by rw [d6.cell (by first | omega | (simp; done) | (simp; omega))]; go_cell)
        have a2_6 : w6.cell? ⟨w.heap.size, 2, none⟩ = some (.int .i64 st) := (by rw [d6.cell (by first | omega | (simp; done) | (simp; omega))]; go_cell)
        have a3_6 : w6.cell? ⟨w.heap.size, 3, none⟩ = some (.slice ao0 A0.length ac0) := (by rw [d6.cell (by first | omega | (simp; done) | (simp; omega))]; go_cell)
        have a4_6 : w6.cell? ⟨w.heap.size, 4, none⟩ = some (.slice ao1 A1.length ac1) := (by rw [d6.cell (by first | omega | (simp; done) | (simp; omega))]; go_cell)
        have a5_6 : w6.cell? ⟨w.heap.size, 5, none⟩ = some (.slice ao2 A2.length ac2) := (by rw [d6.cell (by first | omega | (simp; done) | (simp; omega))]; go_cell)
        have a6_6 : w6.cell? ⟨w.heap.size, 6, none⟩ = some (.slice ao3 A3.length ac3) := (by rw [d6.cell (by first | omega | (simp; done) | (simp; omega))]; go_cell)
        have a7_6 : w6.cell? ⟨w.heap.size, 7, none⟩ = some (.slice ao4 A4.length ac4) := (by rw [d6.cell (by first | omega | (simp; done) | (simp; omega))]; go_cell)
        have al_6 : w.heap.size < w6.heap.size := (by have := d6.size; omega)
        have b0_6 : w6.cell? ⟨w.heap.size + 1, 0, none⟩ = some (.int .i64 k) := (by rw [d6.cell (by first | omega | (simp; done) | (simp; omega))]; go_cell)
        have b1_6 : w6.cell? ⟨w.heap.size + 1, 1, none⟩ = some (.int .i64 p1) := (by rw [d6.cell (by first | omega | (simp; done) | (simp; omega))]; go_cell)
        have b2_6 : w6.cell? ⟨w.heap.size + 1, 2, none⟩ = some (.int .i64 n) := (by rw [d6.cell (by first | omega | (simp; done) | (simp; omega))]; go_cell)
        have b3_6 : w6.cell? ⟨w.heap.size + 1, 3, none⟩ = some (.slice bo0 l.length bc0) := (by rw [d6.cell (by first | omega | (simp; done) | (simp; omega))]; go_cell)
        have bl_6 : w.heap.size + 1 < w6.heap.size := (by have := d6.size; omega)
        clear a0_5 a1_5 a2_5 a3_5 a4_5 a5_5 a6_5 a7_5 al_5 b0_5 b1_5 b2_5 b3_5 bl_5
        have OC6 := hid (OC5.out.later d6)
        clear d6
        refine (toItem_rd k p1 n _ l _ (HB.out.later c6) HLB.out).mono ?_
        rintro e w7 ⟨⟨qo0, qc0, rfl, oa⟩, b7⟩
        have OD7 := hid oa
        clear oa
        have d7 : Below w6.heap.size w6 w7 := (Below.trans (by go_grown) (b7.mono (by first | omega | (simp; done) | (simp; omega))))
        have c7 : Below w.heap.size w w7 := c6.trans (d7.mono c6.size)
        have a0_7 : w7.cell? ⟨w.heap.size, 0, none⟩ = some (.int .i64 p) := (by rw [b7.cell (by first | omega | (simp; done) | (simp; omega))]; go_cell)
        have a1_7 : w7.cell? ⟨w.heap.size, 1, none⟩ = some (.int .i64 f) := (by rw [b7.cell (by first | omega | (simp; done) | (simp; omega))]; go_cell)
        have a2_7 : w7.cell? ⟨w.heap.size, 2, none⟩ = some (.int .i64 st) := (by rw [b7.cell (by first | omega | (simp; done) | (simp; omega))]; go_cell)
        have a3_7 : w7.cell? ⟨w.heap.size, 3, none⟩ = some (.slice ao0 A0.length ac0) := (by rw [b7.cell (by first | omega | (simp; done) | (simp; omega))]; go_cell)
        have a4_7 : w7.cell? ⟨w.heap.size, 4, none⟩ = some (.slice ao1 A1.length ac1) := (by rw [b7.cell (by first | omega | (simp; done) | (simp; omega))]; go_cell)
        have a5_7 : w7.cell? ⟨w.heap.size, 5, none⟩ = some (.slice ao2 A2.length ac2) := (by rw [b7.cell (by first | omega | (simp; done) | (simp; omega))]; go_cell)
        have a6_7 : w7.cell? ⟨w.heap.size, 6, none⟩ = some (.slice ao3 A3.length ac3) := (by rw [b7.cell (by first | omega | (simp; done) | (simp; omega))]; go_cell)
        have a7_7 : w7.cell? ⟨w.heap.size, 7, none⟩ = some (.slice ao4 A4.length ac4) := (by rw [b7.cell (by first | omega | (simp; done) | (simp; omega))]; go_cell)
        have al_7 : w.heap.size < w7.heap.size := (by have := b7.size; first | omega | (revert this; simp; done) | (revert this; simp; omega))
        have b0_7 : w7.cell? ⟨w.heap.size + 1, 0, none⟩ = some (.int .i64 k) := (by rw [b7.cell (by first | omega | (simp; done) | (simp; omega))]; go_cell)
        have b1_7 : w7.cell? ⟨w.heap.size + 1, 1, none⟩ = some (.int .i64 p1) := (by rw [b7.cell (by first | omega | (simp; done) | (simp; omega))]; go_cell)
        have b2_7 : w7.cell? ⟨w.heap.size + 1, 2, none⟩ = some (.int .i64 n) := (by rw [b7.cell (by first | omega | (simp; done) | (simp; omega))]; go_cell)
        have b3_7 : w7.cell? ⟨w.heap.size + 1, 3, none⟩ = some (.slice bo0 l.length bc0) := (by rw [b7.cell (by first | omega | (simp; done) | (simp; omega))]; go_cell)
        have bl_7 : w.heap.size + 1 < w7.heap.size := (by have := b7.size; first | omega | (revert this; simp; done) | (revert this; simp; omega))
        have x0_7 : w7.cell? ⟨w5.heap.size, 0, none⟩ = some (.int .i64 p) := (by rw [b7.cell (by first | omega | (simp; done) | (simp; omega))]; go_cell)
        have x1_7 : w7.cell? ⟨w5.heap.size, 1, none⟩ = some (.int .i64 f) := (by rw [b7.cell (by first | omega | (simp; done) | (simp; omega))]; go_cell)
        have x2_7 : w7.cell? ⟨w5.heap.size, 2, none⟩ = some (.int .i64 st) := (by rw [b7.cell (by first | omega | (simp; done) | (simp; omega))]; go_cell)
        have x3_7 : w7.cell? ⟨w5.heap.size, 3, none⟩ = some (.slice po0 A0.length pc0) := (by rw [b7.cell (by first | omega | (simp; done) | (simp; omega))]; go_cell)
        have x4_7 : w7.cell? ⟨w5.heap.size, 4, none⟩ = some (.slice po1 A1.length pc1) := (by rw [b7.cell (by first | omega | (simp; done) | (simp; omega))]; go_cell)
        have x5_7 : w7.cell? ⟨w5.heap.size, 5, none⟩ = some (.slice po2 A2.length pc2) := (by rw [b7.cell (by first | omega | (simp; done) | (simp; omega))]; go_cell)
        have x6_7 : w7.cell? ⟨w5.heap.size, 6, none⟩ = some (.slice po3 A3.length pc3) := (by rw [b7.cell (by first | omega | (simp; done) | (simp; omega))]; go_cell)
        have x7_7 : w7.cell? ⟨w5.heap.size, 7, none⟩ = some (.slice po4 A4.length pc4) := (by rw [b7.cell (by first | omega | (simp; done) | (simp; omega))]; go_cell)
        have xl_7 : w5.heap.size < w7.heap.size := (by have := b7.size; first | omega | (revert this; simp; done) | (revert this; simp; omega))
        clear a0_6 a1_6 a2_6 a3_6 a4_6 a5_6 a6_6 a7_6 al_6 b0_6 b1_6 b2_6 b3_6 bl_6 x0_6 x1_6 x2_6 x3_6 x4_6 x5_6 x6_6 x7_6 xl_6
        have OC7 := hid (OC6.out.later d7)
        clear b7 d7
        go_wp2_with fail
        generalize hW8 : (w7.alloc (.cells #[.int .i64 k, .int .i64 p1, .int .i64 n, .slice qo0 l.length qc0] 49)) = w8
        have y0_8 : w8.cell? ⟨w7.heap.size, 0, none⟩ = some (.int .i64 k) := by subst hW8; go_cell
        have y1_8 : w8.cell? ⟨w7.heap.size, 1, none⟩ = some (.int .i64 p1) := by subst hW8; go_cell
        have y2_8 : w8.cell? ⟨w7.heap.size, 2, none⟩ = some (.int .i64 n) := by subst hW8; go_cell
        have y3_8 : w8.cell? ⟨w7.heap.size, 3, none⟩ = some (.slice qo0 l.length qc0) := by subst hW8; go_cell
        have yl_8 : w7.heap.size < w8.heap.size := by subst hW8; simp
        have d8 : Below w7.heap.size w7 w8 := by subst hW8; go_grown
        clear hW8
        have c8 : Below w.heap.size w w8 := c7.trans (d8.mono c7.size)
        have a0_8 : w8.cell? ⟨w.heap.size, 0, none⟩ = some (.int .i64 p) := (by rw [d8.cell (by first | omega | (simp; done) | (simp; omega))]; go_cell)
        have a1_8 : w8.cell? ⟨w.heap.size, 1, none⟩ = some (.int .i64 f) := (by rw [d8.cell (by first | omega | (simp; done) | (simp; omega))]; go_cell)
        have a2_8 : w8.cell? ⟨w.heap.size, 2, none⟩ = some (.int .i64 st) := (by rw [d8.cell (by first | omega | (simp; done) | (simp; omega))]; go_cell)
        have a3_8 : w8.cell? ⟨w.heap.size, 3, none⟩ = some (.slice ao0 A0.length ac0) := (by rw [d8.cell (by first | omega | (simp; done) | (simp; omega))]; go_cell)
        have a4_8 : w8.cell? ⟨w.heap.size, 4, none⟩ = some (.slice ao1 A1.length ac1) := (by rw [d8.cell (by first | omega | (simp; done) | (simp; omega))]; go_cell)
        have a5_8 : w8.cell? ⟨w.heap.size, 5, none⟩ = some (.slice ao2 A2.length ac2) := (by rw [d8.cell (by first | omega | (simp; done) | (simp; omega))]; go_cell)
        have a6_8 : w8.cell? ⟨w.heap.size, 6, none⟩ = some (.slice ao3 A3.length ac3) := (by rw [d8.cell (by first | omega | (simp; done) | (simp; omega))]; go_cell)
        have a7_8 : w8.cell? ⟨w.heap.size, 7, none⟩ = some (.slice ao4 A4.length ac4) := (by rw [d8.cell (by first | omega | (simp; done) | (simp; omega))]; go_cell)
        have al_8 : w.heap.size < w8.heap.size := (by have := d8.size; omega)
        have b0_8 : w8.cell? ⟨w.heap.size + 1, 0, none⟩ = some (.int .i64 k) := (by rw [d8.cell (by first | omega | (simp; done) | (simp; omega))]; go_cell)
        have b1_8 : w8.cell? ⟨w.heap.size + 1, 1, none⟩ = some (.int .i64 p1) := (by rw [d8.cell (by first | omega | (simp; done) | (simp; omega))]; go_cell)
        have b2_8 : w8.cell? ⟨w.heap.size + 1, 2, none⟩ = some (.int .i64 n) := (by rw [d8.cell (by first | omega | (simp; done) | (simp; omega))]; go_cell)
        have b3_8 : w8.cell? ⟨w.heap.size + 1, 3, none⟩ = some (.slice bo0 l.length bc0) := (by rw [d8.cell (by first | omega | (simp; done) | (simp; omega))]; go_cell)
        have bl_8 : w.heap.size + 1 < w8.heap.size := (by have := d8.size; omega)
        have x0_8 : w8.cell? ⟨w5.heap.size, 0, none⟩ = some (.int .i64 p) := (by rw [d8.cell (by first | omega | (simp; done) | (simp; omega))]; go_cell)
        have x1_8 : w8.cell? ⟨w5.heap.size, 1, none⟩ = some (.int .i64 f) := (by rw [d8.cell (by first | omega | (simp; done) | (simp; omega))]; go_cell)
        have x2_8 : w8.cell? ⟨w5.heap.size, 2, none⟩ = some (.int .i64 st) := (by rw [d8.cell (by first | omega | (simp; done) | (simp; omega))]; go_cell)
        have x3_8 : w8.cell? ⟨w5.heap.size, 3, none⟩ = some (.slice po0 A0.length pc0) := (by rw [d8.cell (by first | omega | (simp; done) | (simp; omega))]; go_cell)
        have x4_8 : w8.cell? ⟨w5.heap.size, 4, none⟩ = some (.slice po1 A1.length pc1) := (by rw [d8.cell (by first | omega | (simp; done) | (simp; omega))]; go_cell)
        have x5_8 : w8.cell? ⟨w5.heap.size, 5, none⟩ = some (.slice po2 A2.length pc2) := (by rw [d8.cell (by first | omega | (simp; done) | (simp; omega))]; go_cell)
        have x6_8 : w8.cell? ⟨w5.heap.size, 6, none⟩ = some (.slice po3 A3.length pc3) := (by rw [d8.cell (by first | omega | (simp; done) | (simp; omega))]; go_cell)
        have x7_8 : w8.cell? ⟨w5.heap.size, 7, none⟩ = some (.slice po4 A4.length pc4) := (by rw [d8.cell (by first | omega | (simp; done) | (simp; omega))]; go_cell)
        have xl_8 : w5.heap.size < w8.heap.size := (by have := d8.size; omega)
        clear a0_7 a1_7 a2_7 a3_7 a4_7 a5_7 a6_7 a7_7 al_7 b0_7 b1_7 b2_7 b3_7 bl_7 x0_7 x1_7 x2_7 x3_7 x4_7 x5_7 x6_7 x7_7 xl_7
        have OC8 := hid (OC7.out.later d8)
        have OD8 := hid (OD7.out.later d8)
        clear d8
        refine (implToldWas_any p f st _ _ _ _ _ A0 A1 A2 A3 A4 k p1 n _ l _ OC8.out OD8.out).mono ?_
        rintro e w9 ⟨rfl, b9⟩
        rw [HRV.out]
        have d9 : Below w8.heap.size w8 w9 := (Below.trans (by go_grown) (b9.mono (by first | omega | (simp; done) | (simp; omega))))
        have c9 : Below w.heap.size w w9 := c8.trans (d9.mono c8.size)
        have a0_9 : w9.cell? ⟨w.heap.size, 0, none⟩ = some (.int .i64 p) := (by rw [b9.cell (by first | omega | (simp; done) | (simp; omega))]; go_cell)
        have a1_9 : w9.cell? ⟨w.heap.size, 1, none⟩ = some (.int .i64 f) := (by rw [b9.cell (by first | omega | (simp; done) | (simp; omega))]; go_cell)
        have a2_9 : w9.cell? ⟨w.heap.size, 2, none⟩ = some (.int .i64 st) := (by rw [b9.cell (by first | omega | (simp; done) | (simp; omega))]; go_cell)
        have a3_9 : w9.cell? ⟨w.heap.size, 3, none⟩ = some (.slice ao0 A0.length ac0) := (by rw [b9.cell (by first | omega | (simp; done) | (simp; omega))]; go_cell)
        have a4_9 : w9.cell? ⟨w.heap.size, 4, none⟩ = some (.slice ao1 A1.length ac1) := (by rw [b9.cell (by first | omega | (simp; done) | (simp; omega))]; go_cell)
        have a5_9 : w9.cell? ⟨w.heap.size, 5, none⟩ = some (.slice ao2 A2.length ac2) := (by rw [b9.cell (by first | omega | (simp; done) | (simp; omega))]; go_cell)
        have a6_9 : w9.cell? ⟨w.heap.size, 6, none⟩ = some (.slice ao3 A3.length ac3) := (by rw [b9.cell (by first | omega | (simp; done) | (simp; omega))]; go_cell)
        have a7_9 : w9.cell? ⟨w.heap.size, 7, none⟩ = some (.slice ao4 A4.length ac4) := (by rw [b9.cell (by first | omega | (simp; done) | (simp; omega))]; go_cell)
        have al_9 : w.heap.size < w9.heap.size := (by have := b9.size; first | omega | (revert this; simp; done) | (revert this; simp; omega))
        have b0_9 : w9.cell? ⟨w.heap.size + 1, 0, none⟩ = some (.int .i64 k) := (by rw [b9.cell (by first | omega | (simp; done) | (simp; omega))]; go_cell)
        have b1_9 : w9.cell? ⟨w.heap.size + 1, 1, none⟩ = some (.int .i64 p1) := (by rw [b9.cell (by first | omega | (simp; done) | (simp; omega))]; go_cell)
        have b2_9 : w9.cell? ⟨w.heap.size + 1, 2, none⟩ = some (.int .i64 n) := (by rw [b9.cell (by first | omega | (simp; done) | (simp; omega))]; go_cell)
        have b3_9 : w9.cell? ⟨w.heap.size + 1, 3, none⟩ = some (.slice bo0 l.length bc0) := (by rw [b9.cell (by first | omega | (simp; done) | (simp; omega))]; go_cell)
        have bl_9 : w.heap.size + 1 < w9.heap.size := (by have := b9.size; first | omega | (revert this; simp; done) | (revert this; simp; omega))
        have x0_9 : w9.cell? ⟨w5.heap.size, 0, none⟩ = some (.int .i64 p) := (by rw [b9.cell (by first | omega | (simp; done) | (simp; omega))]; go_cell)
        have x1_9 : w9.cell? ⟨w5.heap.size, 1, none⟩ = some (.int .i64 f) := (by rw [b9.cell (by first | omega | (simp; done) | (simp; omega))]; go_cell)
        have x2_9 : w9.cell? ⟨w5.heap.size, 2, none⟩ = some (.int .i64 st) := (by rw [b9.cell (by first | omega | (simp; done) | (simp; omega))]; go_cell)
        have x3_9 : w9.cell? ⟨w5.heap.size, 3, none⟩ = some (.slice po0 A0.length pc0) := (by rw [b9.cell (by first | omega | (simp; done) | (simp; omega))]; go_cell)
        have x4_9 : w9.cell? ⟨w5.heap.size, 4, none⟩ = some (.slice po1 A1.length pc1) := (by rw [b9.cell (by first | omega | (simp; done) | (simp; omega))]; go_cell)
        have x5_9 : w9.cell? ⟨w5.heap.size, 5, none⟩ = some (.slice po2 A2.length pc2) := (by rw [b9.cell (by first | omega | (simp; done) | (simp; omega))]; go_cell)
        have x6_9 : w9.cell? ⟨w5.heap.size, 6, none⟩ = some (.slice po3 A3.length pc3) := (by rw [b9.cell (by first | omega | (simp; done) | (simp; omega))]; go_cell)
        have x7_9 : w9.cell? ⟨w5.heap.size, 7, none⟩ = some (.slice po4 A4.length pc4) := (by rw [b9.cell (by first | omega | (simp; done) | (simp; omega))]; go_cell)
        have xl_9 : w5.heap.size < w9.heap.size := (by have := b9.size; first | omega | (revert this; simp; done) | (revert this; simp; omega))
        have y0_9 : w9.cell? ⟨w7.heap.size, 0, none⟩ = some (.int .i64 k) := (by rw [b9.cell (by first | omega | (simp; done) | (simp; omega))]; go_cell)
        have y1_9 : w9.cell? ⟨w7.heap.size, 1, none⟩ = some (.int .i64 p1) := (by rw [b9.cell (by first | omega | (simp; done) | (simp; omega))]; go_cell)
        have y2_9 : w9.cell? ⟨w7.heap.size, 2, none⟩ = some (.int .i64 n) := (by rw [b9.cell (by first | omega | (simp; done) | (simp; omega))]; go_cell)
        have y3_9 : w9.cell? ⟨w7.heap.size, 3, none⟩ = some (.slice qo0 l.length qc0) := (by rw [b9.cell (by first | omega | (simp; done) | (simp; omega))]; go_cell)
        have yl_9 : w7.heap.size < w9.heap.size := (by have := b9.size; first | omega | (revert this; simp; done) | (revert this; simp; omega))
        clear a0_8 a1_8 a2_8 a3_8 a4_8 a5_8 a6_8 a7_8 al_8 b0_8 b1_8 b2_8 b3_8 bl_8 x0_8 x1_8 x2_8 x3_8 x4_8 x5_8 x6_8 x7_8 xl_8 y0_8 y1_8 y2_8 y3_8 yl_8
        have OC9 := hid (OC8.out.later d9)
        have OD9 := hid (OD8.out.later d9)
        clear b9 d9
        have hne : (rv != rv) = false := by simp
        go_upto_region 14 with fail
        go_cut [39] from 10 (fun s wx => s = .bool false ∧ Below w9.heap.size w9 wx)
        case first =>
          go_region_with (first
            | (go_at_call 7; refine (toShard_rd p f st (.slice ao0 A0.length ac0) (.slice ao1 A1.length ac1) (.slice ao2 A2.length ac2) (.slice ao3 A3.length ac3) (.slice ao4 A4.length ac4) A0 A1 A2 A3 A4 _ (HA.out.later (c9.drew)) HLA.out).mono ?_; rintro e w10 ⟨⟨zo0, zo1, zo2, zo3, zo4, zc0, zc1, zc2, zc3, zc4, rfl, oa⟩, b10⟩; have OE10 := hid oa; clear oa; have d10 : Below w9.heap.size w9 w10 := (Below.trans (by go_grown) (b10.mono (by first | omega | (simp; done) | (simp; omega)))); have c10 : Below w.heap.size w w10 := c9.trans (d10.mono c9.size); have x0_10 : w10.cell? ⟨w5.heap.size, 0, none⟩ = some (.int .i64 p) := (by rw [b10.cell (by first | omega | (simp; done) | (simp; omega))]; go_cell); have x1_10 : w10.cell? ⟨w5.heap.size, 1, none⟩ = some (.int .i64 f) := (by rw [b10.cell (by first | omega | (simp; done) | (simp; omega))]; go_cell); have x2_10 : w10.cell? ⟨w5.heap.size, 2, none⟩ = some (.int .i64 st) := (by rw [b10.cell (by first | omega | (simp; done) | (simp; omega))]; go_cell); have x3_10 : w10.cell? ⟨w5.heap.size, 3, none⟩ = some (.slice po0 A0.length pc0) := (by rw [b10.cell (by first | omega | (simp; done) | (simp; omega))]; go_cell); have x4_10 : w10.cell? ⟨w5.heap.size, 4, none⟩ = some (.slice po1 A1.length pc1) := (by rw [b10.cell (by first | omega | (simp; done) | (simp; omega))]; go_cell); have x5_10 : w10.cell? ⟨w5.heap.size, 5, none⟩ = some (.slice po2 A2.length pc2) := (by rw [b10.cell (by first | omega | (simp; done) | (simp; omega))]; go_cell); have x6_10 : w10.cell? ⟨w5.heap.size, 6, none⟩ = some (.slice po3 A3.length pc3) := (by rw [b10.cell (by first | omega | (simp; done) | (simp; omega))]; go_cell); have x7_10 : w10.cell? ⟨w5.heap.size, 7, none⟩ = some (.slice po4 A4.length pc4) := (by rw [b10.cell (by first | omega | (simp; done) | (simp; omega))]; go_cell); have xl_10 : w5.heap.size < w10.heap.size := (by have := b10.size; first | omega | (revert this; simp; done) | (revert this; simp; omega)); clear x0_9 x1_9 x2_9 x3_9 x4_9 x5_9 x6_9 x7_9 xl_9)
            | (go_at_call 10; refine (eqShard_rd p f st _ _ _ _ _ _ _ _ _ _ A0 A1 A2 A3 A4 _ (OC9.out.later d10) OE10.out).mono ?_; rintro e w11 ⟨rfl, b11⟩; have d11 : Below w10.heap.size w10 w11 := (Below.trans (by go_grown) (b11.mono (by first | omega | (simp; done) | (simp; omega)))); have c11 : Below w.heap.size w w11 := c10.trans (d11.mono c10.size)))
          all_goals
            go_wp2_with fail
            go_meet
            exact ⟨rfl, d10.trans (d11.mono d10.size)⟩
        case rest =>
          obtain ⟨rfl, b10⟩ := hcut
          obtain ⟨w10, hw10⟩ : ∃ x, x = wc := ⟨_, rfl⟩
          subst hw10
          have d10 : Below w9.heap.size w9 w10 := (Below.trans (by go_grown) (b10.mono (by first | omega | (simp; done) | (simp; omega))))
          have c10 : Below w.heap.size w w10 := c9.trans (d10.mono c9.size)
          have b0_10 : w10.cell? ⟨w.heap.size + 1, 0, none⟩ = some (.int .i64 k) := (by rw [b10.cell (by first | omega | (simp; done) | (simp; omega))]; go_cell)
          have b1_10 : w10.cell? ⟨w.heap.size + 1, 1, none⟩ = some (.int .i64 p1) := (by rw [b10.cell (by first | omega | (simp; done) | (simp; omega))]; go_cell)
          have b2_10 : w10.cell? ⟨w.heap.size + 1, 2, none⟩ = some (.int .i64 n) := (by rw [b10.cell (by first | omega | (simp; done) | (simp; omega))]; go_cell)
          have b3_10 : w10.cell? ⟨w.heap.size + 1, 3, none⟩ = some (.slice bo0 l.length bc0) := (by rw [b10.cell (by first | omega | (simp; done) | (simp; omega))]; go_cell)
          have bl_10 : w.heap.size + 1 < w10.heap.size := (by have := b10.size; first | omega | (revert this; simp; done) | (revert this; simp; omega))
          have y0_10 : w10.cell? ⟨w7.heap.size, 0, none⟩ = some (.int .i64 k) := (by rw [b10.cell (by first | omega | (simp; done) | (simp; omega))]; go_cell)
          have y1_10 : w10.cell? ⟨w7.heap.size, 1, none⟩ = some (.int .i64 p1) := (by rw [b10.cell (by first | omega | (simp; done) | (simp; omega))]; go_cell)
          have y2_10 : w10.cell? ⟨w7.heap.size, 2, none⟩ = some (.int .i64 n) := (by rw [b10.cell (by first | omega | (simp; done) | (simp; omega))]; go_cell)
          have y3_10 : w10.cell? ⟨w7.heap.size, 3, none⟩ = some (.slice qo0 l.length qc0) := (by rw [b10.cell (by first | omega | (simp; done) | (simp; omega))]; go_cell)
          have yl_10 : w7.heap.size < w10.heap.size := (by have := b10.size; first | omega | (revert this; simp; done) | (revert this; simp; omega))
          clear b0_9 b1_9 b2_9 b3_9 bl_9 y0_9 y1_9 y2_9 y3_9 yl_9
          have OD10 := hid (OD9.out.later d10)
          clear b10 d10
          go_upto_region 16 with fail
          go_cut [44] from 10 (fun s wx => s = .bool false ∧ Below w10.heap.size w10 wx)
          case first =>
            go_region_with (first
              | (go_at_call 8; refine (toItem_rd k p1 n (.slice bo0 l.length bc0) l _ (HB.out.later (c10.drew)) HLB.out).mono ?_; rintro e w11 ⟨⟨zo0, zc0, rfl, oa⟩, b11⟩; have OE11 := hid oa; clear oa; have d11 : Below w10.heap.size w10 w11 := (Below.trans (by go_grown) (b11.mono (by first | omega | (simp; done) | (simp; omega)))); have c11 : Below w.heap.size w w11 := c10.trans (d11.mono c10.size); have y0_11 : w11.cell? ⟨w7.heap.size, 0, none⟩ = some (.int .i64 k) := (by rw [b11.cell (by first | omega | (simp; done) | (simp; omega))]; go_cell); have y1_11 : w11.cell? ⟨w7.heap.size, 1, none⟩ = some (.int .i64 p1) := (by rw [b11.cell (by first | omega | (simp; done) | (simp; omega))]; go_cell); have y2_11 : w11.cell? ⟨w7.heap.size, 2, none⟩ = some (.int .i64 n) := (by rw [b11.cell (by first | omega | (simp; done) | (simp; omega))]; go_cell); have y3_11 : w11.cell? ⟨w7.heap.size, 3, none⟩ = some (.slice qo0 l.length qc0) := (by rw [b11.cell (by first | omega | (simp; done) | (simp; omega))]; go_cell); have yl_11 : w7.heap.size < w11.heap.size := (by have := b11.size; first | omega | (revert this; simp; done) | (revert this; simp; omega)); clear y0_10 y1_10 y2_10 y3_10 yl_10)
              | (go_at_call 11; refine (eqItem_rd k p1 n _ _ l _ (OD10.out.later d11) OE11.out).mono ?_; rintro e w12 ⟨rfl, b12⟩; have d12 : Below w11.heap.size w11 w12 := (Below.trans (by go_grown) (b12.mono (by first | omega | (simp; done) | (simp; omega)))); have c12 : Below w.heap.size w w12 := c11.trans (d12.mono c11.size)))
            all_goals
              go_wp2_with fail
              go_meet
              exact ⟨rfl, d11.trans (d12.mono d11.size)⟩
          case rest =>
            obtain ⟨rfl, b12⟩ := hcut
            have c12 := c10.trans (b12.mono c10.size)
            clear b12
            go_wp2
            go_ret
            exact ⟨by simp, c12⟩
    · go_wp2
      go_ret
      exact ⟨by simp, c3⟩
  · go_wp2
    go_ret
    exact ⟨by simp, c2⟩
end Go.Proofs.YtefhpbcdjgllnaaGreat

/- Part: An argument that is a slice of edges reads as a list of pairs. -/
namespace Go.Proofs.YtefhpbcdjgllnaaGreat
open Go.ChangeShapes Go.WideShapes Go.ChangeAt Go.RowKit Go.Deep

theorem Tryz.own : ownKnob Tryz.prog.godebug = none := by kernel_rfl
theorem Tryz.laidOut : laidOutB Tryz.prog = true := by kernel_rfl
theorem Tryz.cells128 : Tryz.prog.cellsOf 128 = 2 := by kernel_rfl
theorem Tryz.cells3 : Tryz.prog.cellsOf 3 = 1 := by kernel_rfl

set_option maxRecDepth 100000 in
theorem rd_of {H : Type} {enc : TypeId × Value → H} {W : World} {base : Nat} {v : Value} {d : DataW H} {p : List MemPlace} (hv : Value.okWide Tryz.prog W .any base 29 v)
    (h : DataW.Trod enc Tryz.prog W 0 (fun _ => true) true 29 v d p) (hlt : ∀ x ∈ p, x.block < W.heap.size) : ∃ l, Rd W v l := by
  obtain ⟨a0, len, cap, rfl⟩ := okWide_slice Tryz.underlying29 hv
  obtain ⟨fuel, hf⟩ := h
  rcases open_slice_pairs Tryz.underlying29 Tryz.underlying128 Tryz.cells128 rfl rfl Tryz.cells3 Tryz.cells3 hf with ⟨hcs, _⟩ | ⟨a, len', cap', m, n, V0, V1, D0, D1, P0, P1, hcs, _, hlc, hcm, hm, hx, hcell⟩
  · simp [Value.cells] at hcs
    obtain ⟨rfl, rfl, rfl⟩ := hcs
    exact ⟨[], Rd.nil W none 0⟩
  · simp [Value.cells] at hcs
    obtain ⟨rfl, rfl, rfl⟩ := hcs
    simp only [if_true] at hm
    subst hm
    have num : ∀ (t : Value) (x : DataW H × List MemPlace), DataW.trod enc Tryz.prog W 0 (fun _ => true) true n 3 [t] = some x → ∃ z, t = .int .i64 z := by
      intro t x hx
      obtain ⟨z, hz, _⟩ := DataW.trod_int Tryz.underlying3 hx
      exact ⟨z, by simpa using hz⟩
    let N : Value → Int := fun t => match t with | .int _ z => z | _ => 0
    refine ⟨(List.range len).map fun i => (N (V0 i), N (V1 i)), some a, _, by simp; rfl, by simp only [List.length_map, List.length_range]; omega, fun h0 => ?_⟩
    simp only [List.length_map, List.length_range] at h0 ⊢
    obtain ⟨b, off, spot⟩ := a
    have hs : spot = none := by
      have := (hcell 0 (by omega)).1
      simpa [Addr.add] using World.cell?_spot this
    subst hs
    refine ⟨b, off, rfl, ?_, fun i hi => ?_⟩
    · simp only [Prod.mk.injEq] at hx
      have := hlt (.cell b off) (by rw [hx.2]; exact List.mem_append_left _ (MemPlace.mem_row.2 ⟨0, by omega, by simp⟩))
      exact this
    · obtain ⟨c0, c1, t0, t1⟩ := hcell i (by omega)
      obtain ⟨z0, e0⟩ := num _ _ t0
      obtain ⟨z1, e1⟩ := num _ _ t1
      rw [add_plain] at c0 c1
      have hg : ((List.range len).map fun i => (N (V0 i), N (V1 i))).getD i (0, 0) = (z0, z1) := by
        simp [List.getD_eq_getElem?_getD, hi, e0, e1, N]
      rw [hg]
      exact ⟨by rw [c0, e0], by rw [show off + i * 2 + 1 = off + (i * 2 + 1) from by omega, c1, e1]⟩
end Go.Proofs.YtefhpbcdjgllnaaGreat

/- Part: An argument that is a value (a number and a slice of edges). -/
namespace Go.Proofs.YtefhpbcdjgllnaaGreat
open Go.ChangeShapes Go.WideShapes Go.ChangeAt Go.RowKit Go.Deep Go.Joins

theorem Tryz.cells31 : Tryz.prog.cellsOf 31 = 2 := by kernel_rfl

set_option maxRecDepth 100000 in
theorem rd_of_trod {H : Type} {enc : TypeId × Value → H} {W : World} {v : Value} {d : DataW H} {p : List MemPlace} {fuel : Nat}
    (hf : DataW.trod enc Tryz.prog W 0 (fun _ => true) true fuel 29 [v] = some (d, p)) (hlt : ∀ x ∈ p, x.block < W.heap.size) : ∃ l, Rd W v l := by
  rcases open_slice_pairs Tryz.underlying29 Tryz.underlying128 Tryz.cells128 rfl rfl Tryz.cells3 Tryz.cells3 hf with ⟨hcs, _⟩ | ⟨a, len', cap', m, n, V0, V1, D0, D1, P0, P1, hcs, _, hlc, hcm, hm, hx, hcell⟩
  · simp at hcs
    subst hcs
    exact ⟨[], Rd.nil W none 0⟩
  · simp at hcs
    subst hcs
    simp only [if_true] at hm
    subst hm
    have num : ∀ (t : Value) (x : DataW H × List MemPlace), DataW.trod enc Tryz.prog W 0 (fun _ => true) true n 3 [t] = some x → ∃ z, t = .int .i64 z := by
      intro t x hx
      obtain ⟨z, hz, _⟩ := DataW.trod_int Tryz.underlying3 hx
      exact ⟨z, by simpa using hz⟩
    let N : Value → Int := fun t => match t with | .int _ z => z | _ => 0
    refine ⟨(List.range len').map fun i => (N (V0 i), N (V1 i)), some a, _, by simp; rfl, by simp only [List.length_map, List.length_range]; omega, fun h0 => ?_⟩
    simp only [List.length_map, List.length_range] at h0 ⊢
    obtain ⟨b, off, spot⟩ := a
    have hs : spot = none := by
      have := (hcell 0 (by omega)).1
      simpa [Addr.add] using World.cell?_spot this
    subst hs
    refine ⟨b, off, rfl, ?_, fun i hi => ?_⟩
    · simp only [Prod.mk.injEq] at hx
      have := hlt (.cell b off) (by rw [hx.2]; exact List.mem_append_left _ (MemPlace.mem_row.2 ⟨0, by omega, by simp⟩))
      exact this
    · obtain ⟨c0, c1, t0, t1⟩ := hcell i (by omega)
      obtain ⟨z0, e0⟩ := num _ _ t0
      obtain ⟨z1, e1⟩ := num _ _ t1
      rw [add_plain] at c0 c1
      have hg : ((List.range len').map fun i => (N (V0 i), N (V1 i))).getD i (0, 0) = (z0, z1) := by
        simp [List.getD_eq_getElem?_getD, hi, e0, e1, N]
      rw [hg]
      exact ⟨by rw [c0, e0], by rw [show off + i * 2 + 1 = off + (i * 2 + 1) from by omega, c1, e1]⟩

set_option maxRecDepth 100000 in
theorem val_of {H : Type} {enc : TypeId × Value → H} {W : World} {base : Nat} {v : Value} {d : DataW H} {p : List MemPlace} (hv : Value.okWide Tryz.prog W .any base 31 v)
    (h : DataW.Trod enc Tryz.prog W 0 (fun _ => true) true 31 v d p) (hlt : ∀ x ∈ p, x.block < W.heap.size) : ∃ n u l, v = .agg #[.int .i64 n, u] ∧ Rd W u l := by
  obtain ⟨v0, v1, y0, y1, n, rfl, rfl, rfl, h0, h1⟩ := open_agg2 Tryz.underlying31 (by kernel_rfl) Tryz.cells31 hv h
  obtain ⟨z, hz, _⟩ := DataW.trod_int Tryz.underlying3 h0
  have hz' : v0 = .int .i64 z := by simpa using hz
  obtain ⟨d1, p1⟩ := y1
  obtain ⟨l, hl⟩ := rd_of_trod h1 (fun x hx => hlt x (List.mem_append_right _ hx))
  exact ⟨z, v1, l, by rw [hz'], hl⟩
end Go.Proofs.YtefhpbcdjgllnaaGreat

/- Part: An argument's cells: numbers, then kin; lists of such. -/
namespace Go.Proofs.YtefhpbcdjgllnaaGreat
open Go.ChangeShapes Go.WideShapes Go.ChangeAt Go.RowKit Go.Deep Go.Joins

theorem Tryz.cells29' : Tryz.prog.cellsOf 29 = 1 := by kernel_rfl
/-- The cells of an element: its m numbers, then its kin. -/
def CellsK (W : World) (m : Nat) (kn : Bool) (cs : List Value) (x : KD) : Prop :=
  x.1.length = m ∧ ∃ us : List Value, cs = x.1.map (fun n => Value.int .i64 n) ++ us ∧ (kn = true → ∃ u, us = [u] ∧ Rd W u x.2) ∧ (kn = false → us = [] ∧ x.2 = [])
theorem CellsK.append {W : World} {m1 m2 : Nat} {kn : Bool} {cs1 cs2 : List Value} {x1 x2 : KD} (h1 : CellsK W m1 false cs1 x1) (h2 : CellsK W m2 kn cs2 x2) : CellsK W (m1 + m2) kn (cs1 ++ cs2) (x1.1 ++ x2.1, x2.2) := by
  obtain ⟨l1, us1, rfl, _, g1⟩ := h1
  obtain ⟨l2, us2, rfl, f2, g2⟩ := h2
  obtain ⟨rfl, _⟩ := g1 rfl
  exact ⟨by rw [List.length_append, l1, l2], us2, by simp, f2, g2⟩
theorem CellsK.at {W : World} {m : Nat} {kn : Bool} {cs : List Value} {x : KD} {b p : Nat} (h : CellsK W m kn cs x) (hc : ∀ j, j < cs.length → W.cell? ⟨b, p + j, none⟩ = cs[j]?) : AtK m kn W b p x := by
  obtain ⟨l, us, rfl, f, g⟩ := h
  refine ⟨l, fun j hj => ?_, fun hk => ?_, fun hk => (g hk).2⟩
  · rw [hc j (by simp; omega), List.getElem?_append_left (by simp; omega), List.getElem?_map, List.getElem?_eq_getElem (by omega)]
    simp [List.getD_eq_getElem?_getD, List.getElem?_eq_getElem (show j < x.1.length by omega)]
  · obtain ⟨u, rfl, hu⟩ := f hk
    exact ⟨u, by rw [hc m (by simp [l]), List.getElem?_append_right (by simp [l])]; simp [l], hu⟩
/-- Whatever is read by a type has such cells. -/
def ElemK {H : Type} (enc : TypeId × Value → H) (W : World) (t : TypeId) (m : Nat) (kn : Bool) : Prop :=
  ∀ (fuel : Nat) (cs : List Value) (d : DataW H) (p : List MemPlace), DataW.trod enc Tryz.prog W 0 (fun _ => true) true fuel t cs = some (d, p) → (∀ x ∈ p, x.block < W.heap.size) → ∃ x, CellsK W m kn cs x
theorem elem_int {H : Type} (enc : TypeId × Value → H) (W : World) : ElemK enc W 3 1 false := by
  intro fuel cs d p h _
  obtain ⟨z, hz, _⟩ := DataW.trod_int Tryz.underlying3 h
  exact ⟨([z], []), rfl, [], by simpa using hz, fun q => (by cases q), fun _ => ⟨rfl, rfl⟩⟩
theorem elem_kin {H : Type} (enc : TypeId × Value → H) (W : World) : ElemK enc W 29 0 true := by
  intro fuel cs d p h hlt
  have : ∃ v, cs = [v] := by
    rcases open_slice Tryz.underlying29 h with ⟨hc, _⟩ | ⟨a, len, cap, _, _, _, _, hc, _⟩
    · exact ⟨_, hc⟩
    · exact ⟨_, hc⟩
  obtain ⟨v, rfl⟩ := this
  obtain ⟨l, hl⟩ := rd_of_trod h hlt
  exact ⟨([], l), rfl, [v], rfl, fun _ => ⟨v, rfl, hl⟩, fun q => (by cases q)⟩

set_option maxRecDepth 100000 in
theorem rdM_of_trod {H : Type} {enc : TypeId × Value → H} {W : World} {v : Value} {d : DataW H} {p : List MemPlace} {fuel : Nat} {t e : TypeId} {sz m : Nat} {kn : Bool} (ht : Tryz.prog.underlying t = some (.slice e)) (hce : Tryz.prog.cellsOf e = sz) (hsz : 0 < sz) (he : ElemK enc W e m kn)
    (hf : DataW.trod enc Tryz.prog W 0 (fun _ => true) true fuel t [v] = some (d, p)) (hlt : ∀ x ∈ p, x.block < W.heap.size) : ∃ L, RdM sz m kn W v L := by
  rcases open_slice ht hf with ⟨hcs, _⟩ | ⟨a, len, cap, mm, n, D, Pl, hcs, _, hl, hm, hmm, hx, hcell⟩
  · simp at hcs
    subst hcs
    exact ⟨[], RdM.nil W none 0⟩
  · simp at hcs
    subst hcs
    simp only [if_true] at hmm
    subst hmm
    simp only [Prod.mk.injEq] at hx
    rw [hce] at hcell hx
    have each : ∀ i, i < mm → ∃ q : List Value × KD, W.cells? 0 (a.add (i * sz)) sz = some q.1 ∧ CellsK W m kn q.1 q.2 := by
      intro i hi
      obtain ⟨cs', h1, h2⟩ := hcell i hi
      obtain ⟨x, hxk⟩ := he n cs' (D i) (Pl i) h2 (fun x hx1 => hlt x (by
        rw [hx.2]
        exact List.mem_append_right _ (List.mem_flatMap.2 ⟨i, List.mem_range.2 hi, hx1⟩)))
      exact ⟨(cs', x), h1, hxk⟩
    let N : Nat → KD := fun i => if h : i < mm then (each i h).choose.2 else kd0
    refine ⟨(List.range len).map N, some a, mm, by simp, by simp only [List.length_map, List.length_range]; omega, fun h0 => ?_⟩
    simp only [List.length_map, List.length_range] at h0 ⊢
    have hfirst : ∃ u, W.cell? (a.add (0 * sz)) = some u := by
      obtain ⟨cs', h1, _⟩ := hcell 0 (by omega)
      obtain ⟨_, hlen, hcc⟩ := World.cells?_some h1
      have := hcc 0 hsz
      refine ⟨cs'[0]'(by omega), ?_⟩
      rw [add_add, Nat.add_zero] at this
      rw [this]
      simp [List.getElem?_eq_getElem (show 0 < cs'.length by omega)]
    obtain ⟨b, off, spot⟩ := a
    have hs : spot = none := by
      obtain ⟨u, hu⟩ := hfirst
      simpa [Addr.add] using World.cell?_spot hu
    subst hs
    refine ⟨b, off, rfl, ?_, fun i hi => ?_⟩
    · have := hlt (.cell b off) (by rw [hx.2]; exact List.mem_append_left _ (MemPlace.mem_row.2 ⟨0, Nat.mul_pos (by omega) hsz, by simp⟩))
      exact this
    · have hg : ((List.range len).map N).getD i kd0 = N i := by
        simp [List.getD_eq_getElem?_getD, hi]
      rw [hg]
      have hi' : i < mm := by omega
      obtain ⟨h1, h2⟩ := (each i hi').choose_spec
      have hN : N i = (each i hi').choose.2 := by simp only [N, dif_pos hi']
      rw [hN]
      obtain ⟨_, hlen, hcc⟩ := World.cells?_some h1
      refine h2.at fun j hj => ?_
      have e : (((⟨b, off, none⟩ : Addr).add (i * sz)).add j) = ⟨b, off + i * sz + j, none⟩ := by rw [add_plain, add_plain]
      exact (congrArg W.cell? e).symm.trans (hcc j (by omega))
end Go.Proofs.YtefhpbcdjgllnaaGreat

/- Part: The elements of a value's list, as an argument. Taken out of OpenCache and OpenShard. -/
namespace Go.Proofs.YtefhpbcdjgllnaaGreat
open Go.ChangeShapes Go.WideShapes Go.ChangeAt Go.RowKit Go.Deep Go.Joins

theorem Tryz.cells_Val : Tryz.prog.cellsOf 31 = 2 := by kernel_rfl
set_option maxRecDepth 100000 in
theorem elem_Val {H : Type} (enc : TypeId × Value → H) (W : World) : ElemK enc W 31 1 true := by
  intro fuel cs d p h hlt
  obtain ⟨xs, n, _, hx, hl, hxl, hff⟩ := DataW.trod_struct Tryz.underlying31 h
  rw [Tryz.cells_Val] at hl
  simp only [Prod.mk.injEq] at hx
  match xs, hxl, hx, hff with
  | [(d0, q0), (d1, q1)], _, hx, hff =>
    have h0 : DataW.trod enc Tryz.prog W 0 (fun _ => true) true n 3 ((cs.drop 0).take 1) = some (d0, q0) := by
      have h := hff 0 _ rfl
      first | exact h | (rw [Tryz.cells3] at h; exact h)
    obtain ⟨x0, k0⟩ := elem_int enc W _ _ _ _ h0 (fun x hx1 => hlt x (by rw [hx.2]; simp only [List.flatMap_cons, List.flatMap_nil, List.mem_append]; exact Or.inl hx1))
    have h1 : DataW.trod enc Tryz.prog W 0 (fun _ => true) true n 29 ((cs.drop 1).take 1) = some (d1, q1) := by
      have h := hff 1 _ rfl
      first | exact h | (rw [Tryz.cells29'] at h; exact h)
    obtain ⟨x1, k1⟩ := elem_kin enc W _ _ _ _ h1 (fun x hx1 => hlt x (by rw [hx.2]; simp only [List.flatMap_cons, List.flatMap_nil, List.mem_append]; exact Or.inr (Or.inl hx1)))
    have e : cs = (cs.drop 0).take 1 ++ ((cs.drop 1).take 1) := by
      match cs, hl with
      | [z0, z1], _ => rfl
    have k := (k0.append k1)
    rw [← e] at k
    exact ⟨_, k⟩
end Go.Proofs.YtefhpbcdjgllnaaGreat

/- Part: An argument that is a Shard. Written by a program (gopen.py). -/
namespace Go.Proofs.YtefhpbcdjgllnaaGreat
open Go.ChangeShapes Go.WideShapes Go.ChangeAt Go.RowKit Go.Deep Go.Joins

theorem Tryz.cells_Row : Tryz.prog.cellsOf 79 = 3 := by kernel_rfl
set_option maxRecDepth 100000 in
theorem elem_Row {H : Type} (enc : TypeId × Value → H) (W : World) : ElemK enc W 79 2 true := by
  intro fuel cs d p h hlt
  obtain ⟨xs, n, _, hx, hl, hxl, hff⟩ := DataW.trod_struct Tryz.underlying79 h
  rw [Tryz.cells_Row] at hl
  simp only [Prod.mk.injEq] at hx
  match xs, hxl, hx, hff with
  | [(d0, q0), (d1, q1)], _, hx, hff =>
    have h0 : DataW.trod enc Tryz.prog W 0 (fun _ => true) true n 3 ((cs.drop 0).take 1) = some (d0, q0) := by
      have h := hff 0 _ rfl
      first | exact h | (rw [Tryz.cells3] at h; exact h)
    obtain ⟨x0, k0⟩ := elem_int enc W _ _ _ _ h0 (fun x hx1 => hlt x (by rw [hx.2]; simp only [List.flatMap_cons, List.flatMap_nil, List.mem_append]; exact Or.inl hx1))
    have h1 : DataW.trod enc Tryz.prog W 0 (fun _ => true) true n 31 ((cs.drop 1).take 2) = some (d1, q1) := by
      have h := hff 1 _ rfl
      first | exact h | (rw [Tryz.cells_Val] at h; exact h)
    obtain ⟨x1, k1⟩ := elem_Val enc W _ _ _ _ h1 (fun x hx1 => hlt x (by rw [hx.2]; simp only [List.flatMap_cons, List.flatMap_nil, List.mem_append]; exact Or.inr (Or.inl hx1)))
    have e : cs = (cs.drop 0).take 1 ++ ((cs.drop 1).take 2) := by
      match cs, hl with
      | [z0, z1, z2], _ => rfl
    have k := (k0.append k1)
    rw [← e] at k
    exact ⟨_, k⟩
theorem Tryz.cells_Req : Tryz.prog.cellsOf 93 = 3 := by kernel_rfl
set_option maxRecDepth 100000 in
theorem elem_Req {H : Type} (enc : TypeId × Value → H) (W : World) : ElemK enc W 93 3 false := by
  intro fuel cs d p h hlt
  obtain ⟨xs, n, _, hx, hl, hxl, hff⟩ := DataW.trod_struct Tryz.underlying93 h
  rw [Tryz.cells_Req] at hl
  simp only [Prod.mk.injEq] at hx
  match xs, hxl, hx, hff with
  | [(d0, q0), (d1, q1), (d2, q2)], _, hx, hff =>
    have h0 : DataW.trod enc Tryz.prog W 0 (fun _ => true) true n 3 ((cs.drop 0).take 1) = some (d0, q0) := by
      have h := hff 0 _ rfl
      first | exact h | (rw [Tryz.cells3] at h; exact h)
    obtain ⟨x0, k0⟩ := elem_int enc W _ _ _ _ h0 (fun x hx1 => hlt x (by rw [hx.2]; simp only [List.flatMap_cons, List.flatMap_nil, List.mem_append]; exact Or.inl hx1))
    have h1 : DataW.trod enc Tryz.prog W 0 (fun _ => true) true n 3 ((cs.drop 1).take 1) = some (d1, q1) := by
      have h := hff 1 _ rfl
      first | exact h | (rw [Tryz.cells3] at h; exact h)
    obtain ⟨x1, k1⟩ := elem_int enc W _ _ _ _ h1 (fun x hx1 => hlt x (by rw [hx.2]; simp only [List.flatMap_cons, List.flatMap_nil, List.mem_append]; exact Or.inr (Or.inl hx1)))
    have h2 : DataW.trod enc Tryz.prog W 0 (fun _ => true) true n 3 ((cs.drop 2).take 1) = some (d2, q2) := by
      have h := hff 2 _ rfl
      first | exact h | (rw [Tryz.cells3] at h; exact h)
    obtain ⟨x2, k2⟩ := elem_int enc W _ _ _ _ h2 (fun x hx1 => hlt x (by rw [hx.2]; simp only [List.flatMap_cons, List.flatMap_nil, List.mem_append]; exact Or.inr (Or.inr (Or.inl hx1))))
    have e : cs = (cs.drop 0).take 1 ++ ((cs.drop 1).take 1 ++ ((cs.drop 2).take 1)) := by
      match cs, hl with
      | [z0, z1, z2], _ => rfl
    have k := (k0.append (k1.append k2))
    rw [← e] at k
    exact ⟨_, k⟩
theorem Tryz.cells_Done : Tryz.prog.cellsOf 95 = 6 := by kernel_rfl
set_option maxRecDepth 100000 in
theorem elem_Done {H : Type} (enc : TypeId × Value → H) (W : World) : ElemK enc W 95 6 false := by
  intro fuel cs d p h hlt
  obtain ⟨xs, n, _, hx, hl, hxl, hff⟩ := DataW.trod_struct Tryz.underlying95 h
  rw [Tryz.cells_Done] at hl
  simp only [Prod.mk.injEq] at hx
  match xs, hxl, hx, hff with
  | [(d0, q0), (d1, q1), (d2, q2), (d3, q3)], _, hx, hff =>
    have h0 : DataW.trod enc Tryz.prog W 0 (fun _ => true) true n 93 ((cs.drop 0).take 3) = some (d0, q0) := by
      have h := hff 0 _ rfl
      first | exact h | (rw [Tryz.cells_Req] at h; exact h)
    obtain ⟨x0, k0⟩ := elem_Req enc W _ _ _ _ h0 (fun x hx1 => hlt x (by rw [hx.2]; simp only [List.flatMap_cons, List.flatMap_nil, List.mem_append]; exact Or.inl hx1))
    have h1 : DataW.trod enc Tryz.prog W 0 (fun _ => true) true n 3 ((cs.drop 3).take 1) = some (d1, q1) := by
      have h := hff 1 _ rfl
      first | exact h | (rw [Tryz.cells3] at h; exact h)
    obtain ⟨x1, k1⟩ := elem_int enc W _ _ _ _ h1 (fun x hx1 => hlt x (by rw [hx.2]; simp only [List.flatMap_cons, List.flatMap_nil, List.mem_append]; exact Or.inr (Or.inl hx1)))
    have h2 : DataW.trod enc Tryz.prog W 0 (fun _ => true) true n 3 ((cs.drop 4).take 1) = some (d2, q2) := by
      have h := hff 2 _ rfl
      first | exact h | (rw [Tryz.cells3] at h; exact h)
    obtain ⟨x2, k2⟩ := elem_int enc W _ _ _ _ h2 (fun x hx1 => hlt x (by rw [hx.2]; simp only [List.flatMap_cons, List.flatMap_nil, List.mem_append]; exact Or.inr (Or.inr (Or.inl hx1))))
    have h3 : DataW.trod enc Tryz.prog W 0 (fun _ => true) true n 3 ((cs.drop 5).take 1) = some (d3, q3) := by
      have h := hff 3 _ rfl
      first | exact h | (rw [Tryz.cells3] at h; exact h)
    obtain ⟨x3, k3⟩ := elem_int enc W _ _ _ _ h3 (fun x hx1 => hlt x (by rw [hx.2]; simp only [List.flatMap_cons, List.flatMap_nil, List.mem_append]; exact Or.inr (Or.inr (Or.inr (Or.inl hx1)))))
    have e : cs = (cs.drop 0).take 3 ++ ((cs.drop 3).take 1 ++ ((cs.drop 4).take 1 ++ ((cs.drop 5).take 1))) := by
      match cs, hl with
      | [z0, z1, z2, z3, z4, z5], _ => rfl
    have k := (k0.append (k1.append (k2.append k3)))
    rw [← e] at k
    exact ⟨_, k⟩
theorem Tryz.cells_Op : Tryz.prog.cellsOf 101 = 4 := by kernel_rfl
set_option maxRecDepth 100000 in
theorem elem_Op {H : Type} (enc : TypeId × Value → H) (W : World) : ElemK enc W 101 4 false := by
  intro fuel cs d p h hlt
  obtain ⟨xs, n, _, hx, hl, hxl, hff⟩ := DataW.trod_struct Tryz.underlying101 h
  rw [Tryz.cells_Op] at hl
  simp only [Prod.mk.injEq] at hx
  match xs, hxl, hx, hff with
  | [(d0, q0), (d1, q1), (d2, q2), (d3, q3)], _, hx, hff =>
    have h0 : DataW.trod enc Tryz.prog W 0 (fun _ => true) true n 3 ((cs.drop 0).take 1) = some (d0, q0) := by
      have h := hff 0 _ rfl
      first | exact h | (rw [Tryz.cells3] at h; exact h)
    obtain ⟨x0, k0⟩ := elem_int enc W _ _ _ _ h0 (fun x hx1 => hlt x (by rw [hx.2]; simp only [List.flatMap_cons, List.flatMap_nil, List.mem_append]; exact Or.inl hx1))
    have h1 : DataW.trod enc Tryz.prog W 0 (fun _ => true) true n 3 ((cs.drop 1).take 1) = some (d1, q1) := by
      have h := hff 1 _ rfl
      first | exact h | (rw [Tryz.cells3] at h; exact h)
    obtain ⟨x1, k1⟩ := elem_int enc W _ _ _ _ h1 (fun x hx1 => hlt x (by rw [hx.2]; simp only [List.flatMap_cons, List.flatMap_nil, List.mem_append]; exact Or.inr (Or.inl hx1)))
    have h2 : DataW.trod enc Tryz.prog W 0 (fun _ => true) true n 3 ((cs.drop 2).take 1) = some (d2, q2) := by
      have h := hff 2 _ rfl
      first | exact h | (rw [Tryz.cells3] at h; exact h)
    obtain ⟨x2, k2⟩ := elem_int enc W _ _ _ _ h2 (fun x hx1 => hlt x (by rw [hx.2]; simp only [List.flatMap_cons, List.flatMap_nil, List.mem_append]; exact Or.inr (Or.inr (Or.inl hx1))))
    have h3 : DataW.trod enc Tryz.prog W 0 (fun _ => true) true n 3 ((cs.drop 3).take 1) = some (d3, q3) := by
      have h := hff 3 _ rfl
      first | exact h | (rw [Tryz.cells3] at h; exact h)
    obtain ⟨x3, k3⟩ := elem_int enc W _ _ _ _ h3 (fun x hx1 => hlt x (by rw [hx.2]; simp only [List.flatMap_cons, List.flatMap_nil, List.mem_append]; exact Or.inr (Or.inr (Or.inr (Or.inl hx1)))))
    have e : cs = (cs.drop 0).take 1 ++ ((cs.drop 1).take 1 ++ ((cs.drop 2).take 1 ++ ((cs.drop 3).take 1))) := by
      match cs, hl with
      | [z0, z1, z2, z3], _ => rfl
    have k := (k0.append (k1.append (k2.append k3)))
    rw [← e] at k
    exact ⟨_, k⟩
theorem Tryz.cells_Intent : Tryz.prog.cellsOf 103 = 5 := by kernel_rfl
set_option maxRecDepth 100000 in
theorem elem_Intent {H : Type} (enc : TypeId × Value → H) (W : World) : ElemK enc W 103 5 false := by
  intro fuel cs d p h hlt
  obtain ⟨xs, n, _, hx, hl, hxl, hff⟩ := DataW.trod_struct Tryz.underlying103 h
  rw [Tryz.cells_Intent] at hl
  simp only [Prod.mk.injEq] at hx
  match xs, hxl, hx, hff with
  | [(d0, q0), (d1, q1)], _, hx, hff =>
    have h0 : DataW.trod enc Tryz.prog W 0 (fun _ => true) true n 3 ((cs.drop 0).take 1) = some (d0, q0) := by
      have h := hff 0 _ rfl
      first | exact h | (rw [Tryz.cells3] at h; exact h)
    obtain ⟨x0, k0⟩ := elem_int enc W _ _ _ _ h0 (fun x hx1 => hlt x (by rw [hx.2]; simp only [List.flatMap_cons, List.flatMap_nil, List.mem_append]; exact Or.inl hx1))
    have h1 : DataW.trod enc Tryz.prog W 0 (fun _ => true) true n 101 ((cs.drop 1).take 4) = some (d1, q1) := by
      have h := hff 1 _ rfl
      first | exact h | (rw [Tryz.cells_Op] at h; exact h)
    obtain ⟨x1, k1⟩ := elem_Op enc W _ _ _ _ h1 (fun x hx1 => hlt x (by rw [hx.2]; simp only [List.flatMap_cons, List.flatMap_nil, List.mem_append]; exact Or.inr (Or.inl hx1)))
    have e : cs = (cs.drop 0).take 1 ++ ((cs.drop 1).take 4) := by
      match cs, hl with
      | [z0, z1, z2, z3, z4], _ => rfl
    have k := (k0.append k1)
    rw [← e] at k
    exact ⟨_, k⟩
theorem Tryz.cells_Seen : Tryz.prog.cellsOf 107 = 3 := by kernel_rfl
set_option maxRecDepth 100000 in
theorem elem_Seen {H : Type} (enc : TypeId × Value → H) (W : World) : ElemK enc W 107 3 false := by
  intro fuel cs d p h hlt
  obtain ⟨xs, n, _, hx, hl, hxl, hff⟩ := DataW.trod_struct Tryz.underlying107 h
  rw [Tryz.cells_Seen] at hl
  simp only [Prod.mk.injEq] at hx
  match xs, hxl, hx, hff with
  | [(d0, q0), (d1, q1), (d2, q2)], _, hx, hff =>
    have h0 : DataW.trod enc Tryz.prog W 0 (fun _ => true) true n 3 ((cs.drop 0).take 1) = some (d0, q0) := by
      have h := hff 0 _ rfl
      first | exact h | (rw [Tryz.cells3] at h; exact h)
    obtain ⟨x0, k0⟩ := elem_int enc W _ _ _ _ h0 (fun x hx1 => hlt x (by rw [hx.2]; simp only [List.flatMap_cons, List.flatMap_nil, List.mem_append]; exact Or.inl hx1))
    have h1 : DataW.trod enc Tryz.prog W 0 (fun _ => true) true n 3 ((cs.drop 1).take 1) = some (d1, q1) := by
      have h := hff 1 _ rfl
      first | exact h | (rw [Tryz.cells3] at h; exact h)
    obtain ⟨x1, k1⟩ := elem_int enc W _ _ _ _ h1 (fun x hx1 => hlt x (by rw [hx.2]; simp only [List.flatMap_cons, List.flatMap_nil, List.mem_append]; exact Or.inr (Or.inl hx1)))
    have h2 : DataW.trod enc Tryz.prog W 0 (fun _ => true) true n 3 ((cs.drop 2).take 1) = some (d2, q2) := by
      have h := hff 2 _ rfl
      first | exact h | (rw [Tryz.cells3] at h; exact h)
    obtain ⟨x2, k2⟩ := elem_int enc W _ _ _ _ h2 (fun x hx1 => hlt x (by rw [hx.2]; simp only [List.flatMap_cons, List.flatMap_nil, List.mem_append]; exact Or.inr (Or.inr (Or.inl hx1))))
    have e : cs = (cs.drop 0).take 1 ++ ((cs.drop 1).take 1 ++ ((cs.drop 2).take 1)) := by
      match cs, hl with
      | [z0, z1, z2], _ => rfl
    have k := (k0.append (k1.append k2))
    rw [← e] at k
    exact ⟨_, k⟩
theorem Tryz.cells_Commit : Tryz.prog.cellsOf 81 = 4 := by kernel_rfl
set_option maxRecDepth 100000 in
theorem elem_Commit {H : Type} (enc : TypeId × Value → H) (W : World) : ElemK enc W 81 3 true := by
  intro fuel cs d p h hlt
  obtain ⟨xs, n, _, hx, hl, hxl, hff⟩ := DataW.trod_struct Tryz.underlying81 h
  rw [Tryz.cells_Commit] at hl
  simp only [Prod.mk.injEq] at hx
  match xs, hxl, hx, hff with
  | [(d0, q0), (d1, q1), (d2, q2)], _, hx, hff =>
    have h0 : DataW.trod enc Tryz.prog W 0 (fun _ => true) true n 3 ((cs.drop 0).take 1) = some (d0, q0) := by
      have h := hff 0 _ rfl
      first | exact h | (rw [Tryz.cells3] at h; exact h)
    obtain ⟨x0, k0⟩ := elem_int enc W _ _ _ _ h0 (fun x hx1 => hlt x (by rw [hx.2]; simp only [List.flatMap_cons, List.flatMap_nil, List.mem_append]; exact Or.inl hx1))
    have h1 : DataW.trod enc Tryz.prog W 0 (fun _ => true) true n 3 ((cs.drop 1).take 1) = some (d1, q1) := by
      have h := hff 1 _ rfl
      first | exact h | (rw [Tryz.cells3] at h; exact h)
    obtain ⟨x1, k1⟩ := elem_int enc W _ _ _ _ h1 (fun x hx1 => hlt x (by rw [hx.2]; simp only [List.flatMap_cons, List.flatMap_nil, List.mem_append]; exact Or.inr (Or.inl hx1)))
    have h2 : DataW.trod enc Tryz.prog W 0 (fun _ => true) true n 31 ((cs.drop 2).take 2) = some (d2, q2) := by
      have h := hff 2 _ rfl
      first | exact h | (rw [Tryz.cells_Val] at h; exact h)
    obtain ⟨x2, k2⟩ := elem_Val enc W _ _ _ _ h2 (fun x hx1 => hlt x (by rw [hx.2]; simp only [List.flatMap_cons, List.flatMap_nil, List.mem_append]; exact Or.inr (Or.inr (Or.inl hx1))))
    have e : cs = (cs.drop 0).take 1 ++ ((cs.drop 1).take 1 ++ ((cs.drop 2).take 2)) := by
      match cs, hl with
      | [z0, z1, z2, z3], _ => rfl
    have k := (k0.append (k1.append k2))
    rw [← e] at k
    exact ⟨_, k⟩
theorem Tryz.cellsL_Row : Tryz.prog.cellsOf 22 = 1 := by kernel_rfl
theorem Tryz.cellsL_Done : Tryz.prog.cellsOf 23 = 1 := by kernel_rfl
theorem Tryz.cellsL_Intent : Tryz.prog.cellsOf 24 = 1 := by kernel_rfl
theorem Tryz.cellsL_Seen : Tryz.prog.cellsOf 25 = 1 := by kernel_rfl
theorem Tryz.cellsL_Commit : Tryz.prog.cellsOf 26 = 1 := by kernel_rfl
theorem Tryz.cells_Shard : Tryz.prog.cellsOf 28 = 8 := by kernel_rfl
set_option maxRecDepth 100000 in
theorem shard_of {H : Type} {enc : TypeId × Value → H} {W : World} {base : Nat} {v : Value} {d : DataW H} {p : List MemPlace} (hv : Value.okWide Tryz.prog W .any base 28 v)
    (h : DataW.Trod enc Tryz.prog W 0 (fun _ => true) true 28 v d p) (hlt : ∀ x ∈ p, x.block < W.heap.size) : ∃ (i0 i1 i2 : Int) (u0 u1 u2 u3 u4 : Value) (L0 L1 L2 L3 L4 : List KD), v = .agg #[.int .i64 i0, .int .i64 i1, .int .i64 i2, u0, u1, u2, u3, u4] ∧ RSShard W u0 u1 u2 u3 u4 L0 L1 L2 L3 L4 := by
  obtain ⟨cs, rfl, hsz⟩ := okWide_struct Tryz.underlying28 hv
  rw [Tryz.cells_Shard] at hsz
  obtain ⟨z0, z1, z2, z3, z4, z5, z6, z7, rfl⟩ : ∃ z0 z1 z2 z3 z4 z5 z6 z7, cs = #[z0, z1, z2, z3, z4, z5, z6, z7] := by
    obtain ⟨l⟩ := cs
    match l, hsz with
    | [z0, z1, z2, z3, z4, z5, z6, z7], _ => exact ⟨z0, z1, z2, z3, z4, z5, z6, z7, rfl⟩
  obtain ⟨fuel, hf⟩ := h
  obtain ⟨xs, n, _, hx, _, hxl, hff⟩ := DataW.trod_struct Tryz.underlying28 hf
  simp only [Prod.mk.injEq] at hx
  match xs, hxl, hx, hff with
  | [(d0, q0), (d1, q1), (d2, q2), (d3, q3), (d4, q4), (d5, q5), (d6, q6), (d7, q7)], _, hx, hff =>
    have h0 := hff 0 _ rfl
    simp [Value.cells, Tryz.cells3] at h0
    obtain ⟨i0, hz0, _⟩ := DataW.trod_int Tryz.underlying3 h0
    have hz0' : z0 = .int .i64 i0 := by simpa using hz0
    have h1 := hff 1 _ rfl
    simp [Value.cells, Tryz.cells3] at h1
    obtain ⟨i1, hz1, _⟩ := DataW.trod_int Tryz.underlying3 h1
    have hz1' : z1 = .int .i64 i1 := by simpa using hz1
    have h2 := hff 2 _ rfl
    simp [Value.cells, Tryz.cells3] at h2
    obtain ⟨i2, hz2, _⟩ := DataW.trod_int Tryz.underlying3 h2
    have hz2' : z2 = .int .i64 i2 := by simpa using hz2
    have h3 := hff 3 _ rfl
    simp [Value.cells, Tryz.cellsL_Row] at h3
    obtain ⟨L0, hL0⟩ := rdM_of_trod (sz := 3) (m := 2) (kn := true) Tryz.underlying22 Tryz.cells_Row (by decide) (elem_Row enc W) h3 (fun x hx1 => hlt x (by rw [hx.2]; simp only [List.flatMap_cons, List.flatMap_nil, List.mem_append]; exact Or.inr (Or.inr (Or.inr (Or.inl hx1)))))
    have h4 := hff 4 _ rfl
    simp [Value.cells, Tryz.cellsL_Done] at h4
    obtain ⟨L1, hL1⟩ := rdM_of_trod (sz := 6) (m := 6) (kn := false) Tryz.underlying23 Tryz.cells_Done (by decide) (elem_Done enc W) h4 (fun x hx1 => hlt x (by rw [hx.2]; simp only [List.flatMap_cons, List.flatMap_nil, List.mem_append]; exact Or.inr (Or.inr (Or.inr (Or.inr (Or.inl hx1))))))
    have h5 := hff 5 _ rfl
    simp [Value.cells, Tryz.cellsL_Intent] at h5
    obtain ⟨L2, hL2⟩ := rdM_of_trod (sz := 5) (m := 5) (kn := false) Tryz.underlying24 Tryz.cells_Intent (by decide) (elem_Intent enc W) h5 (fun x hx1 => hlt x (by rw [hx.2]; simp only [List.flatMap_cons, List.flatMap_nil, List.mem_append]; exact Or.inr (Or.inr (Or.inr (Or.inr (Or.inr (Or.inl hx1)))))))
    have h6 := hff 6 _ rfl
    simp [Value.cells, Tryz.cellsL_Seen] at h6
    obtain ⟨L3, hL3⟩ := rdM_of_trod (sz := 3) (m := 3) (kn := false) Tryz.underlying25 Tryz.cells_Seen (by decide) (elem_Seen enc W) h6 (fun x hx1 => hlt x (by rw [hx.2]; simp only [List.flatMap_cons, List.flatMap_nil, List.mem_append]; exact Or.inr (Or.inr (Or.inr (Or.inr (Or.inr (Or.inr (Or.inl hx1))))))))
    have h7 := hff 7 _ rfl
    simp [Value.cells, Tryz.cellsL_Commit] at h7
    obtain ⟨L4, hL4⟩ := rdM_of_trod (sz := 4) (m := 3) (kn := true) Tryz.underlying26 Tryz.cells_Commit (by decide) (elem_Commit enc W) h7 (fun x hx1 => hlt x (by rw [hx.2]; simp only [List.flatMap_cons, List.flatMap_nil, List.mem_append]; exact Or.inr (Or.inr (Or.inr (Or.inr (Or.inr (Or.inr (Or.inr (Or.inl hx1)))))))))
    exact ⟨i0, i1, i2, z3, z4, z5, z6, z7, L0, L1, L2, L3, L4, by rw [hz0', hz1', hz2'], ⟨hL0, hL1, hL2, hL3, hL4⟩⟩
end Go.Proofs.YtefhpbcdjgllnaaGreat

/- Part: An argument that is a Cache. Written by a program (gopen.py). -/
namespace Go.Proofs.YtefhpbcdjgllnaaGreat
open Go.ChangeShapes Go.WideShapes Go.ChangeAt Go.RowKit Go.Deep Go.Joins

theorem Tryz.cells_Item : Tryz.prog.cellsOf 33 = 4 := by kernel_rfl
set_option maxRecDepth 100000 in
theorem elem_Item {H : Type} (enc : TypeId × Value → H) (W : World) : ElemK enc W 33 3 true := by
  intro fuel cs d p h hlt
  obtain ⟨xs, n, _, hx, hl, hxl, hff⟩ := DataW.trod_struct Tryz.underlying33 h
  rw [Tryz.cells_Item] at hl
  simp only [Prod.mk.injEq] at hx
  match xs, hxl, hx, hff with
  | [(d0, q0), (d1, q1), (d2, q2)], _, hx, hff =>
    have h0 : DataW.trod enc Tryz.prog W 0 (fun _ => true) true n 3 ((cs.drop 0).take 1) = some (d0, q0) := by
      have h := hff 0 _ rfl
      first | exact h | (rw [Tryz.cells3] at h; exact h)
    obtain ⟨x0, k0⟩ := elem_int enc W _ _ _ _ h0 (fun x hx1 => hlt x (by rw [hx.2]; simp only [List.flatMap_cons, List.flatMap_nil, List.mem_append]; exact Or.inl hx1))
    have h1 : DataW.trod enc Tryz.prog W 0 (fun _ => true) true n 3 ((cs.drop 1).take 1) = some (d1, q1) := by
      have h := hff 1 _ rfl
      first | exact h | (rw [Tryz.cells3] at h; exact h)
    obtain ⟨x1, k1⟩ := elem_int enc W _ _ _ _ h1 (fun x hx1 => hlt x (by rw [hx.2]; simp only [List.flatMap_cons, List.flatMap_nil, List.mem_append]; exact Or.inr (Or.inl hx1)))
    have h2 : DataW.trod enc Tryz.prog W 0 (fun _ => true) true n 31 ((cs.drop 2).take 2) = some (d2, q2) := by
      have h := hff 2 _ rfl
      first | exact h | (rw [Tryz.cells_Val] at h; exact h)
    obtain ⟨x2, k2⟩ := elem_Val enc W _ _ _ _ h2 (fun x hx1 => hlt x (by rw [hx.2]; simp only [List.flatMap_cons, List.flatMap_nil, List.mem_append]; exact Or.inr (Or.inr (Or.inl hx1))))
    have e : cs = (cs.drop 0).take 1 ++ ((cs.drop 1).take 1 ++ ((cs.drop 2).take 2)) := by
      match cs, hl with
      | [z0, z1, z2, z3], _ => rfl
    have k := (k0.append (k1.append k2))
    rw [← e] at k
    exact ⟨_, k⟩
theorem Tryz.cellsL_int : Tryz.prog.cellsOf 170 = 1 := by kernel_rfl
end Go.Proofs.YtefhpbcdjgllnaaGreat

/- Part: An argument that is an item. -/
namespace Go.Proofs.YtefhpbcdjgllnaaGreat
open Go.ChangeShapes Go.WideShapes Go.ChangeAt Go.RowKit Go.Deep Go.Joins

set_option maxRecDepth 100000 in
theorem item_of {H : Type} {enc : TypeId × Value → H} {W : World} {base : Nat} {v : Value} {d : DataW H} {p : List MemPlace} (hv : Value.okWide Tryz.prog W .any base 33 v)
    (h : DataW.Trod enc Tryz.prog W 0 (fun _ => true) true 33 v d p) (hlt : ∀ x ∈ p, x.block < W.heap.size) : ∃ (k a n : Int) (u : Value) (l : List (Int × Int)), v = .agg #[.int .i64 k, .int .i64 a, .int .i64 n, u] ∧ Rd W u l := by
  obtain ⟨cs, rfl, _⟩ := okWide_struct Tryz.underlying33 hv
  obtain ⟨fuel, hf⟩ := h
  obtain ⟨x, hlen, tl, hcs, hk, _⟩ := elem_Item enc W fuel _ _ _ hf hlt
  obtain ⟨p0, p1, p2, l, rfl⟩ := kd_3k hlen
  obtain ⟨u, rfl, hr⟩ := hk rfl
  refine ⟨p0, p1, p2, u, l, ?_, hr⟩
  obtain ⟨cl⟩ := cs
  simp [Value.cells] at hcs
  rw [hcs]
end Go.Proofs.YtefhpbcdjgllnaaGreat

/- Part: Proved here: FnExactToldWas returns true for every part and every item (no condition); what it was handed reads as before. -/
namespace Go.Proofs.YtefhpbcdjgllnaaGreat
open Go.ChangeShapes Go.WideShapes Go.ChangeAt Go.RowKit

set_option maxRecDepth 100000 in
theorem tWas_lifted (os : Os) (started : os.Started) (H : Type) (enc : TypeId × Value → H) :
    ReturnsInHanded {} Tryz.checked os 3 .any (Rows.fnExactToldWasSpec.pre6 enc Tryz.prog Tryz.f3 Rows.fnExactToldWasRow.domain false) (Rows.fnExactToldWasSpec.post enc Tryz.prog Tryz.f3 false true false false) := by
  refine returnsInHanded_of_change (C := Tryz.checked) Tryz.own started (by kernel_rfl) Tryz.func3
    (ChangeSpec.witness6 (enc := enc) (C := Tryz.checked) false ⟨#[], #[.agg #[.int .i64 0, .int .i64 0, .int .i64 0, .slice none 0 0, .slice none 0 0, .slice none 0 0, .slice none 0 0, .slice none 0 0], .agg #[.int .i64 0, .int .i64 0, .int .i64 0, .slice none 0 0]], []⟩ 8 (by kernel_rfl) (by kernel_rfl) (by kernel_rfl) (by kernel_rfl)) ?_
  intro W base args ds gs before hval0 hW _ _
  have hval : ∀ (j : Nat) t v, Tryz.f3.params[j]? = some t → args[j]? = some v → Value.okWide Tryz.prog W .any base t v := hval0
  have hW' := hW
  obtain ⟨p, q, hA0, hV, rfl, _, _⟩ := hW
  have hA : DataW.TrodAll enc Tryz.prog W 0 (fun _ => true) true Tryz.f3.params.toList args.toList ds p := hA0
  rw [Tryz.params3] at hA hval
  obtain ⟨v0, v1, d0, d1, p0, p1, rfl, rfl, rfl, h0, h1⟩ := trodAll_two hA
  obtain ⟨rfl, rfl⟩ := trodVars_none hV
  clear hA0 hval0
  simp only [List.append_nil] at hW'
  have hlt0 : ∀ x ∈ p0, x.block < W.heap.size := fun x hx => by have := hW'.lt x (by first | exact hx | (simp; first | exact hx | exact Or.inl hx | exact Or.inr hx | exact Or.inr (Or.inl hx))); exact this
  obtain ⟨i0_0, i0_1, i0_2, u0_0, u0_1, u0_2, u0_3, u0_4, l0_0, l0_1, l0_2, l0_3, l0_4, ev0, hl0⟩ := shard_of (hval 0 28 v0 rfl rfl) h0 hlt0
  have hargs0 : ∀ (W' : World), Below W.heap.size W W' → DataW.Trod enc Tryz.prog W' 0 (fun b => decide (b < W.heap.size)) true 28 v0 d0 p0 :=
    fun W' hn => Below.trod Tryz.laidOut (by kernel_rfl) (of_decide_eq_true (by kernel_rfl)) h0 hn hlt0
  subst ev0
  have hlt1 : ∀ x ∈ p1, x.block < W.heap.size := fun x hx => by have := hW'.lt x (by first | exact hx | (simp; first | exact hx | exact Or.inl hx | exact Or.inr hx | exact Or.inr (Or.inl hx))); exact this
  obtain ⟨k1, a1, b1, u1, l1, ev1, hl1⟩ := item_of (hval 1 33 v1 rfl rfl) h1 hlt1
  have hargs1 : ∀ (W' : World), Below W.heap.size W W' → DataW.Trod enc Tryz.prog W' 0 (fun b => decide (b < W.heap.size)) true 33 v1 d1 p1 :=
    fun W' hn => Below.trod Tryz.laidOut (by kernel_rfl) (of_decide_eq_true (by kernel_rfl)) h1 hn hlt1
  subst ev1
  refine (lawTWas_any i0_0 i0_1 i0_2 u0_0 u0_1 u0_2 u0_3 u0_4 l0_0 l0_1 l0_2 l0_3 l0_4 k1 a1 b1 u1 l1 W hl0 hl1).mono fun e W' ⟨he, hnx⟩ => ?_
  subst he
  exact ⟨_, rfl, _, _, _, [], p0 ++ (p1), [], hW', trodAll_mk1 (shut_bool Tryz.underlying4 _), trodAll_mk2 (hargs0 _ hnx) (hargs1 _ hnx), rfl, hnx.frame _, fun h => by cases h⟩

theorem tWas_holds : Rows.FnExactToldWasSaid :=
  OpenClaim.holds_of_wide 3 Tryz.f3 rfl rfl rfl rfl rfl rfl rfl ⟨rfl, rfl, rfl, rfl, rfl⟩ rfl rfl rfl rfl rfl (by kernel_rfl) Tryz.func3 (by kernel_rfl)
    (of_decide_eq_true (by kernel_rfl)) (by unfold Func.isWrapper; first | (rw [if_pos (by decide +kernel)]; kernel_rfl) | (rw [if_neg (by decide +kernel)]; exact ⟨rfl, rfl⟩))
    (fun os started H enc _ => tWas_lifted os started H enc)
#print axioms tWas_holds

end Go.Proofs.YtefhpbcdjgllnaaGreat
