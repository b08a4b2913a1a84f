/- Maps whose keys are compared by running: what a block holds, as a function of the key; look-ups and stores. -/
import Derived.Test.YtefhpbcdjgllnaaGreatEs
import Derived.Maps.OwnOps
import Derived.Deep.RegionLaw
namespace Go.Proofs.YtefhpbcdjgllnaaGreat
open Go.RowKit
variable {P : Program}

/-- What a look-up needs of the key's type. -/
structure KeyRun (P : Program) (kt : TypeId) (S : Value → Prop) : Prop where
  check : ∀ (w : World) (em : Bool) (v : Value), S v → (Instr.checkKey em 10000 kt v).run P w = .ok () w
  find : ∀ (w : World) (x : Value), S x → ∀ es : List MapEntry, (∀ e ∈ es, S e.key) →
    ((Instr.findKey kt x es).run P w = .ok none w ∧ ∀ e ∈ es, e.key ≠ x) ∨ ∃ j e, (Instr.findKey kt x es).run P w = .ok (some (j, e.val)) w ∧ es[j]? = some e ∧ e.key = x
  stays : ∀ (w : World) (v : Value), S v → (Instr.keyThatStays v v).run P w = .ok v w

/-- Block b is a map of at most n entries: at the key x it has f x. -/
def MapF (S : Value → Prop) (w : World) (b n : Nat) (f : Value → Option Value) : Prop :=
  ∃ es clock, w.heap[b]? = some (.map es clock) ∧ es.size ≤ n ∧ (∀ e ∈ es.toList, S e.key ∧ f e.key = some e.val) ∧ (∀ x v, f x = some v → ∃ e ∈ es.toList, e.key = x) ∧ es.toList.Pairwise (fun p q => p.key ≠ q.key)
theorem MapF.agree {S : Value → Prop} {w w' : World} {b n : Nat} {f : Value → Option Value} (h : MapF S w b n f) (hs : w'.heap[b]? = w.heap[b]?) : MapF S w' b n f := by
  obtain ⟨es, clock, hb, rest⟩ := h
  exact ⟨es, clock, hs.trans hb, rest⟩
theorem MapF.lt {S : Value → Prop} {w : World} {b n : Nat} {f : Value → Option Value} (h : MapF S w b n f) : b < w.heap.size := by
  obtain ⟨es, clock, hb, _⟩ := h
  exact (Array.getElem?_eq_some_iff.1 hb).1
theorem MapF.later {S : Value → Prop} {w w' : World} {b n : Nat} {f : Value → Option Value} (h : MapF S w b n f) (hb : Below w.heap.size w w') : MapF S w' b n f := h.agree (hb.block b h.lt)
theorem MapF.made (S : Value → Prop) (w : World) : MapF S (w.alloc (.map #[] 0)) w.heap.size 0 (fun _ => none) :=
  ⟨#[], 0, (MapKept.heap_alloc w _).1, Nat.le_refl _, by simp, by simp, by simp⟩
theorem MapF.look {kt t e : TypeId} {S : Value → Prop} {w : World} {b n : Nat} {f : Value → Option Value} (K : KeyRun P kt S) (h : MapF S w b n f) (ht : P.underlying t = some (.map kt e)) {z : Value} (hz : (zeroValue e).run P w = .ok z w)
    {key : Value} (hkey : S key) (c : Bool) : (Instr.lookup t (.map (some b)) key c).run P w = .ok (if c then .tuple #[(f key).getD z, .bool (f key).isSome] else (f key).getD z) w := by
  obtain ⟨es, clock, hb, _, hes, hall, _⟩ := h
  rcases K.find w key hkey es.toList (fun x hx => (hes x hx).1) with ⟨h1, h2⟩ | ⟨j, e0, h1, h2, h3⟩
  · have : f key = none := by
      cases hf : f key with
      | none => rfl
      | some v => obtain ⟨x, hx, hk⟩ := hall key v hf; exact absurd hk (h2 x hx)
    simp [Instr.lookup, run_underlying ht, MapKept.run_getObj_map hb, K.check w _ _ hkey, h1, hz, Result.andThen, this]
  · have h4 := (hes e0 (List.mem_of_getElem? h2)).2
    rw [h3] at h4
    simp [Instr.lookup, run_underlying ht, MapKept.run_getObj_map hb, K.check w _ _ hkey, h1, Result.andThen, h4]
theorem MapF.put {kt t e : TypeId} {S : Value → Prop} {w : World} {b n : Nat} {f f' : Value → Option Value} (K : KeyRun P kt S) (h : MapF S w b n f) (ht : P.underlying t = some (.map kt e)) {key val : Value} (hkey : S key)
    (h1 : f' key = some val) (h2 : ∀ x, x ≠ key → f' x = f x) : ∃ w', (Instr.mapUpdate t (.map (some b)) key val).run P w = .ok () w' ∧ MapF S w' b (n + 1) f' ∧ w.grownBy w' (some b) := by
  obtain ⟨es, clock, hb, hn, hes, hall, hd⟩ := h
  have grown : ∀ o : Obj, w.grownBy { w with heap := w.heap.setIfInBounds b o } (some b) := fun o => ⟨rfl, rfl, rfl, by simp, fun i _ hi => (MapKept.heap_set hb).2 i (fun q => hi (by rw [q]))⟩
  rcases K.find w key hkey es.toList (fun x hx => (hes x hx).1) with ⟨r1, r2⟩ | ⟨j, e0, r1, r2, r3⟩
  · refine ⟨_, by simp [Instr.mapUpdate, run_underlying ht, MapKept.run_getObj_map hb, K.check w false _ hkey, r1, MapKept.run_setObj_map _ hb, Result.andThen], ⟨es.push ⟨key, val, clock⟩, clock + 1, (MapKept.heap_set hb).1, by simp; omega, fun x hx => ?_, fun x v hx => ?_, ?_⟩, grown _⟩
    · rw [Array.toList_push, List.mem_append, List.mem_singleton] at hx
      rcases hx with hx | rfl
      · exact ⟨(hes x hx).1, (h2 _ (r2 x hx)).trans (hes x hx).2⟩
      · exact ⟨hkey, h1⟩
    · by_cases hxk : x = key
      · exact ⟨⟨key, val, clock⟩, by simp, hxk.symm⟩
      · rw [h2 x hxk] at hx
        obtain ⟨y, hy, e1⟩ := hall x v hx
        exact ⟨y, by simp [hy], e1⟩
    · rw [Array.toList_push, List.pairwise_append]
      exact ⟨hd, by simp, fun x hx y hy => by rw [List.mem_singleton] at hy; subst hy; exact r2 x hx⟩
  · have hj : es[j]? = some e0 := by simpa using r2
    have hlist : (es.modify j (fun e' => { e' with key := key, val := val })).toList = es.toList.set j { e0 with key := key, val := val } := by rw [Array.toList_modify, ChangeMaps.modify_eq_set _ _ _ _ r2]
    have hjl : j < es.toList.length := (List.getElem?_eq_some_iff.1 r2).1
    have hother : ∀ i (hi : i < es.toList.length), i ≠ j → es.toList[i].key ≠ key := fun i hi hne q => by
      have e1 : es.toList[j] = e0 := (List.getElem?_eq_some_iff.1 r2).2
      rcases Nat.lt_or_gt_of_ne hne with h | h
      · exact (List.pairwise_iff_getElem.1 hd) i j hi hjl h (by rw [q, e1, r3])
      · exact (List.pairwise_iff_getElem.1 hd) j i hjl hi h (by rw [q, e1, r3])
    refine ⟨_, by simp [Instr.mapUpdate, run_underlying ht, MapKept.run_getObj_map hb, K.check w false _ hkey, r1, hj, r3, K.stays w _ hkey, MapKept.run_setObj_map _ hb, Result.andThen], ⟨es.modify j (fun e' => { e' with key := key, val := val }), clock, (MapKept.heap_set hb).1, by simp; omega, fun x hx => ?_, fun x v hx => ?_, ?_⟩, grown _⟩
    · rw [hlist] at hx
      obtain ⟨i, hi, ex⟩ := List.getElem_of_mem hx
      rw [List.getElem_set] at ex
      split at ex
      · subst ex
        exact ⟨hkey, h1⟩
      · rename_i hne
        have hi' : i < es.toList.length := by simpa using hi
        subst ex
        have hk := hother i hi' (fun q => hne q.symm)
        exact ⟨(hes _ (List.getElem_mem hi')).1, (h2 _ hk).trans (hes _ (List.getElem_mem hi')).2⟩
    · by_cases hxk : x = key
      · exact ⟨{ e0 with key := key, val := val }, by rw [hlist]; exact List.mem_iff_getElem.2 ⟨j, by simpa using hjl, by simp⟩, hxk.symm⟩
      · rw [h2 x hxk] at hx
        obtain ⟨y, hy, e1⟩ := hall x v hx
        obtain ⟨i, hi, ey⟩ := List.getElem_of_mem hy
        have hij : ¬ j = i := fun q => hxk (by rw [← e1, ← ey]; subst q; rw [(List.getElem?_eq_some_iff.1 r2).2, r3])
        exact ⟨y, by rw [hlist]; exact List.mem_iff_getElem.2 ⟨i, by simpa using hi, by rw [List.getElem_set_ne hij]; exact ey⟩, e1⟩
    · rw [hlist]
      refine List.pairwise_iff_getElem.2 fun a c ha hc hac => ?_
      have ha' : a < es.toList.length := by simpa using ha
      have hc' : c < es.toList.length := by simpa using hc
      rw [List.getElem_set, List.getElem_set]
      split
      · rename_i q
        subst q
        rw [if_neg (by omega)]
        exact fun q => hother c hc' (by omega) q.symm
      · split
        · exact hother a ha' (by omega)
        · exact (List.pairwise_iff_getElem.1 hd) a c ha' hc' hac

/-! ### At the operation -/
theorem wpList_look {P : Program} {w : World} {ops : Array Oper} {rest : List Oper} {o : Oper} {a : Act} {Q : Exit → Act → World → Prop} (hg : o.guard = none) (m x : Operand) (t : TypeId) (hop : o.op = Op.lookup t m x false)
    (kt e : TypeId) (S : Value → Prop) (K : KeyRun P kt S) (ht : P.underlying t = some (.map kt e)) (z : Value) (hz : (zeroValue e).run P w = .ok z w) (b n : Nat) (f : Value → Option Value)
    (hm : a.eval m = .map (some b)) (h : MapF S w b n f) (key : Value) (hx : a.eval x = key) (hkey : S key) (hK : wpList P ops Q rest (a.put o.dst ((f key).getD z)) w) : wpList P ops Q (o :: rest) a w := by
  refine wpList_plain hg fun K' hK' => ?_
  have hrun := h.look K ht hz hkey false
  unfold Oper.wp
  simp [execOp, hop, hm, hx, hrun, Result.andThen]
  exact hK' _ _ hK
theorem wpList_put {P : Program} {w : World} {ops : Array Oper} {rest : List Oper} {o : Oper} {a : Act} {Q : Exit → Act → World → Prop} (hg : o.guard = none) (m x v : Operand) (t : TypeId) (hop : o.op = Op.mapUpdate t m x v)
    (kt e : TypeId) (S : Value → Prop) (K : KeyRun P kt S) (ht : P.underlying t = some (.map kt e)) (b n : Nat) (f f' : Value → Option Value)
    (hm : a.eval m = .map (some b)) (h : MapF S w b n f) (key val : Value) (hx : a.eval x = key) (hv : a.eval v = val) (hkey : S key) (h1 : f' key = some val) (h2 : ∀ y, y ≠ key → f' y = f y)
    (hK : ∀ w', MapF S w' b (n + 1) f' → w.grownBy w' (some b) → wpList P ops Q rest (a.put o.dst undef) w') : wpList P ops Q (o :: rest) a w := by
  refine wpList_plain hg fun K' hK' => ?_
  obtain ⟨w', hrun, r1, r2⟩ := h.put K ht hkey h1 h2
  unfold Oper.wp
  simp [execOp, hop, hm, hx, hv, hrun, Result.andThen]
  exact hK' _ _ (hK w' r1 r2)

theorem step_put {P : Program} {w : World} {ops : Array Oper} {o : Oper} {a : Act} {K : Act → World → Prop} {Q : Exit → Act → World → Prop} {E : Prop} (hgd : o.guard = none) (m x v : Operand) (t : TypeId) (hop : o.op = Op.mapUpdate t m x v)
    (kt e : TypeId) (S : Value → Prop) (KR : KeyRun P kt S) (ht : P.underlying t = some (.map kt e)) (b n : Nat) (f f' : Value → Option Value)
    (hm : a.eval m = .map (some b)) (h : MapF S w b n f) (key val : Value) (hx : a.eval x = key) (hv : a.eval v = val) (hkey : S key) (h1 : f' key = some val) (h2 : ∀ y, y ≠ key → f' y = f y)
    (hK : ∀ w', MapF S w' b (n + 1) f' → w.grownBy w' (some b) → K (a.put o.dst undef) w') : if Region.wanted o (yielded ops a.tmps) = true then Oper.wp P o a w K Q else E := by
  have hw : Region.wanted o (yielded ops a.tmps) = true := by simp [Region.wanted, hgd]
  rw [if_pos hw]
  obtain ⟨w', hrun, r1, r2⟩ := h.put KR ht hkey h1 h2
  unfold Oper.wp
  simp [execOp, hop, hm, hx, hv, hrun, Result.andThen]
  exact hK w' r1 r2

/-! ### Keys that are structs of numbers -/
/-- A struct key whose == is told by its cells. -/
theorem find_asking {kt : TypeId} {S : Value → Prop} (heq : ∀ (w : World) (x y : Value), S x → S y → ∃ r : Bool, (Op.equal kt x y).run P w = .ok r w ∧ (r = true ↔ x = y)) (w : World) (x : Value) (hx : S x) :
    ∀ (es : List MapEntry) (i : Nat), (∀ e ∈ es, S e.key) → ((Instr.findAsking kt x es i).run P w = .ok none w ∧ ∀ e ∈ es, e.key ≠ x) ∨ ∃ j e, (Instr.findAsking kt x es i).run P w = .ok (some (i + j, e.val)) w ∧ es[j]? = some e ∧ e.key = x
  | [], i, _ => Or.inl ⟨by simp [Instr.findAsking], by simp⟩
  | e :: es, i, hes => by
    obtain ⟨r, hr, hiff⟩ := heq w x e.key hx (hes e (by simp))
    cases r with
    | true => exact Or.inr ⟨0, e, by simp [Instr.findAsking, hr, Result.andThen], rfl, (hiff.1 rfl).symm⟩
    | false =>
      have hne : e.key ≠ x := fun q => by have := hiff.2 q.symm; cases this
      rcases find_asking heq w x hx es (i + 1) (fun y hy => hes y (by simp [hy])) with ⟨h1, h2⟩ | ⟨j, y, h1, h2, h3⟩
      · refine Or.inl ⟨by simp [Instr.findAsking, hr, Result.andThen, h1], fun y hy => ?_⟩
        rcases List.mem_cons.1 hy with rfl | hy
        · exact hne
        · exact h2 y hy
      · exact Or.inr ⟨j + 1, y, by simp [Instr.findAsking, hr, Result.andThen, h1]; omega, by simpa using h2, h3⟩
theorem find_struct {kt : TypeId} {fs : Array Field} (hu : P.underlying kt = some (.struct fs)) {S : Value → Prop} (hS : ∀ v, S v → ∃ cs, v = .agg cs) (heq : ∀ (w : World) (x y : Value), S x → S y → ∃ r : Bool, (Op.equal kt x y).run P w = .ok r w ∧ (r = true ↔ x = y)) (w : World) (x : Value) (hx : S x)
    (es : List MapEntry) (hes : ∀ e ∈ es, S e.key) : ((Instr.findKey kt x es).run P w = .ok none w ∧ ∀ e ∈ es, e.key ≠ x) ∨ ∃ j e, (Instr.findKey kt x es).run P w = .ok (some (j, e.val)) w ∧ es[j]? = some e ∧ e.key = x := by
  obtain ⟨cs, rfl⟩ := hS x hx
  cases es with
  | nil => exact Or.inl ⟨by simp [Instr.findKey, Instr.findNow, run_underlying hu, Result.andThen], by simp⟩
  | cons e es =>
    have hk : (Instr.findKey kt (.agg cs) (e :: es)).run P w = (Instr.findAsking kt (.agg cs) (e :: es) 0).run P w := by
      simp [Instr.findKey, Instr.findNow, Instr.sameNow, run_underlying hu, Result.andThen]
    rw [hk]
    simpa using find_asking heq w (.agg cs) hx (e :: es) 0 hes
end Go.Proofs.YtefhpbcdjgllnaaGreat
