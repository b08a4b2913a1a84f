/- == of structs and arrays by value: one just if their cells are. Plain. -/
import Derived.Test.YtefhpbcdjgllnaaGreatGrA
import Derived.ChangeKeysEq
import Derived.Laws.StructEq
namespace Go.Proofs.YtefhpbcdjgllnaaGreat
open Go.RowKit
variable {P : Program}

/-- Two parts of two values are one just if their cells are. -/
def EqP (P : Program) (d : Nat) (e : TypeId) (S : List Value → Prop) : Prop :=
  ∀ (w : World) (xs ys : List Value) (off : Nat), S ((xs.drop off).take (P.cellsOf e)) → S ((ys.drop off).take (P.cellsOf e)) →
    ∃ a b r, (part e xs.toArray off).run P w = .ok a w ∧ (part e ys.toArray off).run P w = .ok b w ∧ (Op.equalIn d e a b).run P w = .ok r w ∧ (r = true ↔ (xs.drop off).take (P.cellsOf e) = (ys.drop off).take (P.cellsOf e))
def EqS (P : Program) (d : Nat) (t : TypeId) (S : List Value → Prop) : Prop :=
  ∀ (w : World) (A B : List Value), S A → S B → ∃ r, (Op.equalIn d t (.agg A.toArray) (.agg B.toArray)).run P w = .ok r w ∧ (r = true ↔ A = B)
def OneInt (l : List Value) : Prop := ∃ n, l = [.int .i64 n]
def OneBool (l : List Value) : Prop := ∃ b, l = [.bool b]
theorem eqP_int {d : Nat} {e : TypeId} (hu : P.underlying e = some (.int .i64)) : EqP P (d + 1) e OneInt := by
  intro w xs ys off hx hy
  obtain ⟨a, ha⟩ := hx
  obtain ⟨b, hb⟩ := hy
  have hp : P.plainKey e = true := by simp [Program.plainKey, hu]
  have ga := getElem?_of_chunk (xs := xs.toArray) (off := off) (by simpa using ha)
  have gb := getElem?_of_chunk (xs := ys.toArray) (off := off) (by simpa using hb)
  refine ⟨_, _, a == b, run_part_plain w hp ga, run_part_plain w hp gb, by simp [Op.equalIn, run_underlying hu], ?_⟩
  rw [ha, hb]
  simp
theorem eqP_bool {d : Nat} {e : TypeId} (hu : P.underlying e = some .bool) : EqP P (d + 1) e OneBool := by
  intro w xs ys off hx hy
  obtain ⟨a, ha⟩ := hx
  obtain ⟨b, hb⟩ := hy
  have hp : P.plainKey e = true := by simp [Program.plainKey, hu]
  have ga := getElem?_of_chunk (xs := xs.toArray) (off := off) (by simpa using ha)
  have gb := getElem?_of_chunk (xs := ys.toArray) (off := off) (by simpa using hb)
  refine ⟨_, _, a == b, run_part_plain w hp ga, run_part_plain w hp gb, by simp [Op.equalIn, run_underlying hu], ?_⟩
  rw [ha, hb]
  simp
theorem extract_list (xs : List Value) (off c : Nat) : xs.toArray.extract off (off + c) = ((xs.drop off).take c).toArray := by
  apply Array.ext'
  rw [Array.toList_extract]
  simp [List.extract]
theorem eqP_of {d : Nat} {t : TypeId} {S : List Value → Prop} {k : TypeDesc} (hu : P.underlying t = some k) (hk : k.isRow = true) (h : EqS P d t S) : EqP P d t S := by
  intro w xs ys off hx hy
  obtain ⟨i, hi⟩ := info_of_underlying hu
  have hp : ∀ zs : List Value, (part t zs.toArray off).run P w = .ok (.agg ((zs.drop off).take (P.cellsOf t)).toArray) w := fun zs => by
    rw [← extract_list]
    cases k <;> simp_all [part, isAgg, run_underlying hu, run_sizeOf w hi]
  obtain ⟨r, hr, hiff⟩ := h w _ _ hx hy
  exact ⟨_, _, r, hp xs, hp ys, hr, hiff⟩
theorem chunks_eq (c : Nat) : ∀ (n : Nat) (A B : List Value), A.length = n * c → B.length = n * c → (∀ i, i < n → (A.drop (i * c)).take c = (B.drop (i * c)).take c) → A = B
  | 0, A, B, ha, hb, _ => by
    rw [Nat.zero_mul] at ha hb
    rw [List.eq_nil_of_length_eq_zero ha, List.eq_nil_of_length_eq_zero hb]
  | n + 1, A, B, ha, hb, h => by
    have h0 := h 0 (by omega)
    rw [Nat.zero_mul, List.drop_zero, List.drop_zero] at h0
    have hr := chunks_eq c n (A.drop c) (B.drop c) (by rw [List.length_drop, ha, Nat.succ_mul]; omega) (by rw [List.length_drop, hb, Nat.succ_mul]; omega) (fun i hi => by
      have := h (i + 1) (by omega)
      rw [List.drop_drop, List.drop_drop]
      rw [Nat.succ_mul, Nat.add_comm (i * c) c] at this
      exact this)
    rw [← List.take_append_drop c A, ← List.take_append_drop c B, h0, hr]
def RowS (c n : Nat) (S : List Value → Prop) (l : List Value) : Prop := l.length = n * c ∧ ∀ i, i < n → S ((l.drop (i * c)).take c)
theorem eqS_array {d n : Nat} {t e : TypeId} {S : List Value → Prop} (hu : P.underlying t = some (.array n e)) {i : TypeInfo} (hi : P.info? e = some i) (h : EqP P d e S) : EqS P (d + 1) t (RowS (P.cellsOf e) n S) := by
  intro w A B hA hB
  rw [run_equalIn_array w d A.toArray B.toArray hu hi]
  have key : ∀ is : List Nat, (∀ j ∈ is, j < n) → ∃ r : Bool, (Op.eqItems d e (P.cellsOf e) A.toArray B.toArray is).run P w = .ok r w ∧ (r = true ↔ ∀ j ∈ is, (A.drop (j * P.cellsOf e)).take (P.cellsOf e) = (B.drop (j * P.cellsOf e)).take (P.cellsOf e)) := by
    intro is
    induction is with
    | nil => intro _; exact ⟨true, by simp [Op.eqItems], by simp⟩
    | cons j is ih =>
      intro hj
      obtain ⟨a, b, r, p1, p2, p3, hiff⟩ := h w A B (j * P.cellsOf e) (hA.2 j (hj j (by simp))) (hB.2 j (hj j (by simp)))
      obtain ⟨r', hr', hiff'⟩ := ih (fun k hk => hj k (by simp [hk]))
      simp only [Op.eqItems, Sem.run_bind, p1, p2, p3, Result.andThen_ok]
      cases r
      · exact ⟨false, by simp, by simp; intro q; exact absurd (hiff.2 q) (by simp)⟩
      · refine ⟨r', by simpa using hr', ?_⟩
        rw [hiff']
        have := hiff.1 rfl
        simp [this]
  obtain ⟨r, hr, hiff⟩ := key (List.range n) (fun j hj => by simpa using hj)
  refine ⟨r, hr, hiff.trans ⟨fun q => chunks_eq (P.cellsOf e) n A B hA.1 hB.1 (fun j hj => q j (by simpa using hj)), fun q j _ => by rw [q]⟩⟩
def offs (P : Program) : Nat → List (TypeId × (List Value → Prop)) → List (Bool × Nat × TypeId)
  | _, [] => []
  | o, x :: r => (true, o, x.1) :: offs P (o + P.cellsOf x.1) r
def Fits (P : Program) (A : List Value) : Nat → List (TypeId × (List Value → Prop)) → Prop
  | o, [] => A.length = o
  | o, x :: r => x.2 ((A.drop o).take (P.cellsOf x.1)) ∧ Fits P A (o + P.cellsOf x.1) r
theorem run_eqF (w : World) (d : Nat) (A B : List Value) : ∀ (fs : List Field) (D : List (TypeId × (List Value → Prop))) (o : Nat), fs.map (fun f => (f.name != "_", f.offset, f.type)) = offs P o D →
    (∀ x ∈ D, EqP P d x.1 x.2) → Fits P A o D → Fits P B o D → ∃ r : Bool, (Op.eqFields d A.toArray B.toArray fs).run P w = .ok r w ∧ (r = true ↔ A.drop o = B.drop o)
  | [], [], o, _, _, ha, hb => ⟨true, by simp [Op.eqFields], by
      unfold Fits at ha hb
      rw [List.drop_of_length_le (by omega), List.drop_of_length_le (by omega)]; simp⟩
  | [], _ :: _, _, h, _, _, _ => by simp [offs] at h
  | _ :: _, [], _, h, _, _, _ => by simp [offs] at h
  | f :: fs, x :: D, o, h, hD, ha, hb => by
    simp only [List.map_cons, offs, List.cons.injEq, Prod.mk.injEq] at h
    obtain ⟨⟨hn, ho, ht⟩, hr⟩ := h
    obtain ⟨ha0, ha1⟩ := ha
    obtain ⟨hb0, hb1⟩ := hb
    obtain ⟨a, b, r, p1, p2, p3, hiff⟩ := hD x (by simp) w A B o ha0 hb0
    obtain ⟨r', hr', hiff'⟩ := run_eqF w d A B fs D (o + P.cellsOf x.1) hr (fun y hy => hD y (by simp [hy])) ha1 hb1
    have hn' : f.name ≠ "_" := by simpa using hn
    subst ho
    rw [← ht] at p1 p2 p3 hiff hiff'
    have split : ∀ Z : List Value, Z.drop f.offset = (Z.drop f.offset).take (P.cellsOf f.type) ++ Z.drop (f.offset + P.cellsOf f.type) := fun Z => by
      rw [← List.drop_drop, List.take_append_drop]
    have hl : ((A.drop f.offset).take (P.cellsOf f.type)).length = ((B.drop f.offset).take (P.cellsOf f.type)).length → (A.drop f.offset = B.drop f.offset ↔ (A.drop f.offset).take (P.cellsOf f.type) = (B.drop f.offset).take (P.cellsOf f.type) ∧ A.drop (f.offset + P.cellsOf f.type) = B.drop (f.offset + P.cellsOf f.type)) := fun q => by
      constructor
      · intro e
        rw [← List.drop_drop, ← List.drop_drop, e]
        exact ⟨rfl, rfl⟩
      · rintro ⟨e1, e2⟩
        rw [split A, split B, e1, e2]
    simp only [Op.eqFields, hn', ne_eq, not_false_eq_true, if_true, Sem.run_bind, p1, p2, p3, Result.andThen_ok]
    cases r
    · refine ⟨false, by simp, ?_⟩
      simp only [Bool.false_eq_true, false_iff]
      intro e
      exact absurd (hiff.2 (by rw [e])) (by simp)
    · refine ⟨r', by simpa using hr', ?_⟩
      have q := hiff.1 rfl
      rw [hiff', hl (by rw [q])]
      exact ⟨fun e => ⟨q, e⟩, fun e => e.2⟩
theorem eqS_struct {d : Nat} {t : TypeId} {D : List (TypeId × (List Value → Prop))} (hu : P.underlying t = some (.struct (P.fieldsOf t))) (hp : P.stoodInHeld t = false)
    (hf : (P.fieldsOf t).toList.map (fun f => (f.name != "_", f.offset, f.type)) = offs P 0 D) (hD : ∀ x ∈ D, EqP P d x.1 x.2) : EqS P (d + 1) t (fun l => Fits P l 0 D) := by
  intro w A B hA hB
  rw [run_equalIn_struct w d t A.toArray B.toArray hu hp]
  obtain ⟨r, hr, hiff⟩ := run_eqF w d A B _ D 0 hf hD hA hB
  exact ⟨r, hr, by simpa using hiff⟩
end Go.Proofs.YtefhpbcdjgllnaaGreat
namespace Go.Proofs.YtefhpbcdjgllnaaGreat
open Go.RowKit

theorem Tryz.shp_int : Tryz.prog.underlying 3 = some (.int .i64) := by kernel_rfl
theorem Tryz.shp_bool : Tryz.prog.underlying 4 = some .bool := by kernel_rfl
theorem Tryz.shp_c3 : Tryz.prog.cellsOf 3 = 1 := by kernel_rfl
theorem Tryz.shp_c4 : Tryz.prog.cellsOf 4 = 1 := by kernel_rfl
theorem info_some {P : Program} {t : TypeId} {d : TypeDesc} (h : P.underlying t = some d) : ∃ i, P.info? t = some i := info_of_underlying h
end Go.Proofs.YtefhpbcdjgllnaaGreat
