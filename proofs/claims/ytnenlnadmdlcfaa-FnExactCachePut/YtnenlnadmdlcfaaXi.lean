/- == of two shelves by value: one just if their cells are. Items that are put anew on their floors come to the same just if the cache is ok. Plain. -/
import Derived.Test.YtnenlnadmdlcfaaXf
import Derived.ChangeKeysEq
import Derived.Laws.StructEq
namespace Go.Proofs.Ytnenlnadmdlcfaa
open Go.RowKit
variable {P : Program}

/-- Two parts of two values are one just if their cells are. -/
def EqP (P : Program) (d : Nat) (e : TypeId) (S : List Value → Prop) : Prop :=
  ∀ (w : World) (xs ys : List Value) (off : Nat), S ((xs.drop off).take (P.cellsOf e)) → S ((ys.drop off).take (P.cellsOf e)) →
    ∃ a b r, (part e xs.toArray off).run P w = .ok a w ∧ (part e ys.toArray off).run P w = .ok b w ∧ (Op.equalIn d e a b).run P w = .ok r w ∧ (r = true ↔ (xs.drop off).take (P.cellsOf e) = (ys.drop off).take (P.cellsOf e))
def EqS (P : Program) (d : Nat) (t : TypeId) (S : List Value → Prop) : Prop :=
  ∀ (w : World) (A B : List Value), S A → S B → ∃ r, (Op.equalIn d t (.agg A.toArray) (.agg B.toArray)).run P w = .ok r w ∧ (r = true ↔ A = B)
def OneInt (l : List Value) : Prop := ∃ n, l = [.int .i64 n]
def OneBool (l : List Value) : Prop := ∃ b, l = [.bool b]
theorem eqP_int {d : Nat} {e : TypeId} (hu : P.underlying e = some (.int .i64)) : EqP P (d + 1) e OneInt := by
  intro w xs ys off hx hy
  obtain ⟨a, ha⟩ := hx
  obtain ⟨b, hb⟩ := hy
  have hp : P.plainKey e = true := by simp [Program.plainKey, hu]
  have ga := getElem?_of_chunk (xs := xs.toArray) (off := off) (by simpa using ha)
  have gb := getElem?_of_chunk (xs := ys.toArray) (off := off) (by simpa using hb)
  refine ⟨_, _, a == b, run_part_plain w hp ga, run_part_plain w hp gb, by simp [Op.equalIn, run_underlying hu], ?_⟩
  rw [ha, hb]
  simp
theorem eqP_bool {d : Nat} {e : TypeId} (hu : P.underlying e = some .bool) : EqP P (d + 1) e OneBool := by
  intro w xs ys off hx hy
  obtain ⟨a, ha⟩ := hx
  obtain ⟨b, hb⟩ := hy
  have hp : P.plainKey e = true := by simp [Program.plainKey, hu]
  have ga := getElem?_of_chunk (xs := xs.toArray) (off := off) (by simpa using ha)
  have gb := getElem?_of_chunk (xs := ys.toArray) (off := off) (by simpa using hb)
  refine ⟨_, _, a == b, run_part_plain w hp ga, run_part_plain w hp gb, by simp [Op.equalIn, run_underlying hu], ?_⟩
  rw [ha, hb]
  simp
theorem extract_list (xs : List Value) (off c : Nat) : xs.toArray.extract off (off + c) = ((xs.drop off).take c).toArray := by
  apply Array.ext'
  rw [Array.toList_extract]
  simp [List.extract]
theorem eqP_of {d : Nat} {t : TypeId} {S : List Value → Prop} {k : TypeDesc} (hu : P.underlying t = some k) (hk : k.isRow = true) (h : EqS P d t S) : EqP P d t S := by
  intro w xs ys off hx hy
  obtain ⟨i, hi⟩ := info_of_underlying hu
  have hp : ∀ zs : List Value, (part t zs.toArray off).run P w = .ok (.agg ((zs.drop off).take (P.cellsOf t)).toArray) w := fun zs => by
    rw [← extract_list]
    cases k <;> simp_all [part, isAgg, run_underlying hu, run_sizeOf w hi]
  obtain ⟨r, hr, hiff⟩ := h w _ _ hx hy
  exact ⟨_, _, r, hp xs, hp ys, hr, hiff⟩
theorem chunks_eq (c : Nat) : ∀ (n : Nat) (A B : List Value), A.length = n * c → B.length = n * c → (∀ i, i < n → (A.drop (i * c)).take c = (B.drop (i * c)).take c) → A = B
  | 0, A, B, ha, hb, _ => by
    rw [Nat.zero_mul] at ha hb
    rw [List.eq_nil_of_length_eq_zero ha, List.eq_nil_of_length_eq_zero hb]
  | n + 1, A, B, ha, hb, h => by
    have h0 := h 0 (by omega)
    rw [Nat.zero_mul, List.drop_zero, List.drop_zero] at h0
    have hr := chunks_eq c n (A.drop c) (B.drop c) (by rw [List.length_drop, ha, Nat.succ_mul]; omega) (by rw [List.length_drop, hb, Nat.succ_mul]; omega) (fun i hi => by
      have := h (i + 1) (by omega)
      rw [List.drop_drop, List.drop_drop]
      rw [Nat.succ_mul, Nat.add_comm (i * c) c] at this
      exact this)
    rw [← List.take_append_drop c A, ← List.take_append_drop c B, h0, hr]
def RowS (c n : Nat) (S : List Value → Prop) (l : List Value) : Prop := l.length = n * c ∧ ∀ i, i < n → S ((l.drop (i * c)).take c)
theorem eqS_array {d n : Nat} {t e : TypeId} {S : List Value → Prop} (hu : P.underlying t = some (.array n e)) {i : TypeInfo} (hi : P.info? e = some i) (h : EqP P d e S) : EqS P (d + 1) t (RowS (P.cellsOf e) n S) := by
  intro w A B hA hB
  rw [run_equalIn_array w d A.toArray B.toArray hu hi]
  have key : ∀ is : List Nat, (∀ j ∈ is, j < n) → ∃ r : Bool, (Op.eqItems d e (P.cellsOf e) A.toArray B.toArray is).run P w = .ok r w ∧ (r = true ↔ ∀ j ∈ is, (A.drop (j * P.cellsOf e)).take (P.cellsOf e) = (B.drop (j * P.cellsOf e)).take (P.cellsOf e)) := by
    intro is
    induction is with
    | nil => intro _; exact ⟨true, by simp [Op.eqItems], by simp⟩
    | cons j is ih =>
      intro hj
      obtain ⟨a, b, r, p1, p2, p3, hiff⟩ := h w A B (j * P.cellsOf e) (hA.2 j (hj j (by simp))) (hB.2 j (hj j (by simp)))
      obtain ⟨r', hr', hiff'⟩ := ih (fun k hk => hj k (by simp [hk]))
      simp only [Op.eqItems, Sem.run_bind, p1, p2, p3, Result.andThen_ok]
      cases r
      · exact ⟨false, by simp, by simp; intro q; exact absurd (hiff.2 q) (by simp)⟩
      · refine ⟨r', by simpa using hr', ?_⟩
        rw [hiff']
        have := hiff.1 rfl
        simp [this]
  obtain ⟨r, hr, hiff⟩ := key (List.range n) (fun j hj => by simpa using hj)
  refine ⟨r, hr, hiff.trans ⟨fun q => chunks_eq (P.cellsOf e) n A B hA.1 hB.1 (fun j hj => q j (by simpa using hj)), fun q j _ => by rw [q]⟩⟩
def offs (P : Program) : Nat → List (TypeId × (List Value → Prop)) → List (Bool × Nat × TypeId)
  | _, [] => []
  | o, x :: r => (true, o, x.1) :: offs P (o + P.cellsOf x.1) r
def Fits (P : Program) (A : List Value) : Nat → List (TypeId × (List Value → Prop)) → Prop
  | o, [] => A.length = o
  | o, x :: r => x.2 ((A.drop o).take (P.cellsOf x.1)) ∧ Fits P A (o + P.cellsOf x.1) r
theorem run_eqF (w : World) (d : Nat) (A B : List Value) : ∀ (fs : List Field) (D : List (TypeId × (List Value → Prop))) (o : Nat), fs.map (fun f => (f.name != "_", f.offset, f.type)) = offs P o D →
    (∀ x ∈ D, EqP P d x.1 x.2) → Fits P A o D → Fits P B o D → ∃ r : Bool, (Op.eqFields d A.toArray B.toArray fs).run P w = .ok r w ∧ (r = true ↔ A.drop o = B.drop o)
  | [], [], o, _, _, ha, hb => ⟨true, by simp [Op.eqFields], by
      unfold Fits at ha hb
      rw [List.drop_of_length_le (by omega), List.drop_of_length_le (by omega)]; simp⟩
  | [], _ :: _, _, h, _, _, _ => by simp [offs] at h
  | _ :: _, [], _, h, _, _, _ => by simp [offs] at h
  | f :: fs, x :: D, o, h, hD, ha, hb => by
    simp only [List.map_cons, offs, List.cons.injEq, Prod.mk.injEq] at h
    obtain ⟨⟨hn, ho, ht⟩, hr⟩ := h
    obtain ⟨ha0, ha1⟩ := ha
    obtain ⟨hb0, hb1⟩ := hb
    obtain ⟨a, b, r, p1, p2, p3, hiff⟩ := hD x (by simp) w A B o ha0 hb0
    obtain ⟨r', hr', hiff'⟩ := run_eqF w d A B fs D (o + P.cellsOf x.1) hr (fun y hy => hD y (by simp [hy])) ha1 hb1
    have hn' : f.name ≠ "_" := by simpa using hn
    subst ho
    rw [← ht] at p1 p2 p3 hiff hiff'
    have split : ∀ Z : List Value, Z.drop f.offset = (Z.drop f.offset).take (P.cellsOf f.type) ++ Z.drop (f.offset + P.cellsOf f.type) := fun Z => by
      rw [← List.drop_drop, List.take_append_drop]
    have hl : ((A.drop f.offset).take (P.cellsOf f.type)).length = ((B.drop f.offset).take (P.cellsOf f.type)).length → (A.drop f.offset = B.drop f.offset ↔ (A.drop f.offset).take (P.cellsOf f.type) = (B.drop f.offset).take (P.cellsOf f.type) ∧ A.drop (f.offset + P.cellsOf f.type) = B.drop (f.offset + P.cellsOf f.type)) := fun q => by
      constructor
      · intro e
        rw [← List.drop_drop, ← List.drop_drop, e]
        exact ⟨rfl, rfl⟩
      · rintro ⟨e1, e2⟩
        rw [split A, split B, e1, e2]
    simp only [Op.eqFields, hn', ne_eq, not_false_eq_true, if_true, Sem.run_bind, p1, p2, p3, Result.andThen_ok]
    cases r
    · refine ⟨false, by simp, ?_⟩
      simp only [Bool.false_eq_true, false_iff]
      intro e
      exact absurd (hiff.2 (by rw [e])) (by simp)
    · refine ⟨r', by simpa using hr', ?_⟩
      have q := hiff.1 rfl
      rw [hiff', hl (by rw [q])]
      exact ⟨fun e => ⟨q, e⟩, fun e => e.2⟩
theorem eqS_struct {d : Nat} {t : TypeId} {D : List (TypeId × (List Value → Prop))} (hu : P.underlying t = some (.struct (P.fieldsOf t))) (hp : P.stoodInHeld t = false)
    (hf : (P.fieldsOf t).toList.map (fun f => (f.name != "_", f.offset, f.type)) = offs P 0 D) (hD : ∀ x ∈ D, EqP P d x.1 x.2) : EqS P (d + 1) t (fun l => Fits P l 0 D) := by
  intro w A B hA hB
  rw [run_equalIn_struct w d t A.toArray B.toArray hu hp]
  obtain ⟨r, hr, hiff⟩ := run_eqF w d A B _ D 0 hf hD hA hB
  exact ⟨r, hr, by simpa using hiff⟩
end Go.Proofs.Ytnenlnadmdlcfaa
namespace Go.Proofs.Ytnenlnadmdlcfaa
open Go.RowKit

theorem Try.shp_int : Try.prog.underlying 3 = some (.int .i64) := by kernel_rfl
theorem Try.shp_bool : Try.prog.underlying 4 = some .bool := by kernel_rfl
theorem Try.shp_c3 : Try.prog.cellsOf 3 = 1 := by kernel_rfl
theorem Try.shp_c4 : Try.prog.cellsOf 4 = 1 := by kernel_rfl
theorem Try.shp_ce : Try.prog.cellsOf 62 = 2 := by kernel_rfl
theorem Try.shp_c8 : Try.prog.cellsOf 63 = 16 := by kernel_rfl
theorem Try.shp_cs : Try.prog.cellsOf 65 = 21 := by kernel_rfl
theorem Try.shp_c4s : Try.prog.cellsOf 66 = 84 := by kernel_rfl
theorem Try.shp_cf : Try.prog.cellsOf 67 = 24 := by kernel_rfl
theorem info_some {P : Program} {t : TypeId} {d : TypeDesc} (h : P.underlying t = some d) : ∃ i, P.info? t = some i := info_of_underlying h
def DE : List (TypeId × (List Value → Prop)) := [(3, OneInt), (3, OneInt)]
theorem eqEdge_s (d : Nat) : EqS Try.prog (d + 2) 62 (fun l => Fits Try.prog l 0 DE) :=
  eqS_struct (by kernel_rfl) (by kernel_rfl) (D := DE) (by kernel_rfl) (by
    intro x hx
    simp only [DE, List.mem_cons, List.not_mem_nil, or_false] at hx
    rcases hx with rfl | rfl <;> exact eqP_int Try.shp_int)
def SK : List Value → Prop := RowS (Try.prog.cellsOf 62) 8 (fun l => Fits Try.prog l 0 DE)
theorem eqKin_s (d : Nat) : EqS Try.prog (d + 3) 63 SK := by
  obtain ⟨i, hi⟩ := info_some (P := Try.prog) (t := 62) Try.underlying62
  exact eqS_array (by kernel_rfl) hi (eqP_of Try.underlying62 rfl (eqEdge_s d))
def DS : List (TypeId × (List Value → Prop)) := [(4, OneBool), (3, OneInt), (3, OneInt), (3, OneInt), (63, SK), (3, OneInt)]
theorem eqSpot_s (d : Nat) : EqS Try.prog (d + 4) 65 (fun l => Fits Try.prog l 0 DS) :=
  eqS_struct (by kernel_rfl) (by kernel_rfl) (D := DS) (by kernel_rfl) (by
    intro x hx
    simp only [DS, List.mem_cons, List.not_mem_nil, or_false] at hx
    rcases hx with rfl | rfl | rfl | rfl | rfl | rfl
    · exact eqP_bool Try.shp_bool
    · exact eqP_int Try.shp_int
    · exact eqP_int Try.shp_int
    · exact eqP_int Try.shp_int
    · exact eqP_of (k := .array 8 62) (by kernel_rfl) rfl (eqKin_s d)
    · exact eqP_int Try.shp_int)
def SP : List Value → Prop := RowS (Try.prog.cellsOf 65) 4 (fun l => Fits Try.prog l 0 DS)
theorem eqSpots_s (d : Nat) : EqS Try.prog (d + 5) 66 SP := by
  obtain ⟨i, hi⟩ := info_some (P := Try.prog) (t := 65) Try.underlying65
  exact eqS_array (by kernel_rfl) hi (eqP_of Try.underlying65 rfl (eqSpot_s d))
def SF : List Value → Prop := RowS (Try.prog.cellsOf 3) 24 OneInt
theorem eqFlo_s (d : Nat) : EqS Try.prog (d + 5) 67 SF := by
  obtain ⟨i, hi⟩ := info_some Try.shp_int
  exact eqS_array (d := d + 4) (by kernel_rfl) hi (eqP_int Try.shp_int)
def DH : List (TypeId × (List Value → Prop)) := [(66, SP), (67, SF)]
theorem eqShelf_s (d : Nat) : EqS Try.prog (d + 6) 69 (fun l => Fits Try.prog l 0 DH) :=
  eqS_struct (by kernel_rfl) (by kernel_rfl) (D := DH) (by kernel_rfl) (by
    intro x hx
    simp only [DH, List.mem_cons, List.not_mem_nil, or_false] at hx
    rcases hx with rfl | rfl
    · exact eqP_of (k := .array 4 65) (by kernel_rfl) rfl (eqSpots_s d)
    · exact eqP_of (k := .array 24 3) (by kernel_rfl) rfl (eqFlo_s d))

/-! ### The cells of a shelf are such -/
theorem fits_edge (a b : Int) : Fits Try.prog [.int .i64 a, .int .i64 b] 0 DE := by
  simp only [DE, Fits, Try.shp_c3]
  exact ⟨⟨a, rfl⟩, ⟨b, rfl⟩, rfl⟩
theorem fits_kin (l : List (Int × Int)) : SK ((spotC true 0 0 0 l).drop 4 |>.take 16) := by
  refine ⟨by rw [Try.shp_ce]; rfl, ?_⟩
  intro i hi
  rw [Try.shp_ce]
  obtain rfl | rfl | rfl | rfl | rfl | rfl | rfl | rfl : i = 0 ∨ i = 1 ∨ i = 2 ∨ i = 3 ∨ i = 4 ∨ i = 5 ∨ i = 6 ∨ i = 7 := by omega
  all_goals exact fits_edge _ _
theorem fits_spot (f : Bool) (k v n : Int) (l : List (Int × Int)) : Fits Try.prog (spotC f k v n l) 0 DS := by
  simp only [DS, Fits, Try.shp_c3, Try.shp_c4, Try.shp_c8]
  exact ⟨⟨f, rfl⟩, ⟨k, rfl⟩, ⟨v, rfl⟩, ⟨n, rfl⟩, fits_kin l, ⟨_, rfl⟩, rfl⟩
theorem fits_cells (x : Option KD) : Fits Try.prog (cellsP x) 0 DS := by
  cases x with
  | none => exact fits_spot _ _ _ _ _
  | some x => exact fits_spot _ _ _ _ _
theorem fits_spots {X : List (Option KD)} (h : X.length = 4) : SP (spotsC X) := by
  refine ⟨by rw [Try.shp_cs, spotsC_length, h], ?_⟩
  intro i hi
  rw [Try.shp_cs, Nat.mul_comm, spotsC_drop]
  have hx : i < X.length := by omega
  rw [List.drop_eq_getElem_cons hx, spotsC_cons, List.take_left' (cellsP_length _)]
  exact fits_cells _
theorem fits_flo {F : List KD} (h : F.length = 24) : SF (floC F) := by
  refine ⟨by rw [Try.shp_c3, floC_length, h], ?_⟩
  intro i hi
  rw [Try.shp_c3, Nat.mul_one]
  have hx : i < (floC F).length := by rw [floC_length]; omega
  rw [List.drop_eq_getElem_cons hx]
  refine ⟨flr F i, ?_⟩
  have := floC_get (F := F) (i := i) (by omega)
  rw [List.getElem?_eq_getElem hx] at this
  simp only [Option.some.injEq] at this
  simp [this]
theorem fits_shelf {X : List (Option KD)} {F : List KD} (hx : X.length = 4) (hf : F.length = 24) : Fits Try.prog (spotsC X ++ floC F) 0 DH := by
  have l1 : (spotsC X).length = 84 := by rw [spotsC_length, hx]
  have l2 : (floC F).length = 24 := by rw [floC_length, hf]
  simp only [DH, Fits, Try.shp_c4s, Try.shp_cf]
  refine ⟨?_, ?_, by rw [List.length_append, l1, l2]⟩
  · rw [List.drop_zero, List.take_left' l1]
    exact fits_spots hx
  · rw [Nat.zero_add, List.drop_left' l1, List.take_of_length_le (by omega)]
    exact fits_flo hf
/-- == of two shelves (a name that the walk does not take apart). -/
def binQ (x y : Value) : Sem Value := binOp .eql 69 x y
theorem binQ_open (x y : Value) : binOp .eql 69 x y = binQ x y := rfl
theorem binQ_run {X Y : List (Option KD)} {F G : List KD} (hx : X.length = 4) (hy : Y.length = 4) (hf : F.length = 24) (hg : G.length = 24) :
    ∃ r, (∀ W, (binQ (.agg (spotsC X ++ floC F).toArray) (.agg (spotsC Y ++ floC G).toArray)).run Try.prog W = .ok (.bool r) W) ∧ (r = true ↔ spotsC X = spotsC Y ∧ floC F = floC G) := by
  have key : ∀ W, ∃ r, (binQ (.agg (spotsC X ++ floC F).toArray) (.agg (spotsC Y ++ floC G).toArray)).run Try.prog W = .ok (.bool r) W ∧ (r = true ↔ spotsC X = spotsC Y ∧ floC F = floC G) := fun W => by
    obtain ⟨r, hr, hiff⟩ := eqShelf_s 9994 W _ _ (fits_shelf hx hf) (fits_shelf hy hg)
    refine ⟨r, ?_, hiff.trans ⟨fun e => List.append_inj e (by rw [spotsC_length, spotsC_length, hx, hy]), fun e => by rw [e.1, e.2]⟩⟩
    rw [binQ, run_eql_struct, hr]
    rfl
  by_cases h : spotsC X = spotsC Y ∧ floC F = floC G
  · exact ⟨true, fun W => by obtain ⟨r, hr, hi⟩ := key W; rw [hr, hi.2 h], by simp [h]⟩
  · exact ⟨false, fun W => by
      obtain ⟨r, hr, hi⟩ := key W
      cases r with
      | false => exact hr
      | true => exact absurd (hi.1 rfl) h, by simp [h]⟩
end Go.Proofs.Ytnenlnadmdlcfaa
namespace Go.Proofs.Ytnenlnadmdlcfaa
open Go.RowKit

/-- Items in spots. -/
def itemsX (L : List KD) : List (Option KD) := (L.map some ++ List.replicate 4 none).take 4
theorem itemsX_length (L : List KD) : (itemsX L).length = 4 := by simp [itemsX]
def numK (x : KD) : Int := x.1.getD 2 0
theorem kd3 {x : KD} (h : x.1.length = 3) : ([keyK x, verK x, numK x], x.2) = x := by
  obtain ⟨a, l⟩ := x
  match a, h with
  | [p, q, r], _ => rfl
theorem itemsX_cons {x : KD} {L : List KD} (h : L.length ≤ 3) : itemsX (x :: L) = some x :: (itemsX L).take 3 := by
  match L, h with
  | [], _ => rfl
  | [a], _ => rfl
  | [a, b], _ => rfl
  | [a, b, c], _ => rfl
def stepS (S : List (Option KD) × List KD) (x : KD) : List (Option KD) × List KD :=
  if putB S.2 (keyK x) (verK x) (numK x) x.2 then (putX S.1 (keyK x) (verK x) (numK x) x.2, putF S.2 (keyK x) (verK x)) else S
def anewS (F L : List KD) : List (Option KD) × List KD := L.foldr (fun x S => stepS S x) (List.replicate 4 none, F)
theorem anewS_cons (F L : List KD) (x : KD) : anewS F (x :: L) = stepS (anewS F L) x := rfl
/-- How many items there are. -/
def cntX (X : List (Option KD)) : Nat := X.countP Option.isSome
theorem dropX_cnt (k : Int) (X : List (Option KD)) : cntX (dropX k X) ≤ cntX X := by
  unfold dropX cntX
  split
  · rw [List.countP_append]
    have := (List.eraseP_sublist (p := hasK k) (l := X)).countP_le (p := Option.isSome)
    simp only [List.countP_singleton]
    simpa using this
  · exact Nat.le_refl _
theorem dropX_cnt_lt {k : Int} {X : List (Option KD)} (h : X.any (hasK k) = true) : cntX (dropX k X) < cntX X := by
  unfold dropX cntX
  rw [if_pos h]
  rw [List.any_eq_true] at h
  obtain ⟨x, hx, hp⟩ := h
  obtain ⟨a, l1, l2, _, ha, e1, e2⟩ := List.exists_of_eraseP hx hp
  have hs : a.isSome = true := by cases a with
    | none => cases ha
    | some _ => rfl
  rw [e2]
  conv => rhs; rw [e1]
  simp only [List.countP_append, List.countP_cons, hs, List.countP_nil]
  simp
theorem putX_cnt (X : List (Option KD)) (k v n : Int) (l : List (Int × Int)) : cntX (putX X k v n l) ≤ cntX (dropX k X) + 1 := by
  unfold putX cntX
  rw [List.countP_cons]
  have := (List.take_sublist 3 (dropX k X)).countP_le (p := Option.isSome)
  simp only [Option.isSome_some, if_true]
  omega
theorem itemsX_cnt {L : List KD} (h : L.length ≤ 4) : cntX (itemsX L) = L.length := by
  match L, h with
  | [], _ => rfl
  | [a], _ => rfl
  | [a, b], _ => rfl
  | [a, b, c], _ => rfl
  | [a, b, c, d], _ => rfl
theorem spotsC_some : ∀ (X Y : List (Option KD)), X.length = Y.length → spotsC X = spotsC Y → cntX X = cntX Y
  | [], [], _, _ => rfl
  | [], _ :: _, h, _ => by simp at h
  | _ :: _, [], h, _ => by simp at h
  | x :: X, y :: Y, h, e => by
    rw [spotsC_cons, spotsC_cons] at e
    obtain ⟨e1, e2⟩ := List.append_inj e (by rw [cellsP_length, cellsP_length])
    have ih := spotsC_some X Y (by simpa using h) e2
    have hx : x.isSome = y.isSome := by
      cases x <;> cases y <;> simp_all [cellsP, spotC]
    unfold cntX at ih ⊢
    rw [List.countP_cons, List.countP_cons, ih, hx]
theorem floC_iff {F G : List KD} (hf : F.length = 24) (hg : G.length = 24) : floC F = floC G ↔ ∀ i, i < 24 → flr F i = flr G i := by
  constructor
  · intro e i hi
    have a := floC_get (F := F) (i := i) (by omega)
    have b := floC_get (F := G) (i := i) (by omega)
    rw [e] at a
    rw [a] at b
    simpa using b
  · intro h
    apply List.ext_getElem?
    intro i
    by_cases hi : i < 24
    · rw [floC_get (by omega), floC_get (by omega), h i hi]
    · rw [List.getElem?_eq_none (by rw [floC_length]; omega), List.getElem?_eq_none (by rw [floC_length]; omega)]
/-- The items of a cache that is ok. -/
def goodC (F : List KD) : List KD → Prop
  | [] => True
  | x :: L => (rightK x = true ∧ verK x = flr F (keyK x).toNat ∧ ∀ y ∈ L, keyK y ≠ keyK x) ∧ goodC F L
theorem goodC_iff (F : List KD) : ∀ L : List KD, goodC F L ↔ ItmTo L F L.length
  | [] => by simp [goodC, ItmTo]
  | x :: L => by
    rw [goodC, goodC_iff F L]
    have mem : ∀ i, i < L.length → L.getD i kd0 ∈ L := fun i hi => by
      rw [show L.getD i kd0 = L[i] from by simp [hi]]
      exact List.getElem_mem hi
    constructor
    · rintro ⟨⟨h1, h2, h3⟩, h4⟩ i hi
      cases i with
      | zero => exact ⟨by rw [List.getD_cons_zero]; exact h1, by rw [List.getD_cons_zero]; exact h2, fun k hk => absurd hk (Nat.not_lt_zero k)⟩
      | succ i =>
        have hi' : i < L.length := by simpa using hi
        obtain ⟨g1, g2, g3⟩ := h4 i hi'
        refine ⟨by rw [List.getD_cons_succ]; exact g1, by rw [List.getD_cons_succ]; exact g2, fun k hk => ?_⟩
        rw [List.getD_cons_succ]
        cases k with
        | zero => rw [List.getD_cons_zero]; exact fun e => h3 _ (mem i hi') e.symm
        | succ k => rw [List.getD_cons_succ]; exact g3 k (by omega)
    · intro h
      have h0 := h 0 (by simp)
      rw [ItmAt, List.getD_cons_zero] at h0
      refine ⟨⟨h0.1, h0.2.1, fun y hy => ?_⟩, fun i hi => ?_⟩
      · obtain ⟨i, hi, rfl⟩ := List.getElem_of_mem hy
        have := (h (i + 1) (by simpa using hi)).2.2 0 (by omega)
        rw [List.getD_cons_succ, List.getD_cons_zero, show L.getD i kd0 = L[i] from by simp [hi]] at this
        exact fun e => this e.symm
      · obtain ⟨g1, g2, g3⟩ := h (i + 1) (by simpa using hi)
        rw [List.getD_cons_succ] at g1 g2 g3
        exact ⟨g1, g2, fun k hk => by have := g3 (k + 1) (by omega); rw [List.getD_cons_succ] at this; exact this⟩
/-- What stands behind the items L, put anew on the floors F. -/
structure WellS (F : List KD) (L : List KD) (S : List (Option KD) × List KD) : Prop where
  x4 : S.1.length = 4
  f24 : S.2.length = 24
  up : ∀ i, i < 24 → flr F i ≤ flr S.2 i
  cnt : cntX S.1 ≤ L.length
  or : (goodC F L ∧ S.1 = itemsX L ∧ ∀ i, i < 24 → flr S.2 i = flr F i) ∨ (¬ goodC F L ∧ (cntX S.1 < L.length ∨ ∃ i, i < 24 ∧ flr F i < flr S.2 i))
theorem hasK_items {L : List KD} {k : Int} (h : L.length ≤ 4) : (itemsX L).any (hasK k) = L.any (fun y => keyK y == k) := by
  match L, h with
  | [], _ => rfl
  | [a], _ => rfl
  | [a, b], _ => rfl
  | [a, b, c], _ => rfl
  | [a, b, c, d], _ => rfl
theorem wellS_step {F L : List KD} {S : List (Option KD) × List KD} {x : KD} (h3 : x.1.length = 3) (hl : L.length ≤ 3) (h : WellS F L S) : WellS F (x :: L) (stepS S x) := by
  have hx := kd3 h3
  by_cases hp : putB S.2 (keyK x) (verK x) (numK x) x.2 = true
  · have hS : stepS S x = (putX S.1 (keyK x) (verK x) (numK x) x.2, putF S.2 (keyK x) (verK x)) := by rw [stepS, if_pos hp]
    unfold putB at hp
    rw [Bool.and_eq_true] at hp
    obtain ⟨hr, hv⟩ := hp
    have hk := itR_key hr
    have hv : flr S.2 (keyK x).toNat ≤ verK x := by simpa using hv
    have hkn : (keyK x).toNat < 24 := by omega
    have hset : ∀ i, flr (putF S.2 (keyK x) (verK x)) i = if i = (keyK x).toNat then verK x else flr S.2 i := fun i => flr_set _ i (by rw [h.f24]; exact hkn)
    have hc := putX_cnt S.1 (keyK x) (verK x) (numK x) x.2
    have hd := dropX_cnt (keyK x) S.1
    have hup : ∀ i, i < 24 → flr S.2 i ≤ flr (putF S.2 (keyK x) (verK x)) i := fun i hi => by
      rw [hset]
      split
      · rename_i e; rw [e]; exact hv
      · exact Int.le_refl _
    rw [hS]
    refine ⟨by simp [putX, dropX_length h.x4], by simp [putF, h.f24], fun i hi => Int.le_trans (h.up i hi) (hup i hi), by rw [List.length_cons]; have := h.cnt; exact Nat.le_trans hc (by omega), ?_⟩
    rcases h.or with ⟨hg, hX, hf⟩ | ⟨hg, hbad⟩
    · by_cases he : verK x = flr F (keyK x).toNat
      · by_cases ha : S.1.any (hasK (keyK x)) = true
        · right
          refine ⟨?_, Or.inl ?_⟩
          · rintro ⟨⟨_, _, hn⟩, _⟩
            rw [hX, hasK_items (by omega), List.any_eq_true] at ha
            obtain ⟨y, hy, hq⟩ := ha
            exact hn y hy (by simpa using hq)
          · have := dropX_cnt_lt ha
            have := h.cnt
            rw [List.length_cons]
            show cntX (putX S.1 _ _ _ _) < _
            omega
        · left
          refine ⟨⟨⟨hr, he, ?_⟩, hg⟩, ?_, ?_⟩
          · intro y hy e
            apply ha
            rw [hX, hasK_items (by omega), List.any_eq_true]
            exact ⟨y, hy, by simpa using e⟩
          · show putX S.1 _ _ _ _ = _
            rw [putX, hx, itemsX_cons hl, dropX, if_neg ha, hX]
          · intro i hi
            show flr (putF S.2 _ _) i = _
            rw [hset]
            split
            · rename_i e; rw [e, he]
            · exact hf i hi
      · right
        refine ⟨fun q => he q.1.2.1, Or.inr ⟨(keyK x).toNat, hkn, ?_⟩⟩
        show _ < flr (putF S.2 _ _) _
        rw [hset, if_pos rfl]
        have := hf _ hkn
        omega
    · right
      refine ⟨fun q => hg q.2, ?_⟩
      rcases hbad with hb | ⟨i, hi, hb⟩
      · left
        rw [List.length_cons]
        show cntX (putX S.1 _ _ _ _) < _
        omega
      · exact Or.inr ⟨i, hi, Int.lt_of_lt_of_le hb (hup i hi)⟩
  · have hS : stepS S x = S := by rw [stepS, if_neg hp]
    rw [hS]
    refine ⟨h.x4, h.f24, h.up, by rw [List.length_cons]; have := h.cnt; omega, Or.inr ⟨?_, Or.inl (by rw [List.length_cons]; have := h.cnt; omega)⟩⟩
    rintro ⟨⟨hr, he, _⟩, hg⟩
    rcases h.or with ⟨_, _, hf⟩ | ⟨hn, _⟩
    · apply hp
      unfold putB
      rw [Bool.and_eq_true]
      have hk := rightK_key hr
      exact ⟨hr, by rw [hf _ (by omega), he]; simp⟩
    · exact hn hg
theorem wellS_all {F : List KD} (hF : F.length = 24) : ∀ L : List KD, L.length ≤ 4 → (∀ x ∈ L, x.1.length = 3) → WellS F L (anewS F L)
  | [], _, _ => ⟨rfl, hF, fun _ _ => Int.le_refl _, Nat.le_refl _, Or.inl ⟨trivial, rfl, fun _ _ => rfl⟩⟩
  | x :: L, hl, h3 => by
    rw [anewS_cons]
    exact wellS_step (h3 x (by simp)) (by simpa using hl) (wellS_all hF L (by simp at hl; omega) (fun y hy => h3 y (by simp [hy])))
/-- Put anew they come to the same just if they are right. -/
theorem anew_same {F L : List KD} (hF : F.length = 24) (hl : L.length ≤ 4) (h3 : ∀ x ∈ L, x.1.length = 3) :
    (spotsC (itemsX L) = spotsC (anewS F L).1 ∧ floC F = floC (anewS F L).2) ↔ ItmTo L F L.length := by
  have h := wellS_all hF L hl h3
  rw [← goodC_iff]
  constructor
  · rintro ⟨e1, e2⟩
    rcases h.or with hg | ⟨_, hb | ⟨i, hi, hb⟩⟩
    · exact hg.1
    · have := spotsC_some _ _ (by rw [itemsX_length, h.x4]) e1
      rw [itemsX_cnt hl] at this
      omega
    · have := (floC_iff hF h.f24).1 e2 i hi
      omega
  · intro hg
    rcases h.or with ⟨_, hX, hf⟩ | ⟨hn, _⟩
    · exact ⟨by rw [hX], (floC_iff hF h.f24).2 (fun i hi => (hf i hi).symm)⟩
    · exact absurd hg hn
end Go.Proofs.Ytnenlnadmdlcfaa
