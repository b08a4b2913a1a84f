/- A shelf by value (four spots, 24 floors): its cells, where it lies in memory; (*impl.shelf).find with its closure and slices.IndexFunc: contracts. -/
import Derived.Test.YtnenlnadmdlcfaaXa
import Derived.Test.YtnenlnadmdlcfaaCp
import Derived.Deep.MidRow
namespace Go.Proofs.Ytnenlnadmdlcfaa
open Go.RowKit

/-- The cells of a spot. -/
def spotC (f : Bool) (k v n : Int) (l : List (Int × Int)) : List Value :=
  [.bool f, .int .i64 k, .int .i64 v, .int .i64 n,
   .int .i64 (l.getD 0 (0, 0)).1, .int .i64 (l.getD 0 (0, 0)).2, .int .i64 (l.getD 1 (0, 0)).1, .int .i64 (l.getD 1 (0, 0)).2,
   .int .i64 (l.getD 2 (0, 0)).1, .int .i64 (l.getD 2 (0, 0)).2, .int .i64 (l.getD 3 (0, 0)).1, .int .i64 (l.getD 3 (0, 0)).2,
   .int .i64 (l.getD 4 (0, 0)).1, .int .i64 (l.getD 4 (0, 0)).2, .int .i64 (l.getD 5 (0, 0)).1, .int .i64 (l.getD 5 (0, 0)).2,
   .int .i64 (l.getD 6 (0, 0)).1, .int .i64 (l.getD 6 (0, 0)).2, .int .i64 (l.getD 7 (0, 0)).1, .int .i64 (l.getD 7 (0, 0)).2,
   .int .i64 l.length]
def cellsP : Option KD → List Value
  | none => spotC false 0 0 0 []
  | some x => spotC true (x.1.getD 0 0) (x.1.getD 1 0) (x.1.getD 2 0) x.2
theorem cellsP_length (x : Option KD) : (cellsP x).length = 21 := by cases x <;> rfl
theorem cellsP_one (x : Option KD) : ∀ v ∈ cellsP x, v.oneCell' = true := by
  cases x <;> (intro v hv; simp only [cellsP, spotC, List.mem_cons, List.not_mem_nil, or_false] at hv; rcases hv with rfl | rfl | rfl | rfl | rfl | rfl | rfl | rfl | rfl | rfl | rfl | rfl | rfl | rfl | rfl | rfl | rfl | rfl | rfl | rfl | rfl <;> rfl)
def spotsC (X : List (Option KD)) : List Value := X.flatMap cellsP
def floC (F : List KD) : List Value := F.map (fun x => Value.int .i64 (x.1.getD 0 0))
theorem spotsC_nil : spotsC [] = [] := rfl
theorem spotsC_cons (x : Option KD) (X : List (Option KD)) : spotsC (x :: X) = cellsP x ++ spotsC X := rfl
theorem spotsC_append (X Y : List (Option KD)) : spotsC (X ++ Y) = spotsC X ++ spotsC Y := by simp [spotsC]
theorem spotsC_length (X : List (Option KD)) : (spotsC X).length = 21 * X.length := by
  induction X with
  | nil => rfl
  | cons x r ih => rw [spotsC_cons, List.length_append, cellsP_length, ih, List.length_cons]; omega
theorem spotsC_one (X : List (Option KD)) : ∀ v ∈ spotsC X, v.oneCell' = true := by
  intro v hv
  simp only [spotsC, List.mem_flatMap] at hv
  obtain ⟨x, _, hx⟩ := hv
  exact cellsP_one x v hx
theorem spotsC_take (X : List (Option KD)) : ∀ i, (spotsC X).take (21 * i) = spotsC (X.take i) := by
  induction X with
  | nil => intro i; simp [spotsC_nil]
  | cons x r ih =>
    intro i
    cases i with
    | zero => simp [spotsC_nil]
    | succ i =>
      rw [spotsC_cons, List.take_succ_cons, spotsC_cons, ← ih i, List.take_append, cellsP_length, List.take_of_length_le (by rw [cellsP_length]; omega), show 21 * (i + 1) - 21 = 21 * i from by omega]
theorem spotsC_drop (X : List (Option KD)) : ∀ i, (spotsC X).drop (21 * i) = spotsC (X.drop i) := by
  induction X with
  | nil => intro i; simp [spotsC_nil]
  | cons x r ih =>
    intro i
    cases i with
    | zero => simp
    | succ i =>
      rw [spotsC_cons, List.drop_succ_cons, ← ih i, List.drop_append, cellsP_length, List.drop_of_length_le (by rw [cellsP_length]; omega), List.nil_append, show 21 * (i + 1) - 21 = 21 * i from by omega]
theorem floC_length (F : List KD) : (floC F).length = F.length := by simp [floC]
theorem floC_get {F : List KD} {i : Nat} (h : i < F.length) : (floC F)[i]? = some (.int .i64 (flr F i)) := by simp [floC, flr, List.getElem?_eq_getElem h]
theorem floC_set (F : List KD) (i : Nat) (v : Int) : (floC F).set i (.int .i64 v) = floC (F.set i ([v], [])) := by simp [floC, List.map_set]
theorem floC_one (F : List KD) : ∀ v ∈ floC F, v.oneCell' = true := by
  intro v hv
  simp only [floC, List.mem_map] at hv
  obtain ⟨x, _, rfl⟩ := hv
  rfl
theorem flr_set {F : List KD} {i : Nat} (v : Int) (k : Nat) (h : i < F.length) : flr (F.set i ([v], [])) k = if k = i then v else flr F k := by
  unfold flr
  rw [kd_getD_set h]
  split <;> rfl

/-- What stands around a shelf in its block. -/
structure Fr where
  t : TypeId
  pre : List Value
  post : List Value
def cellsS (fr : Fr) (X : List (Option KD)) (F : List KD) : List Value := fr.pre ++ (spotsC X ++ (floC F ++ fr.post))
/-- A shelf lies in block g. -/
structure ShAt (w : World) (g : Nat) (fr : Fr) (X : List (Option KD)) (F : List KD) : Prop where
  x4 : X.length = 4
  f24 : F.length = 24
  row : w.heap[g]? = some (.cells (cellsS fr X F).toArray fr.t (0, 0))
theorem ShAt.agree {w w' : World} {g : Nat} {fr : Fr} {X : List (Option KD)} {F : List KD} (h : ShAt w g fr X F) (hb : w'.heap[g]? = w.heap[g]?) : ShAt w' g fr X F := ⟨h.x4, h.f24, hb.trans h.row⟩
theorem ShAt.lt {w : World} {g : Nat} {fr : Fr} {X : List (Option KD)} {F : List KD} (h : ShAt w g fr X F) : g < w.heap.size := (Array.getElem?_eq_some_iff.1 h.row).1
theorem ShAt.later {w w' : World} {g : Nat} {fr : Fr} {X : List (Option KD)} {F : List KD} (h : ShAt w g fr X F) (hb : Below w.heap.size w w') : ShAt w' g fr X F := h.agree (hb.block g h.lt)
theorem ShAt.drew {w : World} {g : Nat} {fr : Fr} {X : List (Option KD)} {F : List KD} (h : ShAt w g fr X F) : ShAt w.drew g fr X F := h.agree rfl
theorem ShAt.only {w w' : World} {g : Nat} {fr : Fr} {X : List (Option KD)} {F : List KD} {G : Nat → Prop} (h : ShAt w g fr X F) (ho : Only G w w') (hG : ¬ G g) : ShAt w' g fr X F := h.agree (ho.block g h.lt hG)
theorem cellsS_length (fr : Fr) (X : List (Option KD)) (F : List KD) : (cellsS fr X F).length = fr.pre.length + (21 * X.length + (F.length + fr.post.length)) := by
  simp [cellsS, spotsC_length, floC_length]
theorem cellsS_spot (fr : Fr) (X : List (Option KD)) (F : List KD) (i j : Nat) (hi : i ≤ X.length) (hj : j < 21 * (X.length - i)) : (cellsS fr X F)[fr.pre.length + 21 * i + j]? = (spotsC (X.drop i))[j]? := by
  have hl := spotsC_length X
  unfold cellsS
  rw [List.getElem?_append_right (by omega), show fr.pre.length + 21 * i + j - fr.pre.length = 21 * i + j from by omega, List.getElem?_append_left (by omega), ← spotsC_drop, List.getElem?_drop]
theorem ShAt.spots {w : World} {g : Nat} {fr : Fr} {X : List (Option KD)} {F : List KD} (h : ShAt w g fr X F) (i : Nat) (hi : i ≤ 4) : w.rangeAt g (fr.pre.length + 21 * i) (spotsC (X.drop i)) := by
  intro j v hv
  have hj : j < (spotsC (X.drop i)).length := (List.getElem?_eq_some_iff.1 hv).1
  rw [spotsC_length, List.length_drop] at hj
  rw [cell_of_row w g _ _ _ _ h.row, List.getElem?_toArray, cellsS_spot fr X F i j (by rw [h.x4]; exact hi) hj]
  exact hv
theorem rangeAt_prefix {w : World} {g o : Nat} {A B : List Value} (h : w.rangeAt g o (A ++ B)) : w.rangeAt g o A := fun j v hv => h j v (by rw [List.getElem?_append_left (List.getElem?_eq_some_iff.1 hv).1]; exact hv)
theorem ShAt.spot {w : World} {g : Nat} {fr : Fr} {X : List (Option KD)} {F : List KD} (h : ShAt w g fr X F) (i : Nat) (hi : i < 4) : w.rangeAt g (fr.pre.length + 21 * i) (cellsP (X.getD i none)) := by
  have := h.spots i (by omega)
  have hx : i < X.length := by rw [h.x4]; exact hi
  rw [List.drop_eq_getElem_cons hx, spotsC_cons] at this
  have e : X.getD i none = X[i] := by simp [hx]
  rw [e]
  exact rangeAt_prefix this
theorem cellsS_flo (fr : Fr) (X : List (Option KD)) (F : List KD) (i : Nat) (hx : X.length = 4) (hi : i < F.length) : (cellsS fr X F)[fr.pre.length + 84 + i]? = some (.int .i64 (flr F i)) := by
  have hl := spotsC_length X
  unfold cellsS
  rw [List.getElem?_append_right (by omega), show fr.pre.length + 84 + i - fr.pre.length = 84 + i from by omega, List.getElem?_append_right (by omega), hl, hx, show 84 + i - 21 * 4 = i from by omega, List.getElem?_append_left (by rw [floC_length]; exact hi), floC_get hi]
theorem ShAt.flo {w : World} {g : Nat} {fr : Fr} {X : List (Option KD)} {F : List KD} (h : ShAt w g fr X F) (i : Nat) (hi : i < 24) : w.cell? ⟨g, fr.pre.length + 84 + i, none⟩ = some (.int .i64 (flr F i)) := by
  rw [cell_of_row w g _ _ _ _ h.row, List.getElem?_toArray, cellsS_flo fr X F i h.x4 (by rw [h.f24]; exact hi)]
theorem ShAt.frozen {w : World} {g : Nat} {fr : Fr} {X : List (Option KD)} {F : List KD} (h : ShAt w g fr X F) (i : Nat) : w.frozen? ⟨g, i, none⟩ = false := by simp [World.frozen?, h.row]

/-! ### What is laid over the cells -/
theorem splice_spots (fr : Fr) (X Y : List (Option KD)) (F : List KD) (i : Nat) (h : i + Y.length ≤ X.length) :
    splice (cellsS fr X F) (fr.pre.length + 21 * i) (spotsC Y) = cellsS fr (splice X i Y) F := by
  have hl := spotsC_length X
  have hy := spotsC_length Y
  unfold cellsS
  have e1 : (fr.pre ++ (spotsC X ++ (floC F ++ fr.post))).take (fr.pre.length + 21 * i) = fr.pre ++ spotsC (X.take i) := by
    rw [List.take_length_add_append, List.take_append_of_le_length (by omega), spotsC_take]
  have e2 : (fr.pre ++ (spotsC X ++ (floC F ++ fr.post))).drop (fr.pre.length + 21 * i + (spotsC Y).length) = spotsC (X.drop (i + Y.length)) ++ (floC F ++ fr.post) := by
    rw [hy, show fr.pre.length + 21 * i + 21 * Y.length = fr.pre.length + 21 * (i + Y.length) from by omega, List.drop_length_add_append, List.drop_append_of_le_length (by omega), spotsC_drop]
  unfold splice
  rw [e1, e2, spotsC_append, spotsC_append]
  simp only [List.append_assoc]
theorem cellsS_setFlo (fr : Fr) (X : List (Option KD)) (F : List KD) (i : Nat) (v : Int) (hx : X.length = 4) (hi : i < F.length) :
    (cellsS fr X F).set (fr.pre.length + 84 + i) (.int .i64 v) = cellsS fr X (F.set i ([v], [])) := by
  have hl := spotsC_length X
  unfold cellsS
  rw [List.set_append_right (h := by omega), show fr.pre.length + 84 + i - fr.pre.length = 84 + i from by omega, List.set_append_right (h := by omega), hl, hx, show 84 + i - 21 * 4 = i from by omega, List.set_append_left (h := by rw [floC_length]; exact hi), floC_set]

theorem run_store_splice {P : Program} (w : World) (g o : Nat) (ty t : TypeId) (cur cs : List Value) (hg : w.heap[g]? = some (.cells cur.toArray t (0, 0))) (hfit : o + cs.length ≤ cur.length) (h1 : ∀ v ∈ cs, v.oneCell' = true)
    (hi : (P.info? ty).map (·.size) = some cs.length) : (Instr.storeAt ty (.pointer (some ⟨g, o, none⟩)) (.agg cs.toArray)).run P w = .ok () (w.setRow g (splice cur o cs).toArray) := by
  have hst := run_storeCells_at P g o t cs 0 cur.toArray w hg (by simpa using hfit) h1
  cases hq : P.info? ty with
  | none => simp [hq] at hi
  | some i =>
    have hs : i.size = cs.length := by simpa [hq] using hi
    simp [Instr.storeAt, Instr.sureAddr, storeVar, sizeOf, typeInfo, hq, Value.cells, hs, hst, splice]
theorem only_setRow (w : World) (g : Nat) (cs : Array Value) : Only (fun k => k = g) w (w.setRow g cs) := ⟨rfl, rfl, rfl, by simp [World.setRow], fun k _ hn => setRow_other w g k cs hn⟩
theorem shAt_setSpots {w : World} {g : Nat} {fr : Fr} {X : List (Option KD)} {F : List KD} (h : ShAt w g fr X F) (i : Nat) (Y : List (Option KD)) (hi : i + Y.length ≤ 4) :
    ShAt (w.setRow g (splice (cellsS fr X F) (fr.pre.length + 21 * i) (spotsC Y)).toArray) g fr (splice X i Y) F :=
  ⟨by rw [length_splice _ _ _ (by rw [h.x4]; exact hi), h.x4], h.f24, by rw [setRow_heap w g _ _ fr.t _ h.row, splice_spots fr X Y F i (by rw [h.x4]; exact hi)]⟩
end Go.Proofs.Ytnenlnadmdlcfaa
namespace Go.Proofs.Ytnenlnadmdlcfaa
open Go.RowKit
attribute [local go_sem ↓] Go.wp_at_zero Go.wp_at_succ

theorem Try.infoX_spot : (Try.prog.info? 65).map (·.size) = some 21 := by kernel_rfl
/-- A spot out of memory (a name that the walk does not take apart). -/
def ldQ (v : Value) : Sem Value := Instr.loadAt 65 v
theorem ldQ_open (v : Value) : Instr.loadAt 65 v = ldQ v := rfl
theorem ldQ_row {W : World} {g o : Nat} {C : List Value} (h : W.rangeAt g o C) (hl : C.length = 21) : (ldQ (.pointer (some ⟨g, o, none⟩))).run Try.prog W = .ok (.agg C.toArray) W :=
  run_loadAt_mid W g o 65 C _ h Try.underlying65 rfl (by rw [Try.infoX_spot, hl])
theorem ldQ_at {W : World} {g : Nat} {fr : Fr} {X : List (Option KD)} {F : List KD} (h : ShAt W g fr X F) (i : Nat) (hi : i < 4) :
    (ldQ (.pointer (some ⟨g, fr.pre.length + i * 21, none⟩))).run Try.prog W = .ok (.agg (cellsP (X.getD i none)).toArray) W := by
  rw [Nat.mul_comm]
  exact ldQ_row (h.spot i hi) (cellsP_length _)
attribute [local go_sem ↓] ldQ_open

/-- Is it an item of that key? -/
def hasK (key : Int) : Option KD → Bool
  | none => false
  | some x => keyK x == key
theorem cellsP_head (x : Option KD) (key : Int) : ∃ f k, (cellsP x)[0]? = some (.bool f) ∧ (cellsP x)[1]? = some (.int .i64 k) ∧ hasK key x = (f && (k == key)) := by
  cases x with
  | none => exact ⟨false, 0, rfl, rfl, rfl⟩
  | some x => exact ⟨true, keyK x, rfl, rfl, by simp [hasK]⟩
theorem find1_any (x : Option KD) (key : Int) (B : Nat) (w : World) (hc : w.cell? ⟨B, 0, none⟩ = some (.int .i64 key)) :
    Calls Try.prog 59 #[.agg (cellsP x).toArray, .pointer (some ⟨B, 0, none⟩)] w fun e w' => e = .returned (.bool (hasK key x)) ∧ Below w.heap.size w w' := by
  have hB := World.block_lt_of_cell? _ _ hc
  have hne : w.heap.size ≠ B := by simp only at hB; omega
  obtain ⟨f, k, h0, h1, hh⟩ := cellsP_head x key
  rw [hh]
  clear hh
  generalize cellsP x = C at h0 h1 ⊢
  have hg := heap_alloc_new w (.cells C.toArray 65)
  have c0 : (w.alloc (.cells C.toArray 65)).cell? ⟨w.heap.size, 0, none⟩ = some (.bool f) := by rw [cell_of_row _ _ 0 _ _ _ hg]; simpa using h0
  have c1 : (w.alloc (.cells C.toArray 65)).cell? ⟨w.heap.size, 1, none⟩ = some (.int .i64 k) := by rw [cell_of_row _ _ 1 _ _ _ hg]; simpa using h1
  have c2 : (w.alloc (.cells C.toArray 65)).cell? ⟨B, 0, none⟩ = some (.int .i64 key) := by rw [World.cell?_alloc_lt _ _ _ hB]; exact hc
  have bb : Below w.heap.size w (w.alloc (.cells C.toArray 65)) := by go_grown
  clear hg h0 h1
  cases f with
  | false =>
    go_enter Try.func59, Try.ntmps59
    go_wp2_with fail
    go_ret
    exact ⟨by simp, bb⟩
  | true =>
    go_enter Try.func59, Try.ntmps59
    go_wp2_with fail
    go_ret
    exact ⟨by simp, bb⟩
/-- Where the first item of a key stands. -/
def FoundX (key : Int) (X : List (Option KD)) (k : Nat) : Prop := k < 4 ∧ hasK key (X.getD k none) = true ∧ ∀ j, j < k → hasK key (X.getD j none) = false
def NoneX (key : Int) (X : List (Option KD)) (k : Nat) : Prop := ∀ j, j < k → hasK key (X.getD j none) = false
theorem NoneX.more {key : Int} {X : List (Option KD)} {k : Nat} (h : NoneX key X k) (hk : hasK key (X.getD k none) = false) : NoneX key X (k + 1) := by
  intro j hj
  by_cases e : j = k
  · rw [e]; exact hk
  · exact h j (by omega)
def EndX (key : Int) (X : List (Option KD)) (e : Ending) : Prop := (∃ k : Nat, e = .returned (.int .i64 k) ∧ FoundX key X k) ∨ (e = .returned (.int .i64 (-1)) ∧ NoneX key X 4)
set_option maxRecDepth 100000 in
set_option maxHeartbeats 2000000 in
theorem indexX_any (g : Nat) (fr : Fr) (X : List (Option KD)) (F : List KD) (key : Int) (B : Nat) (w : World) (h : ShAt w g fr X F) (hc : w.cell? ⟨B, 0, none⟩ = some (.int .i64 key)) :
    Calls Try.prog 58 #[.slice (some ⟨g, fr.pre.length, none⟩) 4 4, .func (.func 59) #[] #[.pointer (some ⟨B, 0, none⟩)]] w fun e w' => EndX key X e ∧ Below w.heap.size w w' := by
  have HS := hid h
  clear h
  have hB := World.block_lt_of_cell? _ _ hc
  go_enter Try.func58, Try.ntmps58
  go_wp2
  go_loopw [8] (fun i wr => ∃ k : Nat, k ≤ 4 ∧ i = .int .i64 k ∧ Hid (NoneX key X k) ∧ Below w.heap.size w wr) (fun i _ => 4 - (intOf i).toNat)
  case atStart => exact ⟨0, Nat.zero_le _, rfl, hid (fun j hj => absurd hj (Nat.not_lt_zero j)), Below.refl _ _⟩
  case round =>
    obtain ⟨k, hk, rfl, hpre, hbel⟩ := hrel
    by_cases hlt : k < 4
    · have hki : (k : Int) < 4 := by omega
      have hld := ldQ_at (HS.out.later hbel) k hlt
      have hc2 := (hbel.cell hB).trans hc
      have hsz := hbel.size
      have HM : Hid (hasK key (X.getD k none) = false → NoneX key X (k + 1)) := hid hpre.out.more
      have HT : Hid (hasK key (X.getD k none) = true → FoundX key X k) := hid (fun hv => ⟨hlt, hv, hpre.out⟩)
      generalize X.getD k none = x at *
      go_wp2_with fail
      refine (find1_any _ key B _ hc2).mono ?_
      rintro e w2 ⟨rfl, b2⟩
      have b3 := hbel.trans (b2.mono hsz)
      cases hv : hasK key x with
      | false =>
        have hN := hid (HM.out hv)
        go_wp2_with fail
        go_roundw
        case rel => exact ⟨k + 1, by omega, by go_num, hN, b3⟩
        case measure => simp [intOf]; omega
      | true =>
        have hN := hid (HT.out hv)
        go_wp2_with fail
        go_ret
        exact ⟨Or.inl ⟨k, by simp, hN.out⟩, b3⟩
    · have hki : ¬ (k : Int) < 4 := by omega
      have hall : Hid (NoneX key X 4) := hid (fun j hj => hpre.out j (by omega))
      go_wp2
      go_ret
      exact ⟨Or.inr ⟨by simp, hall.out⟩, hbel⟩
/-- What find answers. -/
def EndF (key : Int) (X : List (Option KD)) (e : Ending) : Prop := (∃ k : Nat, e = .returned (.tuple #[.int .i64 k, .bool true]) ∧ FoundX key X k) ∨ (e = .returned (.tuple #[.int .i64 (-1), .bool false]) ∧ NoneX key X 4)
set_option maxRecDepth 100000 in
set_option maxHeartbeats 2000000 in
theorem findX_any (g : Nat) (fr : Fr) (X : List (Option KD)) (F : List KD) (key : Int) (w : World) (h : ShAt w g fr X F) :
    Calls Try.prog 32 #[.pointer (some ⟨g, fr.pre.length, none⟩), .int .i64 key] w fun e w' => EndF key X e ∧ Below w.heap.size w w' := by
  have HS := hid h
  clear h
  go_enter Try.func32, Try.ntmps32
  go_wp2_with fail
  have bb : Below w.heap.size w (w.alloc (.cells #[.int .i64 key] 3)) := by go_grown
  refine (indexX_any g fr X F key w.heap.size _ (HS.out.later bb) (by go_cell)).mono ?_
  rintro e w2 ⟨he, b2⟩
  have b3 := bb.trans (b2.mono (by simp))
  clear b2
  rcases he with ⟨k, rfl, hf⟩ | ⟨rfl, hn⟩
  · have hk : decide ((k : Int) ≥ 0) = true := by simp
    have HF := hid hf
    clear hf
    go_wp2_with fail
    go_ret2
    exact ⟨Or.inl ⟨k, by simp, HF.out⟩, b3⟩
  · have HN := hid hn
    clear hn
    go_wp2_with fail
    go_ret2
    exact ⟨Or.inr ⟨by simp, HN.out⟩, b3⟩
end Go.Proofs.Ytnenlnadmdlcfaa
