/- Contracts and plain facts, several texts in one. -/
import Derived.Test.YtfibdnhihnccaaaGreatXa
import Derived.Test.YtfibdnhihnccaaaGreatCp
import Derived.Deep.MidRow
import Derived.Deep.RegionLaw
import Derived.BigQuiet
import Derived.Deep.RegionWith
import Derived.Test.YtfibdnhihnccaaaGreatEs
import Derived.ChangeKeysEq
import Derived.Laws.StructEq
import Derived.Test.YtfibdnhihnccaaaGreatGrE
/- Part: A shelf by value (four spots, 24 floors): its cells, where it lies in memory; (*impl.shelf).find with its closure and slices.IndexFunc: contracts. -/
namespace Go.Proofs.YtfibdnhihnccaaaGreat
open Go.RowKit

/-- The cells of a spot. -/
def spotC (f : Bool) (k v n : Int) (l : List (Int × Int)) : List Value :=
  [.bool f, .int .i64 k, .int .i64 v, .int .i64 n,
   .int .i64 (l.getD 0 (0, 0)).1, .int .i64 (l.getD 0 (0, 0)).2, .int .i64 (l.getD 1 (0, 0)).1, .int .i64 (l.getD 1 (0, 0)).2,
   .int .i64 (l.getD 2 (0, 0)).1, .int .i64 (l.getD 2 (0, 0)).2, .int .i64 (l.getD 3 (0, 0)).1, .int .i64 (l.getD 3 (0, 0)).2,
   .int .i64 (l.getD 4 (0, 0)).1, .int .i64 (l.getD 4 (0, 0)).2, .int .i64 (l.getD 5 (0, 0)).1, .int .i64 (l.getD 5 (0, 0)).2,
   .int .i64 (l.getD 6 (0, 0)).1, .int .i64 (l.getD 6 (0, 0)).2, .int .i64 (l.getD 7 (0, 0)).1, .int .i64 (l.getD 7 (0, 0)).2,
   .int .i64 l.length]
def cellsP : Option KD → List Value
  | none => spotC false 0 0 0 []
  | some x => spotC true (x.1.getD 0 0) (x.1.getD 1 0) (x.1.getD 2 0) x.2
theorem cellsP_length (x : Option KD) : (cellsP x).length = 21 := by cases x <;> rfl
theorem cellsP_one (x : Option KD) : ∀ v ∈ cellsP x, v.oneCell' = true := by
  cases x <;> (intro v hv; simp only [cellsP, spotC, List.mem_cons, List.not_mem_nil, or_false] at hv; rcases hv with rfl | rfl | rfl | rfl | rfl | rfl | rfl | rfl | rfl | rfl | rfl | rfl | rfl | rfl | rfl | rfl | rfl | rfl | rfl | rfl | rfl <;> rfl)
def spotsC (X : List (Option KD)) : List Value := X.flatMap cellsP
def floC (F : List KD) : List Value := F.map (fun x => Value.int .i64 (x.1.getD 0 0))
theorem spotsC_nil : spotsC [] = [] := rfl
theorem spotsC_cons (x : Option KD) (X : List (Option KD)) : spotsC (x :: X) = cellsP x ++ spotsC X := rfl
theorem spotsC_append (X Y : List (Option KD)) : spotsC (X ++ Y) = spotsC X ++ spotsC Y := by simp [spotsC]
theorem spotsC_length (X : List (Option KD)) : (spotsC X).length = 21 * X.length := by
  induction X with
  | nil => rfl
  | cons x r ih => rw [spotsC_cons, List.length_append, cellsP_length, ih, List.length_cons]; omega
theorem spotsC_one (X : List (Option KD)) : ∀ v ∈ spotsC X, v.oneCell' = true := by
  intro v hv
  simp only [spotsC, List.mem_flatMap] at hv
  obtain ⟨x, _, hx⟩ := hv
  exact cellsP_one x v hx
theorem spotsC_take (X : List (Option KD)) : ∀ i, (spotsC X).take (21 * i) = spotsC (X.take i) := by
  induction X with
  | nil => intro i; simp [spotsC_nil]
  | cons x r ih =>
    intro i
    cases i with
    | zero => simp [spotsC_nil]
    | succ i =>
      rw [spotsC_cons, List.take_succ_cons, spotsC_cons, ← ih i, List.take_append, cellsP_length, List.take_of_length_le (by rw [cellsP_length]; omega), show 21 * (i + 1) - 21 = 21 * i from by omega]
theorem spotsC_drop (X : List (Option KD)) : ∀ i, (spotsC X).drop (21 * i) = spotsC (X.drop i) := by
  induction X with
  | nil => intro i; simp [spotsC_nil]
  | cons x r ih =>
    intro i
    cases i with
    | zero => simp
    | succ i =>
      rw [spotsC_cons, List.drop_succ_cons, ← ih i, List.drop_append, cellsP_length, List.drop_of_length_le (by rw [cellsP_length]; omega), List.nil_append, show 21 * (i + 1) - 21 = 21 * i from by omega]
theorem floC_length (F : List KD) : (floC F).length = F.length := by simp [floC]
theorem floC_get {F : List KD} {i : Nat} (h : i < F.length) : (floC F)[i]? = some (.int .i64 (flr F i)) := by simp [floC, flr, List.getElem?_eq_getElem h]
theorem floC_set (F : List KD) (i : Nat) (v : Int) : (floC F).set i (.int .i64 v) = floC (F.set i ([v], [])) := by simp [floC, List.map_set]
theorem floC_one (F : List KD) : ∀ v ∈ floC F, v.oneCell' = true := by
  intro v hv
  simp only [floC, List.mem_map] at hv
  obtain ⟨x, _, rfl⟩ := hv
  rfl
theorem flr_set {F : List KD} {i : Nat} (v : Int) (k : Nat) (h : i < F.length) : flr (F.set i ([v], [])) k = if k = i then v else flr F k := by
  unfold flr
  rw [kd_getD_set h]
  split <;> rfl

/-- What stands around a shelf in its block. -/
structure Fr where
  t : TypeId
  pre : List Value
  post : List Value
def cellsS (fr : Fr) (X : List (Option KD)) (F : List KD) : List Value := fr.pre ++ (spotsC X ++ (floC F ++ fr.post))
/-- A shelf lies in block g. -/
structure ShAt (w : World) (g : Nat) (fr : Fr) (X : List (Option KD)) (F : List KD) : Prop where
  x4 : X.length = 4
  f24 : F.length = 24
  row : w.heap[g]? = some (.cells (cellsS fr X F).toArray fr.t (0, 0))
theorem ShAt.agree {w w' : World} {g : Nat} {fr : Fr} {X : List (Option KD)} {F : List KD} (h : ShAt w g fr X F) (hb : w'.heap[g]? = w.heap[g]?) : ShAt w' g fr X F := ⟨h.x4, h.f24, hb.trans h.row⟩
theorem ShAt.lt {w : World} {g : Nat} {fr : Fr} {X : List (Option KD)} {F : List KD} (h : ShAt w g fr X F) : g < w.heap.size := (Array.getElem?_eq_some_iff.1 h.row).1
theorem ShAt.later {w w' : World} {g : Nat} {fr : Fr} {X : List (Option KD)} {F : List KD} (h : ShAt w g fr X F) (hb : Below w.heap.size w w') : ShAt w' g fr X F := h.agree (hb.block g h.lt)
theorem ShAt.drew {w : World} {g : Nat} {fr : Fr} {X : List (Option KD)} {F : List KD} (h : ShAt w g fr X F) : ShAt w.drew g fr X F := h.agree rfl
theorem ShAt.only {w w' : World} {g : Nat} {fr : Fr} {X : List (Option KD)} {F : List KD} {G : Nat → Prop} (h : ShAt w g fr X F) (ho : Only G w w') (hG : ¬ G g) : ShAt w' g fr X F := h.agree (ho.block g h.lt hG)
theorem cellsS_length (fr : Fr) (X : List (Option KD)) (F : List KD) : (cellsS fr X F).length = fr.pre.length + (21 * X.length + (F.length + fr.post.length)) := by
  simp [cellsS, spotsC_length, floC_length]
theorem cellsS_spot (fr : Fr) (X : List (Option KD)) (F : List KD) (i j : Nat) (hi : i ≤ X.length) (hj : j < 21 * (X.length - i)) : (cellsS fr X F)[fr.pre.length + 21 * i + j]? = (spotsC (X.drop i))[j]? := by
  have hl := spotsC_length X
  unfold cellsS
  rw [List.getElem?_append_right (by omega), show fr.pre.length + 21 * i + j - fr.pre.length = 21 * i + j from by omega, List.getElem?_append_left (by omega), ← spotsC_drop, List.getElem?_drop]
theorem ShAt.spots {w : World} {g : Nat} {fr : Fr} {X : List (Option KD)} {F : List KD} (h : ShAt w g fr X F) (i : Nat) (hi : i ≤ 4) : w.rangeAt g (fr.pre.length + 21 * i) (spotsC (X.drop i)) := by
  intro j v hv
  have hj : j < (spotsC (X.drop i)).length := (List.getElem?_eq_some_iff.1 hv).1
  rw [spotsC_length, List.length_drop] at hj
  rw [cell_of_row w g _ _ _ _ h.row, List.getElem?_toArray, cellsS_spot fr X F i j (by rw [h.x4]; exact hi) hj]
  exact hv
theorem rangeAt_prefix {w : World} {g o : Nat} {A B : List Value} (h : w.rangeAt g o (A ++ B)) : w.rangeAt g o A := fun j v hv => h j v (by rw [List.getElem?_append_left (List.getElem?_eq_some_iff.1 hv).1]; exact hv)
theorem ShAt.spot {w : World} {g : Nat} {fr : Fr} {X : List (Option KD)} {F : List KD} (h : ShAt w g fr X F) (i : Nat) (hi : i < 4) : w.rangeAt g (fr.pre.length + 21 * i) (cellsP (X.getD i none)) := by
  have := h.spots i (by omega)
  have hx : i < X.length := by rw [h.x4]; exact hi
  rw [List.drop_eq_getElem_cons hx, spotsC_cons] at this
  have e : X.getD i none = X[i] := by simp [hx]
  rw [e]
  exact rangeAt_prefix this
theorem cellsS_flo (fr : Fr) (X : List (Option KD)) (F : List KD) (i : Nat) (hx : X.length = 4) (hi : i < F.length) : (cellsS fr X F)[fr.pre.length + 84 + i]? = some (.int .i64 (flr F i)) := by
  have hl := spotsC_length X
  unfold cellsS
  rw [List.getElem?_append_right (by omega), show fr.pre.length + 84 + i - fr.pre.length = 84 + i from by omega, List.getElem?_append_right (by omega), hl, hx, show 84 + i - 21 * 4 = i from by omega, List.getElem?_append_left (by rw [floC_length]; exact hi), floC_get hi]
theorem ShAt.flo {w : World} {g : Nat} {fr : Fr} {X : List (Option KD)} {F : List KD} (h : ShAt w g fr X F) (i : Nat) (hi : i < 24) : w.cell? ⟨g, fr.pre.length + 84 + i, none⟩ = some (.int .i64 (flr F i)) := by
  rw [cell_of_row w g _ _ _ _ h.row, List.getElem?_toArray, cellsS_flo fr X F i h.x4 (by rw [h.f24]; exact hi)]
theorem ShAt.frozen {w : World} {g : Nat} {fr : Fr} {X : List (Option KD)} {F : List KD} (h : ShAt w g fr X F) (i : Nat) : w.frozen? ⟨g, i, none⟩ = false := by simp [World.frozen?, h.row]

/-! ### What is laid over the cells -/
theorem splice_spots (fr : Fr) (X Y : List (Option KD)) (F : List KD) (i : Nat) (h : i + Y.length ≤ X.length) :
    splice (cellsS fr X F) (fr.pre.length + 21 * i) (spotsC Y) = cellsS fr (splice X i Y) F := by
  have hl := spotsC_length X
  have hy := spotsC_length Y
  unfold cellsS
  have e1 : (fr.pre ++ (spotsC X ++ (floC F ++ fr.post))).take (fr.pre.length + 21 * i) = fr.pre ++ spotsC (X.take i) := by
    rw [List.take_length_add_append, List.take_append_of_le_length (by omega), spotsC_take]
  have e2 : (fr.pre ++ (spotsC X ++ (floC F ++ fr.post))).drop (fr.pre.length + 21 * i + (spotsC Y).length) = spotsC (X.drop (i + Y.length)) ++ (floC F ++ fr.post) := by
    rw [hy, show fr.pre.length + 21 * i + 21 * Y.length = fr.pre.length + 21 * (i + Y.length) from by omega, List.drop_length_add_append, List.drop_append_of_le_length (by omega), spotsC_drop]
  unfold splice
  rw [e1, e2, spotsC_append, spotsC_append]
  simp only [List.append_assoc]
theorem cellsS_setFlo (fr : Fr) (X : List (Option KD)) (F : List KD) (i : Nat) (v : Int) (hx : X.length = 4) (hi : i < F.length) :
    (cellsS fr X F).set (fr.pre.length + 84 + i) (.int .i64 v) = cellsS fr X (F.set i ([v], [])) := by
  have hl := spotsC_length X
  unfold cellsS
  rw [List.set_append_right (h := by omega), show fr.pre.length + 84 + i - fr.pre.length = 84 + i from by omega, List.set_append_right (h := by omega), hl, hx, show 84 + i - 21 * 4 = i from by omega, List.set_append_left (h := by rw [floC_length]; exact hi), floC_set]

theorem run_store_splice {P : Program} (w : World) (g o : Nat) (ty t : TypeId) (cur cs : List Value) (hg : w.heap[g]? = some (.cells cur.toArray t (0, 0))) (hfit : o + cs.length ≤ cur.length) (h1 : ∀ v ∈ cs, v.oneCell' = true)
    (hi : (P.info? ty).map (·.size) = some cs.length) : (Instr.storeAt ty (.pointer (some ⟨g, o, none⟩)) (.agg cs.toArray)).run P w = .ok () (w.setRow g (splice cur o cs).toArray) := by
  have hst := run_storeCells_at P g o t cs 0 cur.toArray w hg (by simpa using hfit) h1
  cases hq : P.info? ty with
  | none => simp [hq] at hi
  | some i =>
    have hs : i.size = cs.length := by simpa [hq] using hi
    simp [Instr.storeAt, Instr.sureAddr, storeVar, sizeOf, typeInfo, hq, Value.cells, hs, hst, splice]
theorem only_setRow (w : World) (g : Nat) (cs : Array Value) : Only (fun k => k = g) w (w.setRow g cs) := ⟨rfl, rfl, rfl, by simp [World.setRow], fun k _ hn => setRow_other w g k cs hn⟩
theorem shAt_setSpots {w : World} {g : Nat} {fr : Fr} {X : List (Option KD)} {F : List KD} (h : ShAt w g fr X F) (i : Nat) (Y : List (Option KD)) (hi : i + Y.length ≤ 4) :
    ShAt (w.setRow g (splice (cellsS fr X F) (fr.pre.length + 21 * i) (spotsC Y)).toArray) g fr (splice X i Y) F :=
  ⟨by rw [length_splice _ _ _ (by rw [h.x4]; exact hi), h.x4], h.f24, by rw [setRow_heap w g _ _ fr.t _ h.row, splice_spots fr X Y F i (by rw [h.x4]; exact hi)]⟩
end Go.Proofs.YtfibdnhihnccaaaGreat
namespace Go.Proofs.YtfibdnhihnccaaaGreat
open Go.RowKit
attribute [local go_sem ↓] Go.wp_at_zero Go.wp_at_succ

theorem Tryz.infoX_spot : (Tryz.prog.info? 126).map (·.size) = some 21 := by kernel_rfl
/-- A spot out of memory (a name that the walk does not take apart). -/
def ldQ (v : Value) : Sem Value := Instr.loadAt 126 v
theorem ldQ_open (v : Value) : Instr.loadAt 126 v = ldQ v := rfl
theorem ldQ_row {W : World} {g o : Nat} {C : List Value} (h : W.rangeAt g o C) (hl : C.length = 21) : (ldQ (.pointer (some ⟨g, o, none⟩))).run Tryz.prog W = .ok (.agg C.toArray) W :=
  run_loadAt_mid W g o 126 C _ h Tryz.underlying126 rfl (by rw [Tryz.infoX_spot, hl])
theorem ldQ_at {W : World} {g : Nat} {fr : Fr} {X : List (Option KD)} {F : List KD} (h : ShAt W g fr X F) (i : Nat) (hi : i < 4) :
    (ldQ (.pointer (some ⟨g, fr.pre.length + i * 21, none⟩))).run Tryz.prog W = .ok (.agg (cellsP (X.getD i none)).toArray) W := by
  rw [Nat.mul_comm]
  exact ldQ_row (h.spot i hi) (cellsP_length _)
attribute [local go_sem ↓] ldQ_open

/-- Is it an item of that key? -/
def hasK (key : Int) : Option KD → Bool
  | none => false
  | some x => keyK x == key
theorem cellsP_head (x : Option KD) (key : Int) : ∃ f k, (cellsP x)[0]? = some (.bool f) ∧ (cellsP x)[1]? = some (.int .i64 k) ∧ hasK key x = (f && (k == key)) := by
  cases x with
  | none => exact ⟨false, 0, rfl, rfl, rfl⟩
  | some x => exact ⟨true, keyK x, rfl, rfl, by simp [hasK]⟩
theorem find1_any (x : Option KD) (key : Int) (B : Nat) (w : World) (hc : w.cell? ⟨B, 0, none⟩ = some (.int .i64 key)) :
    Calls Tryz.prog 145 #[.agg (cellsP x).toArray, .pointer (some ⟨B, 0, none⟩)] w fun e w' => e = .returned (.bool (hasK key x)) ∧ Below w.heap.size w w' := by
  have hB := World.block_lt_of_cell? _ _ hc
  have hne : w.heap.size ≠ B := by simp only at hB; omega
  obtain ⟨f, k, h0, h1, hh⟩ := cellsP_head x key
  rw [hh]
  clear hh
  generalize cellsP x = C at h0 h1 ⊢
  have hg := heap_alloc_new w (.cells C.toArray 126)
  have c0 : (w.alloc (.cells C.toArray 126)).cell? ⟨w.heap.size, 0, none⟩ = some (.bool f) := by rw [cell_of_row _ _ 0 _ _ _ hg]; simpa using h0
  have c1 : (w.alloc (.cells C.toArray 126)).cell? ⟨w.heap.size, 1, none⟩ = some (.int .i64 k) := by rw [cell_of_row _ _ 1 _ _ _ hg]; simpa using h1
  have c2 : (w.alloc (.cells C.toArray 126)).cell? ⟨B, 0, none⟩ = some (.int .i64 key) := by rw [World.cell?_alloc_lt _ _ _ hB]; exact hc
  have bb : Below w.heap.size w (w.alloc (.cells C.toArray 126)) := by go_grown
  clear hg h0 h1
  cases f with
  | false =>
    go_enter Tryz.func145, Tryz.ntmps145
    go_wp2_with fail
    go_ret
    exact ⟨by simp, bb⟩
  | true =>
    go_enter Tryz.func145, Tryz.ntmps145
    go_wp2_with fail
    go_ret
    exact ⟨by simp, bb⟩
/-- Where the first item of a key stands. -/
def FoundX (key : Int) (X : List (Option KD)) (k : Nat) : Prop := k < 4 ∧ hasK key (X.getD k none) = true ∧ ∀ j, j < k → hasK key (X.getD j none) = false
def NoneX (key : Int) (X : List (Option KD)) (k : Nat) : Prop := ∀ j, j < k → hasK key (X.getD j none) = false
theorem NoneX.more {key : Int} {X : List (Option KD)} {k : Nat} (h : NoneX key X k) (hk : hasK key (X.getD k none) = false) : NoneX key X (k + 1) := by
  intro j hj
  by_cases e : j = k
  · rw [e]; exact hk
  · exact h j (by omega)
def EndX (key : Int) (X : List (Option KD)) (e : Ending) : Prop := (∃ k : Nat, e = .returned (.int .i64 k) ∧ FoundX key X k) ∨ (e = .returned (.int .i64 (-1)) ∧ NoneX key X 4)
set_option maxRecDepth 100000 in
set_option maxHeartbeats 2000000 in
theorem indexX_any (g : Nat) (fr : Fr) (X : List (Option KD)) (F : List KD) (key : Int) (B : Nat) (w : World) (h : ShAt w g fr X F) (hc : w.cell? ⟨B, 0, none⟩ = some (.int .i64 key)) :
    Calls Tryz.prog 144 #[.slice (some ⟨g, fr.pre.length, none⟩) 4 4, .func (.func 145) #[] #[.pointer (some ⟨B, 0, none⟩)]] w fun e w' => EndX key X e ∧ Below w.heap.size w w' := by
  have HS := hid h
  clear h
  have hB := World.block_lt_of_cell? _ _ hc
  go_enter Tryz.func144, Tryz.ntmps144
  go_wp2
  go_loopw [8] (fun i wr => ∃ k : Nat, k ≤ 4 ∧ i = .int .i64 k ∧ Hid (NoneX key X k) ∧ Below w.heap.size w wr) (fun i _ => 4 - (intOf i).toNat)
  case atStart => exact ⟨0, Nat.zero_le _, rfl, hid (fun j hj => absurd hj (Nat.not_lt_zero j)), Below.refl _ _⟩
  case round =>
    obtain ⟨k, hk, rfl, hpre, hbel⟩ := hrel
    by_cases hlt : k < 4
    · have hki : (k : Int) < 4 := by omega
      have hld := ldQ_at (HS.out.later hbel) k hlt
      have hc2 := (hbel.cell hB).trans hc
      have hsz := hbel.size
      have HM : Hid (hasK key (X.getD k none) = false → NoneX key X (k + 1)) := hid hpre.out.more
      have HT : Hid (hasK key (X.getD k none) = true → FoundX key X k) := hid (fun hv => ⟨hlt, hv, hpre.out⟩)
      generalize X.getD k none = x at *
      go_wp2_with fail
      refine (find1_any _ key B _ hc2).mono ?_
      rintro e w2 ⟨rfl, b2⟩
      have b3 := hbel.trans (b2.mono hsz)
      cases hv : hasK key x with
      | false =>
        have hN := hid (HM.out hv)
        go_wp2_with fail
        go_roundw
        case rel => exact ⟨k + 1, by omega, by go_num, hN, b3⟩
        case measure => simp [intOf]; omega
      | true =>
        have hN := hid (HT.out hv)
        go_wp2_with fail
        go_ret
        exact ⟨Or.inl ⟨k, by simp, hN.out⟩, b3⟩
    · have hki : ¬ (k : Int) < 4 := by omega
      have hall : Hid (NoneX key X 4) := hid (fun j hj => hpre.out j (by omega))
      go_wp2
      go_ret
      exact ⟨Or.inr ⟨by simp, hall.out⟩, hbel⟩
/-- What find answers. -/
def EndF (key : Int) (X : List (Option KD)) (e : Ending) : Prop := (∃ k : Nat, e = .returned (.tuple #[.int .i64 k, .bool true]) ∧ FoundX key X k) ∨ (e = .returned (.tuple #[.int .i64 (-1), .bool false]) ∧ NoneX key X 4)
set_option maxRecDepth 100000 in
set_option maxHeartbeats 2000000 in
theorem findX_any (g : Nat) (fr : Fr) (X : List (Option KD)) (F : List KD) (key : Int) (w : World) (h : ShAt w g fr X F) :
    Calls Tryz.prog 137 #[.pointer (some ⟨g, fr.pre.length, none⟩), .int .i64 key] w fun e w' => EndF key X e ∧ Below w.heap.size w w' := by
  have HS := hid h
  clear h
  go_enter Tryz.func137, Tryz.ntmps137
  go_wp2_with fail
  have bb : Below w.heap.size w (w.alloc (.cells #[.int .i64 key] 3)) := by go_grown
  refine (indexX_any g fr X F key w.heap.size _ (HS.out.later bb) (by go_cell)).mono ?_
  rintro e w2 ⟨he, b2⟩
  have b3 := bb.trans (b2.mono (by simp))
  clear b2
  rcases he with ⟨k, rfl, hf⟩ | ⟨rfl, hn⟩
  · have hk : decide ((k : Int) ≥ 0) = true := by simp
    have HF := hid hf
    clear hf
    go_wp2_with fail
    go_ret2
    exact ⟨Or.inl ⟨k, by simp, HF.out⟩, b3⟩
  · have HN := hid hn
    clear hn
    go_wp2_with fail
    go_ret2
    exact ⟨Or.inr ⟨by simp, HN.out⟩, b3⟩
end Go.Proofs.YtfibdnhihnccaaaGreat

/- Part: (*impl.shelf).drop, impl.spotOf: contracts; copies whose source may be nil. -/
namespace Go.Proofs.YtfibdnhihnccaaaGreat
open Go.RowKit
attribute [local go_sem ↓] Go.wp_at_zero Go.wp_at_succ

/-- Without the first item of a key; what is empty comes behind. -/
def dropX (key : Int) (X : List (Option KD)) : List (Option KD) := if X.any (hasK key) then X.eraseP (hasK key) ++ [none] else X
theorem eraseP_first {α : Type} {p : α → Bool} (d : α) : ∀ (X : List α) (k : Nat), (∀ j, j < k → p (X.getD j d) = false) → k < X.length → p (X.getD k d) = true → X.eraseP p = X.take k ++ X.drop (k + 1)
  | [], _, _, h, _ => absurd h (Nat.not_lt_zero _)
  | x :: r, 0, _, _, h => by
    rw [List.getD_cons_zero] at h
    rw [List.eraseP_cons_of_pos h]; rfl
  | x :: r, k + 1, hp, hl, h => by
    have h0 := hp 0 (by omega)
    rw [List.getD_cons_zero] at h0
    rw [List.eraseP_cons_of_neg (by rw [h0]; simp), List.take_succ_cons, List.drop_succ_cons, List.cons_append, eraseP_first d r k (fun j hj => by simpa using hp (j + 1) (by omega)) (by simpa using hl) (by simpa using h)]
theorem dropX_found {key : Int} {X : List (Option KD)} {k : Nat} (h : FoundX key X k) (h4 : X.length = 4) : dropX key X = X.take k ++ X.drop (k + 1) ++ [none] := by
  have hk : k < X.length := by rw [h4]; exact h.1
  have ha : X.any (hasK key) = true := by
    rw [List.any_eq_true]
    refine ⟨X[k], List.getElem_mem hk, ?_⟩
    have := h.2.1
    simpa [hk] using this
  rw [dropX, if_pos ha, eraseP_first none X k h.2.2 hk h.2.1]
theorem dropX_none {key : Int} {X : List (Option KD)} (h : NoneX key X 4) (h4 : X.length = 4) : dropX key X = X := by
  rw [dropX, if_neg]
  rw [List.any_eq_true]
  rintro ⟨x, hx, hp⟩
  obtain ⟨i, hi, rfl⟩ := List.getElem_of_mem hx
  have := h i (by omega)
  simp [hi] at this
  rw [this] at hp
  cases hp
theorem dropX_length {key : Int} {X : List (Option KD)} (h4 : X.length = 4) : (dropX key X).length = 4 := by
  unfold dropX
  split
  · rename_i h
    rw [List.any_eq_true] at h
    obtain ⟨x, hx, hp⟩ := h
    rw [List.length_append, List.length_eraseP_of_mem hx hp, h4]; rfl
  · exact h4
theorem splice_drop {X : List (Option KD)} {k : Nat} (hk : k < 4) (h4 : X.length = 4) : splice (splice X k (X.drop (k + 1))) 3 [none] = X.take k ++ X.drop (k + 1) ++ [none] := by
  match X, h4 with
  | [a, b, c, d], _ =>
    obtain rfl | rfl | rfl | rfl : k = 0 ∨ k = 1 ∨ k = 2 ∨ k = 3 := by omega
    all_goals rfl

theorem Tryz.infoX_spot2 : ∃ i, Tryz.prog.info? 126 = some i ∧ i.size = 21 := by
  cases hq : Tryz.prog.info? 126 with
  | none => have := Tryz.infoX_spot; rw [hq] at this; cases this
  | some i => exact ⟨i, rfl, by have := Tryz.infoX_spot; rw [hq] at this; simpa using this⟩
def stQ (p v : Value) : Sem Unit := Instr.storeAt 126 p v
theorem stQ_open (p v : Value) : Instr.storeAt 126 p v = stQ p v := rfl
theorem stQ_at {W : World} {g : Nat} {fr : Fr} {X : List (Option KD)} {F : List KD} (h : ShAt W g fr X F) (i : Nat) (hi : i < 4) (x : Option KD) :
    ∃ W', (stQ (.pointer (some ⟨g, fr.pre.length + 21 * i, none⟩)) (.agg (cellsP x).toArray)).run Tryz.prog W = .ok () W' ∧ ShAt W' g fr (splice X i [x]) F ∧ Only (fun k => k = g) W W' := by
  have e : cellsP x = spotsC [x] := by simp [spotsC]
  refine ⟨W.setRow g (splice (cellsS fr X F) (fr.pre.length + 21 * i) (spotsC [x])).toArray, ?_, ?_, only_setRow _ _ _⟩
  · rw [e]
    exact run_store_splice W g _ _ fr.t _ _ h.row (by rw [cellsS_length, spotsC_length, h.x4, h.f24, List.length_singleton]; omega) (spotsC_one _) (by rw [Tryz.infoX_spot, spotsC_length]; rfl)
  · exact shAt_setSpots h i [x] (by simp; omega)
theorem Tryz.zeroX_spot : (Tryz.prog.info? 126).map (fun i => i.zero) = some (some (.agg (cellsP none).toArray)) := by kernel_rfl
theorem zeroX (w : World) : (zeroValue 126).run Tryz.prog w = .ok (.agg (cellsP none).toArray) w := by
  cases hq : Tryz.prog.info? 126 with
  | none => have := Tryz.zeroX_spot; rw [hq] at this; cases this
  | some i =>
    have hz : i.zero = some (.agg (cellsP none).toArray) := by have := Tryz.zeroX_spot; rw [hq] at this; simpa using this
    simp [zeroValue, typeInfo, hq, hz]
attribute [local go_sem ↓] ldQ_open stQ_open zeroX
theorem spots_src {w : World} {g : Nat} {fr : Fr} {X : List (Option KD)} {F : List KD} (h : ShAt w g fr X F) (i : Nat) (hi : i ≤ 4) (Y : List (Option KD)) (hY : ∃ Z, X.drop i = Y ++ Z) (o : Nat) (ho : o = fr.pre.length + 21 * i) :
    ∀ j v, (spotsC Y)[j]? = some v → w.cell? ((⟨g, o, none⟩ : Addr).add j) = some v := by
  subst ho
  obtain ⟨Z, hz⟩ := hY
  intro j v hv
  have := h.spots i hi
  rw [hz, spotsC_append] at this
  rw [Addr.add_mid]
  exact rangeAt_prefix this j v hv
theorem drop_copied {w w' : World} {g : Nat} {fr : Fr} {X : List (Option KD)} {F : List KD} (h : ShAt w g fr X F) (k : Nat) (hk : k < 4) (o : Nat) (ho : o = fr.pre.length + 21 * k)
    (hg : w'.heap[g]? = some (.cells (splice (cellsS fr X F) o (spotsC (X.drop (k + 1)))).toArray fr.t (0, 0))) : ShAt w' g fr (splice X k (X.drop (k + 1))) F := by
  subst ho
  have hl : k + (X.drop (k + 1)).length ≤ X.length := by rw [List.length_drop, h.x4]; omega
  exact ⟨by rw [length_splice _ _ _ hl, h.x4], h.f24, by rw [hg, splice_spots fr X _ F k hl]⟩
theorem drop_only {w w2 w3 : World} {g : Nat} (hb : Below w.heap.size w w2) (hB : Below g w2 w3) (hg : ∀ k, k ≠ g → w3.heap[k]? = w2.drew.heap[k]?) : Only (fun k => k = g) w w3 :=
  (Only.later hb).trans ⟨hB.os, hB.tape, hB.output, hB.size, fun k _ hn => hg k hn⟩
theorem drop_end {w : World} {g : Nat} {fr : Fr} {X : List (Option KD)} {F : List KD} {key : Int} {k : Nat} (hf : FoundX key X k) (h4 : X.length = 4) (h : ShAt w g fr (splice (splice X k (X.drop (k + 1))) 3 [none]) F) : ShAt w g fr (dropX key X) F := by
  rw [dropX_found hf h4, ← splice_drop hf.1 h4]
  exact h
set_option maxRecDepth 100000 in
set_option maxHeartbeats 2000000 in
theorem dropX_any (g : Nat) (fr : Fr) (X : List (Option KD)) (F : List KD) (key : Int) (w : World) (h : ShAt w g fr X F) :
    Calls Tryz.prog 125 #[.pointer (some ⟨g, fr.pre.length, none⟩), .int .i64 key] w fun e w' => e = .returned (.tuple #[]) ∧ ShAt w' g fr (dropX key X) F ∧ Only (fun k => k = g) w w' := by
  have HS := hid h
  clear h
  obtain ⟨i0, hi0, hz0⟩ := Tryz.infoX_spot2
  have HI := hid hi0
  have HZ := hid hz0
  clear hi0 hz0
  go_enter Tryz.func125, Tryz.ntmps125
  go_wp2_with fail
  refine (findX_any g fr X F key _ HS.out).mono ?_
  rintro e w2 ⟨he, b2⟩
  rcases he with ⟨k, rfl, hf⟩ | ⟨rfl, hn⟩
  · have HF := hid hf
    have HB := hid b2
    have HS2 := hid (HS.out.later b2)
    clear b2 hf
    obtain rfl | rfl | rfl | rfl : k = 0 ∨ k = 1 ∨ k = 2 ∨ k = 3 := by have := HF.out.1; omega
    · have hw1 : IntKind.i64.wrap 1 = 1 := by decide
      go_wp2_with fail
      go_region_law (refine step_copyS rfl _ _ 199 199 rfl 126 i0 Tryz.underlying199 HI.out g (fr.pre.length) 4 4 ⟨g, fr.pre.length + 21, none⟩ 3 3 (by simp [Act.eval, Act.put]) (by simp [Act.eval, Act.put]) _ fr.t HS2.out.row (spotsC (X.drop 1)) (by rw [HZ.out, spotsC_length, List.length_drop, HS2.out.x4]; decide) (spots_src HS2.out.drew 1 (by omega) _ ⟨[], by simp⟩ _ rfl) (by rw [cellsS_length, spotsC_length, List.length_drop, HS2.out.x4]; omega) (spotsC_one _) g w2 ((Below.refl _ _).drew) (Nat.le_refl _) ?_; intro w3 HG3 hB3 hg3)
      obtain ⟨w4, hst, h4, ho4⟩ := stQ_at (drop_copied HS2.out 0 (by omega) (fr.pre.length) rfl HG3.out) 3 (by omega) none
      have HO := hid ((drop_only HB.out hB3 hg3).trans ho4)
      have H4 := hid h4
      clear ho4 h4
      go_wp2_with fail
      go_end0
      exact ⟨rfl, drop_end HF.out HS.out.x4 H4.out, HO.out⟩
    · have hw1 : IntKind.i64.wrap 2 = 2 := by decide
      go_wp2_with fail
      go_region_law (refine step_copyS rfl _ _ 199 199 rfl 126 i0 Tryz.underlying199 HI.out g (fr.pre.length + 21) 3 3 ⟨g, fr.pre.length + 42, none⟩ 2 2 (by simp [Act.eval, Act.put]) (by simp [Act.eval, Act.put]) _ fr.t HS2.out.row (spotsC (X.drop 2)) (by rw [HZ.out, spotsC_length, List.length_drop, HS2.out.x4]; decide) (spots_src HS2.out.drew 2 (by omega) _ ⟨[], by simp⟩ _ rfl) (by rw [cellsS_length, spotsC_length, List.length_drop, HS2.out.x4]; omega) (spotsC_one _) g w2 ((Below.refl _ _).drew) (Nat.le_refl _) ?_; intro w3 HG3 hB3 hg3)
      obtain ⟨w4, hst, h4, ho4⟩ := stQ_at (drop_copied HS2.out 1 (by omega) (fr.pre.length + 21) rfl HG3.out) 3 (by omega) none
      have HO := hid ((drop_only HB.out hB3 hg3).trans ho4)
      have H4 := hid h4
      clear ho4 h4
      go_wp2_with fail
      go_end0
      exact ⟨rfl, drop_end HF.out HS.out.x4 H4.out, HO.out⟩
    · have hw1 : IntKind.i64.wrap 3 = 3 := by decide
      go_wp2_with fail
      go_region_law (refine step_copyS rfl _ _ 199 199 rfl 126 i0 Tryz.underlying199 HI.out g (fr.pre.length + 42) 2 2 ⟨g, fr.pre.length + 63, none⟩ 1 1 (by simp [Act.eval, Act.put]) (by simp [Act.eval, Act.put]) _ fr.t HS2.out.row (spotsC (X.drop 3)) (by rw [HZ.out, spotsC_length, List.length_drop, HS2.out.x4]; decide) (spots_src HS2.out.drew 3 (by omega) _ ⟨[], by simp⟩ _ rfl) (by rw [cellsS_length, spotsC_length, List.length_drop, HS2.out.x4]; omega) (spotsC_one _) g w2 ((Below.refl _ _).drew) (Nat.le_refl _) ?_; intro w3 HG3 hB3 hg3)
      obtain ⟨w4, hst, h4, ho4⟩ := stQ_at (drop_copied HS2.out 2 (by omega) (fr.pre.length + 42) rfl HG3.out) 3 (by omega) none
      have HO := hid ((drop_only HB.out hB3 hg3).trans ho4)
      have H4 := hid h4
      clear ho4 h4
      go_wp2_with fail
      go_end0
      exact ⟨rfl, drop_end HF.out HS.out.x4 H4.out, HO.out⟩
    · have hw1 : IntKind.i64.wrap 4 = 4 := by decide
      go_wp2_with fail
      go_region_law (refine step_copyS rfl _ _ 199 199 rfl 126 i0 Tryz.underlying199 HI.out g (fr.pre.length + 63) 1 1 ⟨g, fr.pre.length, none⟩ 0 0 (by simp [Act.eval, Act.put]) (by simp [Act.eval, Act.put]) _ fr.t HS2.out.row (spotsC (X.drop 4)) (by rw [HZ.out, spotsC_length, List.length_drop, HS2.out.x4]; decide) (by rw [List.drop_of_length_le (by rw [HS2.out.x4]; omega)]; intro j v hv; cases hv) (by rw [cellsS_length, spotsC_length, List.length_drop, HS2.out.x4]; omega) (spotsC_one _) g w2 ((Below.refl _ _).drew) (Nat.le_refl _) ?_; intro w3 HG3 hB3 hg3)
      obtain ⟨w4, hst, h4, ho4⟩ := stQ_at (drop_copied HS2.out 3 (by omega) (fr.pre.length + 63) rfl HG3.out) 3 (by omega) none
      have HO := hid ((drop_only HB.out hB3 hg3).trans ho4)
      have H4 := hid h4
      clear ho4 h4
      go_wp2_with fail
      go_end0
      exact ⟨rfl, drop_end HF.out HS.out.x4 H4.out, HO.out⟩
  · have HN := hid hn
    clear hn
    go_wp2_with fail
    go_end0
    exact ⟨rfl, by rw [dropX_none HN.out HS.out.x4]; exact HS.out.later b2, Only.later b2⟩
end Go.Proofs.YtfibdnhihnccaaaGreat
namespace Go.Proofs.YtfibdnhihnccaaaGreat
open Go.RowKit
attribute [local go_sem ↓] Go.wp_at_zero Go.wp_at_succ

theorem run_copy_noneS {P : Program} (w : World) (dT sT ty elem : TypeId) (i : TypeInfo) (d a : Option Addr) (dLen dCap sLen sCap : Nat) (hu : P.underlying dT = some (.slice elem)) (hi : P.info? elem = some i) (hn : Nat.min sLen dLen = 0) :
    (Builtin.copy_ #[dT, sT] ty #[.slice d dLen dCap, .slice a sLen sCap]).run P w = .ok (goInt 0) w := by
  have hl : ∀ (x : Addr), (loadCells x 0).run P w = .ok #[] w := fun x => by simpa using run_loadCells_list (P := P) w x [] (by simp)
  cases d <;> cases a <;> simp [Builtin.copy_, run_underlying hu, Builtin.lenOf, Builtin.firstCells, sizeOf, typeInfo, hi, hn, storeCells, hl]
/-- copy of elements of more than one cell, the source nil or not, as one step of a region that draws. -/
theorem step_copyX {P : Program} {ops : Array Oper} {o : Oper} {a : Act} {w : World} {K : Act → World → Prop} {Q : Exit → Act → World → Prop} {E : Prop} (hgd : o.guard = none) (d s : Operand) (dT sT : TypeId)
    (ho : o.op = .call { callee := .builtin .copy, args := #[d, s], argTypes := #[dT, sT] }) (elem : TypeId) (i : TypeInfo) (hu : P.underlying dT = some (.slice elem)) (hi : P.info? elem = some i)
    (g off dLen dCap : Nat) (sp : Option Addr) (sLen sCap : Nat) (hd : a.eval d = .slice (some ⟨g, off, none⟩) dLen dCap) (hs : a.eval s = .slice sp sLen sCap)
    (cur : List Value) (t : TypeId) (hg : w.heap[g]? = some (.cells cur.toArray t (0, 0))) (cs : List Value) (hn : cs.length = Nat.min sLen dLen * i.size)
    (hsrc : 0 < Nat.min sLen dLen → ∃ ad, sp = some ad ∧ ∀ j v, cs[j]? = some v → w.cell? (ad.add j) = some v) (hfit : off + cs.length ≤ cur.length) (h1 : ∀ v ∈ cs, v.oneCell' = true) (B : Nat) (w0 : World) (hb : Below B w0 w) (hBg : B ≤ g)
    (h : ∀ w', Hid (w'.heap[g]? = some (.cells (splice cur off cs).toArray t (0, 0))) → Below B w0 w' → (∀ k, k ≠ g → w'.heap[k]? = w.heap[k]?) → K (a.put o.dst (goInt (Nat.min sLen dLen))) w') :
    if Region.wanted o (yielded ops a.tmps) = true then Oper.wp P o a w K Q else E := by
  by_cases h0 : Nat.min sLen dLen = 0
  · have hw : Region.wanted o (yielded ops a.tmps) = true := by simp [Region.wanted, hgd]
    rw [if_pos hw]
    have hrun := run_copy_noneS (P := P) w dT sT o.type elem i (some ⟨g, off, none⟩) sp dLen dCap sLen sCap hu hi h0
    obtain rfl : cs = [] := List.eq_nil_of_length_eq_zero (by rw [hn, h0]; simp)
    have hk := h w (show _ = _ by simpa [splice] using hg) hb (fun _ _ => rfl)
    rw [h0] at hk
    unfold Oper.wp
    simp [execOp, ho, resolve, invoke, builtin, hd, hs, hrun, Result.andThen]
    exact hk
  · obtain ⟨ad, rfl, hsr⟩ := hsrc (by omega)
    exact step_copyS hgd d s dT sT ho elem i hu hi g off dLen dCap ad sLen sCap hd hs cur t hg cs hn hsr hfit h1 B w0 hb hBg h
theorem ecells_src {w : World} {b o : Nat} {l : List (Int × Int)} (h : ∀ i, i < l.length → w.cell? ⟨b, o + i * 2, none⟩ = some (.int .i64 (l.getD i (0, 0)).1) ∧ w.cell? ⟨b, o + i * 2 + 1, none⟩ = some (.int .i64 (l.getD i (0, 0)).2)) (m : Nat) :
    ∀ j u, (ecells (l.take m))[j]? = some u → w.cell? ((⟨b, o, none⟩ : Addr).add j) = some u := by
  intro j u hj
  have hl : j < (ecells (l.take m)).length := (List.getElem?_eq_some_iff.1 hj).1
  rw [ecells_length, List.length_take] at hl
  have hi : j / 2 < (l.take m).length := by rw [List.length_take]; omega
  have hil : j / 2 < l.length := by rw [List.length_take] at hi; omega
  have hg := ecells_get (l.take m) (j / 2) hi
  have hc := h (j / 2) hil
  have e : (l.take m).getD (j / 2) (0, 0) = l.getD (j / 2) (0, 0) := by
    rw [List.length_take] at hi
    simp only [List.getD_eq_getElem?_getD, List.getElem?_take]
    rw [if_pos (by omega)]
  rw [e] at hg
  rw [Addr.add_mid]
  rcases Nat.mod_two_eq_zero_or_one j with hm | hm
  · have hjj : j / 2 * 2 = j := by omega
    rw [hjj] at hg hc
    rw [hg.1] at hj
    cases hj
    exact hc.1
  · have hjj : j / 2 * 2 + 1 = j := by omega
    rw [hjj] at hg
    rw [show o + j / 2 * 2 + 1 = o + j from by omega] at hc
    rw [hg.2] at hj
    cases hj
    exact hc.2
/-- A spot ahead of its kin. -/
def spotM (p0 p1 p2 : Int) (m : Nat) : List Value := [.bool true, .int .i64 p0, .int .i64 p1, .int .i64 p2, .int .i64 0, .int .i64 0, .int .i64 0, .int .i64 0, .int .i64 0, .int .i64 0, .int .i64 0, .int .i64 0, .int .i64 0, .int .i64 0, .int .i64 0, .int .i64 0, .int .i64 0, .int .i64 0, .int .i64 0, .int .i64 0, .int .i64 m]
theorem spotM_kin (p0 p1 p2 : Int) (l : List (Int × Int)) : splice (spotM p0 p1 p2 l.length) 4 (ecells (l.take 8)) = spotC true p0 p1 p2 l := by
  match l with
  | [] => rfl
  | [_] => rfl
  | [_, _] => rfl
  | [_, _, _] => rfl
  | [_, _, _, _] => rfl
  | [_, _, _, _, _] => rfl
  | [_, _, _, _, _, _] => rfl
  | [_, _, _, _, _, _, _] => rfl
  | _ :: _ :: _ :: _ :: _ :: _ :: _ :: _ :: _ => rfl
theorem spotC_length (f : Bool) (p0 p1 p2 : Int) (l : List (Int × Int)) : (spotC f p0 p1 p2 l).length = 21 := rfl
theorem spotC_one (p0 p1 p2 : Int) (l : List (Int × Int)) : ∀ v ∈ spotC true p0 p1 p2 l, v.oneCell' = true := cellsP_one (some ([p0, p1, p2], l))
theorem rangeAt_whole {w : World} {g : Nat} {C : List Value} {t : TypeId} (h : w.heap[g]? = some (.cells C.toArray t (0, 0))) : w.rangeAt g 0 C := fun j v hv => by
  rw [Nat.zero_add, cell_of_row w g j _ _ _ h]
  simpa using hv
theorem spotM_one (p0 p1 p2 : Int) (m : Nat) : ∀ v ∈ spotM p0 p1 p2 m, v.oneCell' = true := by
  intro v hv
  simp only [spotM, List.mem_cons, List.not_mem_nil, or_false] at hv
  rcases hv with rfl | rfl | rfl | rfl | rfl | rfl | rfl | rfl | rfl | rfl | rfl | rfl | rfl | rfl | rfl | rfl | rfl | rfl | rfl | rfl | rfl <;> rfl
theorem spot_src {w w4 : World} {ao : Option Addr} {l : List (Int × Int)} (h : 0 < l.length → ∃ b off, ao = some ⟨b, off, none⟩ ∧ b < w.heap.size ∧
      ∀ i, i < l.length → w.cell? ⟨b, off + i * 2, none⟩ = some (.int .i64 (l.getD i (0, 0)).1) ∧ w.cell? ⟨b, off + i * 2 + 1, none⟩ = some (.int .i64 (l.getD i (0, 0)).2)) (hb : Below w.heap.size w w4) (h0 : 0 < Nat.min l.length 8) :
    ∃ ad, ao = some ad ∧ ∀ j v, (ecells (l.take 8))[j]? = some v → w4.drew.cell? (ad.add j) = some v := by
  have hl : 0 < l.length := Nat.pos_of_ne_zero (fun e => by rw [e] at h0; exact absurd h0 (by decide))
  obtain ⟨b, off, rfl, hlt, hc⟩ := h hl
  exact ⟨_, rfl, ecells_src (w := w4.drew) (fun i hi => by
    obtain ⟨c0, c1⟩ := hc i hi
    exact ⟨by simpa using (hb.cell (p := ⟨b, off + i * 2, none⟩) hlt).trans c0, by simpa using (hb.cell (p := ⟨b, off + i * 2 + 1, none⟩) hlt).trans c1⟩) 8⟩
theorem stQ_new (W : World) (Z M : List Value) (hZ : Z.length = 21) (hM : M.length = 21) (h1 : ∀ v ∈ M, v.oneCell' = true) (g : Nat) (hg : W.heap[g]? = some (.cells Z.toArray 126 (0, 0))) :
    ∃ W', (stQ (.pointer (some ⟨g, 0, none⟩)) (.agg M.toArray)).run Tryz.prog W = .ok () W' ∧ W'.heap[g]? = some (.cells M.toArray 126 (0, 0)) ∧ Only (fun k => k = g) W W' ∧ W'.heap.size = W.heap.size := by
  have e : splice Z 0 M = M := by simp [splice, hZ, hM]
  refine ⟨W.setRow g (splice Z 0 M).toArray, run_store_splice W g 0 _ 126 Z M hg (by omega) h1 (by rw [Tryz.infoX_spot, hM]), ?_, only_setRow _ _ _, by simp [World.setRow]⟩
  rw [setRow_heap W g _ _ 126 _ hg, e]
theorem zeroXe (w : World) : (zeroValue 126).run Tryz.prog w = .ok (.agg #[.bool false, .int .i64 0, .int .i64 0, .int .i64 0, .int .i64 0, .int .i64 0, .int .i64 0, .int .i64 0, .int .i64 0, .int .i64 0, .int .i64 0, .int .i64 0, .int .i64 0, .int .i64 0, .int .i64 0, .int .i64 0, .int .i64 0, .int .i64 0, .int .i64 0, .int .i64 0, .int .i64 0]) w := zeroX w
attribute [local go_sem ↓] ldQ_open stQ_open zeroXe
theorem Tryz.infoX_edge : ∃ i, Tryz.prog.info? 123 = some i ∧ i.size = 2 := by
  obtain ⟨i0, hi, _, hz1, _⟩ := info_parts Tryz.info123
  exact ⟨i0, hi, hz1⟩
set_option maxRecDepth 100000 in
set_option maxHeartbeats 2000000 in
theorem spotOf_any (p0 p1 p2 : Int) (v : Value) (l : List (Int × Int)) (w : World) (h : Rd w v l) :
    Calls Tryz.prog 100 #[.agg #[.int .i64 p0, .int .i64 p1, .int .i64 p2, v]] w fun e w' => e = .returned (.agg (spotC true p0 p1 p2 l).toArray) ∧ Below w.heap.size w w' := by
  have HR := hid h
  obtain ⟨ao, cap, rfl, hml, hcc⟩ := h
  obtain ⟨i0, hi0, hz0⟩ := Tryz.infoX_edge
  have HI := hid hi0
  have HZ := hid hz0
  have HC := hid hcc
  clear hi0 hz0 hcc
  have b3 : Below w.heap.size w (((w.alloc (.cells #[.int .i64 p0, .int .i64 p1, .int .i64 p2, .slice ao l.length cap] 68)).alloc (.cells #[.bool false, .int .i64 0, .int .i64 0, .int .i64 0, .int .i64 0, .int .i64 0, .int .i64 0, .int .i64 0, .int .i64 0, .int .i64 0, .int .i64 0, .int .i64 0, .int .i64 0, .int .i64 0, .int .i64 0, .int .i64 0, .int .i64 0, .int .i64 0, .int .i64 0, .int .i64 0, .int .i64 0] 126)).alloc (.cells #[.bool false, .int .i64 0, .int .i64 0, .int .i64 0, .int .i64 0, .int .i64 0, .int .i64 0, .int .i64 0, .int .i64 0, .int .i64 0, .int .i64 0, .int .i64 0, .int .i64 0, .int .i64 0, .int .i64 0, .int .i64 0, .int .i64 0, .int .i64 0, .int .i64 0, .int .i64 0, .int .i64 0] 126)) := by go_grown
  have g2 : (((w.alloc (.cells #[.int .i64 p0, .int .i64 p1, .int .i64 p2, .slice ao l.length cap] 68)).alloc (.cells #[.bool false, .int .i64 0, .int .i64 0, .int .i64 0, .int .i64 0, .int .i64 0, .int .i64 0, .int .i64 0, .int .i64 0, .int .i64 0, .int .i64 0, .int .i64 0, .int .i64 0, .int .i64 0, .int .i64 0, .int .i64 0, .int .i64 0, .int .i64 0, .int .i64 0, .int .i64 0, .int .i64 0] 126)).alloc (.cells #[.bool false, .int .i64 0, .int .i64 0, .int .i64 0, .int .i64 0, .int .i64 0, .int .i64 0, .int .i64 0, .int .i64 0, .int .i64 0, .int .i64 0, .int .i64 0, .int .i64 0, .int .i64 0, .int .i64 0, .int .i64 0, .int .i64 0, .int .i64 0, .int .i64 0, .int .i64 0, .int .i64 0] 126)).heap[w.heap.size + 1 + 1]? = some (.cells (cellsP none).toArray 126 (0, 0)) := by
    have := heap_alloc_new ((w.alloc (.cells #[.int .i64 p0, .int .i64 p1, .int .i64 p2, .slice ao l.length cap] 68)).alloc (.cells #[.bool false, .int .i64 0, .int .i64 0, .int .i64 0, .int .i64 0, .int .i64 0, .int .i64 0, .int .i64 0, .int .i64 0, .int .i64 0, .int .i64 0, .int .i64 0, .int .i64 0, .int .i64 0, .int .i64 0, .int .i64 0, .int .i64 0, .int .i64 0, .int .i64 0, .int .i64 0, .int .i64 0] 126)) (.cells #[.bool false, .int .i64 0, .int .i64 0, .int .i64 0, .int .i64 0, .int .i64 0, .int .i64 0, .int .i64 0, .int .i64 0, .int .i64 0, .int .i64 0, .int .i64 0, .int .i64 0, .int .i64 0, .int .i64 0, .int .i64 0, .int .i64 0, .int .i64 0, .int .i64 0, .int .i64 0, .int .i64 0] 126)
    have e : ((w.alloc (.cells #[.int .i64 p0, .int .i64 p1, .int .i64 p2, .slice ao l.length cap] 68)).alloc (.cells #[.bool false, .int .i64 0, .int .i64 0, .int .i64 0, .int .i64 0, .int .i64 0, .int .i64 0, .int .i64 0, .int .i64 0, .int .i64 0, .int .i64 0, .int .i64 0, .int .i64 0, .int .i64 0, .int .i64 0, .int .i64 0, .int .i64 0, .int .i64 0, .int .i64 0, .int .i64 0, .int .i64 0] 126)).heap.size = w.heap.size + 1 + 1 := by simp
    rw [e] at this
    exact this
  have g1 : (((w.alloc (.cells #[.int .i64 p0, .int .i64 p1, .int .i64 p2, .slice ao l.length cap] 68)).alloc (.cells #[.bool false, .int .i64 0, .int .i64 0, .int .i64 0, .int .i64 0, .int .i64 0, .int .i64 0, .int .i64 0, .int .i64 0, .int .i64 0, .int .i64 0, .int .i64 0, .int .i64 0, .int .i64 0, .int .i64 0, .int .i64 0, .int .i64 0, .int .i64 0, .int .i64 0, .int .i64 0, .int .i64 0] 126)).alloc (.cells #[.bool false, .int .i64 0, .int .i64 0, .int .i64 0, .int .i64 0, .int .i64 0, .int .i64 0, .int .i64 0, .int .i64 0, .int .i64 0, .int .i64 0, .int .i64 0, .int .i64 0, .int .i64 0, .int .i64 0, .int .i64 0, .int .i64 0, .int .i64 0, .int .i64 0, .int .i64 0, .int .i64 0] 126)).heap[w.heap.size + 1]? = some (.cells (cellsP none).toArray 126 (0, 0)) := by
    have := heap_alloc_new (w.alloc (.cells #[.int .i64 p0, .int .i64 p1, .int .i64 p2, .slice ao l.length cap] 68)) (.cells #[.bool false, .int .i64 0, .int .i64 0, .int .i64 0, .int .i64 0, .int .i64 0, .int .i64 0, .int .i64 0, .int .i64 0, .int .i64 0, .int .i64 0, .int .i64 0, .int .i64 0, .int .i64 0, .int .i64 0, .int .i64 0, .int .i64 0, .int .i64 0, .int .i64 0, .int .i64 0, .int .i64 0] 126)
    have e : (w.alloc (.cells #[.int .i64 p0, .int .i64 p1, .int .i64 p2, .slice ao l.length cap] 68)).heap.size = w.heap.size + 1 := by simp
    rw [e] at this
    rw [Below.heap_alloc _ _ _ (by simp)]
    exact this
  have c3 : (((w.alloc (.cells #[.int .i64 p0, .int .i64 p1, .int .i64 p2, .slice ao l.length cap] 68)).alloc (.cells #[.bool false, .int .i64 0, .int .i64 0, .int .i64 0, .int .i64 0, .int .i64 0, .int .i64 0, .int .i64 0, .int .i64 0, .int .i64 0, .int .i64 0, .int .i64 0, .int .i64 0, .int .i64 0, .int .i64 0, .int .i64 0, .int .i64 0, .int .i64 0, .int .i64 0, .int .i64 0, .int .i64 0] 126)).alloc (.cells #[.bool false, .int .i64 0, .int .i64 0, .int .i64 0, .int .i64 0, .int .i64 0, .int .i64 0, .int .i64 0, .int .i64 0, .int .i64 0, .int .i64 0, .int .i64 0, .int .i64 0, .int .i64 0, .int .i64 0, .int .i64 0, .int .i64 0, .int .i64 0, .int .i64 0, .int .i64 0, .int .i64 0] 126)).cell? ⟨w.heap.size, 3, none⟩ = some (.slice ao l.length cap) := by go_cell
  have s3 : (((w.alloc (.cells #[.int .i64 p0, .int .i64 p1, .int .i64 p2, .slice ao l.length cap] 68)).alloc (.cells #[.bool false, .int .i64 0, .int .i64 0, .int .i64 0, .int .i64 0, .int .i64 0, .int .i64 0, .int .i64 0, .int .i64 0, .int .i64 0, .int .i64 0, .int .i64 0, .int .i64 0, .int .i64 0, .int .i64 0, .int .i64 0, .int .i64 0, .int .i64 0, .int .i64 0, .int .i64 0, .int .i64 0] 126)).alloc (.cells #[.bool false, .int .i64 0, .int .i64 0, .int .i64 0, .int .i64 0, .int .i64 0, .int .i64 0, .int .i64 0, .int .i64 0, .int .i64 0, .int .i64 0, .int .i64 0, .int .i64 0, .int .i64 0, .int .i64 0, .int .i64 0, .int .i64 0, .int .i64 0, .int .i64 0, .int .i64 0, .int .i64 0] 126)).heap.size = w.heap.size + 3 := by simp
  obtain ⟨w4, hst, r2, o4, s4⟩ := stQ_new _ (cellsP none) (spotM p0 p1 p2 l.length) (cellsP_length _) rfl (fun v hv => spotM_one p0 p1 p2 l.length v hv) _ g2
  have hst' : (stQ (.pointer (some ⟨w.heap.size + 1 + 1, 0, none⟩)) (.agg #[.bool true, .int .i64 p0, .int .i64 p1, .int .i64 p2, .int .i64 0, .int .i64 0, .int .i64 0, .int .i64 0, .int .i64 0, .int .i64 0, .int .i64 0, .int .i64 0, .int .i64 0, .int .i64 0, .int .i64 0, .int .i64 0, .int .i64 0, .int .i64 0, .int .i64 0, .int .i64 0, .int .i64 l.length])).run Tryz.prog (((w.alloc (.cells #[.int .i64 p0, .int .i64 p1, .int .i64 p2, .slice ao l.length cap] 68)).alloc (.cells #[.bool false, .int .i64 0, .int .i64 0, .int .i64 0, .int .i64 0, .int .i64 0, .int .i64 0, .int .i64 0, .int .i64 0, .int .i64 0, .int .i64 0, .int .i64 0, .int .i64 0, .int .i64 0, .int .i64 0, .int .i64 0, .int .i64 0, .int .i64 0, .int .i64 0, .int .i64 0, .int .i64 0] 126)).alloc (.cells #[.bool false, .int .i64 0, .int .i64 0, .int .i64 0, .int .i64 0, .int .i64 0, .int .i64 0, .int .i64 0, .int .i64 0, .int .i64 0, .int .i64 0, .int .i64 0, .int .i64 0, .int .i64 0, .int .i64 0, .int .i64 0, .int .i64 0, .int .i64 0, .int .i64 0, .int .i64 0, .int .i64 0] 126)) = .ok () w4 := hst
  clear hst
  have b4 : Below w.heap.size w w4 := b3.trans (o4.below (fun k hk => by omega) (by rw [s3]; omega))
  have R1 : Hid (w4.heap[w.heap.size + 1]? = some (.cells (cellsP none).toArray 126 (0, 0))) := hid ((o4.block _ (by rw [s3]; omega) (by omega)).trans g1)
  have c4 : w4.cell? ⟨w.heap.size, 3, none⟩ = some (.slice ao l.length cap) := (World.cell?_of_block (a := ⟨w.heap.size, 3, none⟩) (o4.block _ (by rw [s3]; show w.heap.size < _; omega) (by show ¬ w.heap.size = _; omega))).trans c3
  have R2 := hid r2
  have S4 : Hid (w4.heap.size = w.heap.size + 3) := hid (s4.trans s3)
  have B4 := hid b4
  clear b3 g2 g1 c3 s3 r2 o4 s4 b4
  go_enter Tryz.func100, Tryz.ntmps100
  go_wp2_with fail
  clear hst'
  have c4d : w4.drew.cell? ⟨w.heap.size, 3, none⟩ = some (.slice ao l.length cap) := by simpa using c4
  go_region_law (refine step_copyX rfl _ _ 64 64 rfl 123 i0 Tryz.underlying64 HI.out (w.heap.size + 1 + 1) 4 8 8 ao l.length cap (by simp [Act.eval]) (by simp [Act.eval]) _ 126 R2.out (ecells (l.take 8)) (by rw [HZ.out, ecells_length, List.length_take, Nat.min_comm]) (fun h0 => spot_src HC.out B4.out h0) (by rw [ecells_length, List.length_take]; show 4 + min 8 l.length * 2 ≤ 21; omega) (ecells_one _) (w.heap.size) w (B4.out.drew) (by omega) ?_; intro w5 HG5 hB5 hg5)
  have G5 : Hid (w5.heap[w.heap.size + 1 + 1]? = some (.cells (spotC true p0 p1 p2 l).toArray 126 (0, 0))) := hid (by rw [← spotM_kin]; exact HG5.out)
  have R15 := (hg5 (w.heap.size + 1) (by omega)).trans R1.out
  have hld : (ldQ (.pointer (some ⟨w.heap.size + 1 + 1, 0, none⟩))).run Tryz.prog w5 = .ok (.agg (spotC true p0 p1 p2 l).toArray) w5 := ldQ_row (rangeAt_whole G5.out) rfl
  obtain ⟨w6, hst, r6, o6, s6⟩ := stQ_new w5 (cellsP none) (spotC true p0 p1 p2 l) (cellsP_length _) rfl (spotC_one p0 p1 p2 l) _ R15
  have R6 := hid r6
  have B6 : Hid (Below w.heap.size w w6) := hid (hB5.trans (o6.below (fun k hk => by omega) hB5.size))
  clear HG5 hg5 hB5 R15 r6 o6 s6 c4d c4 R1 R2 S4 B4 HC
  go_wp2_with fail
  exact bodyPost_ret (results_cell_row Tryz.results100 _ _ (w.heap.size + 1) 126 (spotC true p0 p1 p2 l).toArray (0, 0) _ rfl R6.out Tryz.underlying126 rfl (by rw [Tryz.infoX_spot]; rfl)) rfl ⟨rfl, B6.out⟩
end Go.Proofs.YtfibdnhihnccaaaGreat

/- Part: (*impl.shelf).put: contract. -/
namespace Go.Proofs.YtfibdnhihnccaaaGreat
open Go.RowKit
attribute [local go_sem ↓] Go.wp_at_zero Go.wp_at_succ ldQ_open stQ_open

/-- Does nothing bar an item? What is there behind it. -/
def putB (F : List KD) (k v n : Int) (l : List (Int × Int)) : Bool := itR k v n l && decide (flr F k.toNat ≤ v)
def putX (X : List (Option KD)) (k v n : Int) (l : List (Int × Int)) : List (Option KD) := some ([k, v, n], l) :: (dropX k X).take 3
def putF (F : List KD) (k v : Int) : List KD := F.set k.toNat ([v], [])
theorem itR_key {k v n : Int} {l : List (Int × Int)} (h : itR k v n l = true) : 0 ≤ k ∧ k < 24 := rightK_key (x := ([k, v, n], l)) h
theorem shAt_setFlo {w : World} {g : Nat} {fr : Fr} {X : List (Option KD)} {F : List KD} (h : ShAt w g fr X F) (i : Nat) (hi : i < 24) (v : Int) :
    ShAt (w.setCell ⟨g, fr.pre.length + 84 + i, none⟩ (.int .i64 v)) g fr X (F.set i ([v], [])) :=
  ⟨h.x4, by rw [List.length_set, h.f24], by rw [heap_setCell_same w g _ _ fr.t _ h.row, ← cellsS_setFlo fr X F i v h.x4 (by rw [h.f24]; exact hi)]; simp⟩
theorem Rd.only {w w' : World} {u : Value} {l : List (Int × Int)} {G : Nat → Prop} (h : Rd w u l) (ho : Only G w w') (hn : 0 < l.length → ∀ b, u.ownBlock = some b → ¬ G b) : Rd w' u l := by
  obtain ⟨ao, cap, rfl, hl, hc⟩ := h
  refine ⟨ao, cap, rfl, hl, fun h0 => ?_⟩
  obtain ⟨b, off, rfl, hb, hcc⟩ := hc h0
  have hg := ho.block b hb (hn h0 b rfl)
  refine ⟨b, off, rfl, Nat.lt_of_lt_of_le hb ho.size, fun i hi => ?_⟩
  obtain ⟨c0, c1⟩ := hcc i hi
  exact ⟨(World.cell?_of_block (a := ⟨b, off + i * 2, none⟩) hg).trans c0, (World.cell?_of_block (a := ⟨b, off + i * 2 + 1, none⟩) hg).trans c1⟩
theorem Rd.drew' {w : World} {u : Value} {l : List (Int × Int)} (h : Rd w u l) : Rd w.drew u l := by
  obtain ⟨ao, cap, hv, hl, hc⟩ := h
  exact ⟨ao, cap, hv, hl, fun h0 => by
    obtain ⟨b, off, ha, hb, hcc⟩ := hc h0
    exact ⟨b, off, ha, hb, fun i hi => by simpa using hcc i hi⟩⟩
theorem stQ_first {W : World} {g : Nat} {fr : Fr} {X : List (Option KD)} {F : List KD} (h : ShAt W g fr X F) (k v n : Int) (l : List (Int × Int)) :
    ∃ W', (stQ (.pointer (some ⟨g, fr.pre.length, none⟩)) (.agg (spotC true k v n l).toArray)).run Tryz.prog W = .ok () W' ∧ ShAt W' g fr (splice X 0 [some ([k, v, n], l)]) F ∧ Only (fun k => k = g) W W' := stQ_at h 0 (by omega) (some ([k, v, n], l))
theorem splice_put {X : List (Option KD)} (h4 : X.length = 4) (x : Option KD) : splice (splice X 1 (X.take 3)) 0 [x] = x :: X.take 3 := by
  match X, h4 with
  | [a, b, c, d], _ => rfl
theorem put_copied {w w' : World} {g : Nat} {fr : Fr} {X : List (Option KD)} {F : List KD} (h : ShAt w g fr X F) (hg : w'.heap[g]? = some (.cells (splice (cellsS fr X F) (fr.pre.length + 21) (spotsC (X.take 3))).toArray fr.t (0, 0))) :
    ShAt w' g fr (splice X 1 (X.take 3)) F := by
  have hl : 1 + (X.take 3).length ≤ X.length := by rw [List.length_take, h.x4]; omega
  exact ⟨by rw [length_splice _ _ _ hl, h.x4], h.f24, by rw [hg, ← splice_spots fr X _ F 1 hl]⟩
set_option maxRecDepth 100000 in
set_option maxHeartbeats 4000000 in
theorem putX_any (g : Nat) (fr : Fr) (X : List (Option KD)) (F : List KD) (k v n : Int) (u : Value) (l : List (Int × Int)) (w : World) (h : ShAt w g fr X F) (hu : Rd w u l) (hub : 0 < l.length → ∀ b, u.ownBlock = some b → ¬ b = g) (hp : putB F k v n l = true) :
    Calls Tryz.prog 102 #[.pointer (some ⟨g, fr.pre.length, none⟩), .agg #[.int .i64 k, .int .i64 v, .int .i64 n, u]] w fun e w' => e = .returned (.bool true) ∧ ShAt w' g fr (putX X k v n l) (putF F k v) ∧ Only (fun j => j = g) w w' := by
  have HS := hid h
  have HU := hid hu
  have HUB := hid hub
  clear h hu hub
  unfold putB at hp
  rw [Bool.and_eq_true] at hp
  obtain ⟨hit, hfl⟩ := hp
  have hk := itR_key hit
  obtain ⟨kk, rfl⟩ := Int.eq_ofNat_of_zero_le hk.1
  have hkk : kk < 24 := by omega
  have hfl : flr F kk ≤ v := by simpa using hfl
  have hlt : decide (v < flr F kk) = false := by simp; omega
  have hco := fun (W : World) (hr : Rd W u l) => itemRight_any (kk : Int) v n u l W hr
  rw [hit] at hco
  obtain ⟨i0, hi0, hz0⟩ := Tryz.infoX_spot2
  have HI := hid hi0
  have HZ := hid hz0
  clear hi0 hz0 hfl hk hit
  have hgl := HS.out.lt
  have bb : Below w.heap.size w (w.alloc (.cells #[.int .i64 (kk : Int), .int .i64 v, .int .i64 n, u] 68)) := by go_grown
  go_enter Tryz.func102, Tryz.ntmps102
  go_wp2_with fail
  generalize hW1 : (w.alloc (.cells #[.int .i64 (kk : Int), .int .i64 v, .int .i64 n, u] 68)) = w1
  have a0_1 : w1.cell? ⟨w.heap.size, 0, none⟩ = some (.int .i64 (kk : Int)) := by subst hW1; go_cell
  have a1_1 : w1.cell? ⟨w.heap.size, 1, none⟩ = some (.int .i64 v) := by subst hW1; go_cell
  have a2_1 : w1.cell? ⟨w.heap.size, 2, none⟩ = some (.int .i64 n) := by subst hW1; go_cell
  have a3_1 : w1.cell? ⟨w.heap.size, 3, none⟩ = some (u) := by subst hW1; go_cell
  have al_1 : w.heap.size < w1.heap.size := by subst hW1; first | (simp; done) | (simp; omega)
  have c1 : Below w.heap.size w w1 := by subst hW1; go_grown
  have s1 : w1.heap.size = w.heap.size + 1 := by subst hW1; simp
  clear hW1
  have qa0_1 := cell_regrown a0_1
  have qa1_1 := cell_regrown a1_1
  have qa2_1 := cell_regrown a2_1
  have qa3_1 := cell_regrown a3_1
  have HS1 := hid (HS.out.later c1)
  have HU1 := hid (HU.out.later c1)
  have f1 := HS1.out.flo kk hkk
  have qf1 := cell_regrown f1
  refine wp_region_quiet_below (by kernel_rfl) (by kernel_rfl) ?_
  repeat (first | go_big_quiet_skip | (go_big_quiet_want; go_big_quiet_op; first | go_big_quiet_on | go_big_quiet_call (first | (go_at_call 124; exact Calls.regrown_of (hco _ (HU1.out.later (below_regrown _ _ _)))))))
  refine wpQuiet_nil ?_
  rintro wq ⟨pq, hwq⟩
  have hq : Below w1.heap.size w1 wq := by rw [hwq]; exact below_regrown _ _ _
  clear hwq pq
  have a0_2 := (hq.cell (p := ⟨w.heap.size, 0, none⟩) al_1).trans a0_1
  have a1_2 := (hq.cell (p := ⟨w.heap.size, 1, none⟩) al_1).trans a1_1
  have a2_2 := (hq.cell (p := ⟨w.heap.size, 2, none⟩) al_1).trans a2_1
  have a3_2 := (hq.cell (p := ⟨w.heap.size, 3, none⟩) al_1).trans a3_1
  have HS2 := hid (HS1.out.later hq)
  have O2 : Hid (Only (fun j => j = g) w wq) := hid ((Only.later c1).trans (Only.later hq))
  have al_2 : w.heap.size < wq.heap.size := Nat.lt_of_lt_of_le al_1 hq.size
  clear a0_1 a1_1 a2_1 a3_1 qa0_1 qa1_1 qa2_1 qa3_1 f1 qf1 HS1 HU1 hlt hco
  go_wp2_with fail
  refine (dropX_any g fr X F (kk : Int) _ HS2.out).mono ?_
  rintro e w3 ⟨rfl, h3, o3⟩
  have hne : ¬ (w.heap.size = g) := by omega
  have a0_3 := (World.cell?_of_block (a := ⟨w.heap.size, 0, none⟩) (o3.block _ al_2 hne)).trans a0_2
  have a1_3 := (World.cell?_of_block (a := ⟨w.heap.size, 1, none⟩) (o3.block _ al_2 hne)).trans a1_2
  have a2_3 := (World.cell?_of_block (a := ⟨w.heap.size, 2, none⟩) (o3.block _ al_2 hne)).trans a2_2
  have a3_3 := (World.cell?_of_block (a := ⟨w.heap.size, 3, none⟩) (o3.block _ al_2 hne)).trans a3_2
  have HS3 := hid h3
  have O3 : Hid (Only (fun j => j = g) w w3) := hid (O2.out.trans o3)
  have al_3 : w.heap.size < w3.heap.size := Nat.lt_of_lt_of_le al_2 o3.size
  clear a0_2 a1_2 a2_2 a3_2 HS2 O2 h3 o3 al_2 hq
  go_wp2_with fail
  go_region_law (refine step_copyS rfl _ _ 199 199 rfl 126 i0 Tryz.underlying199 HI.out g (fr.pre.length + 21) 3 3 ⟨g, fr.pre.length, none⟩ 4 4 (by simp [Act.eval, Act.put]) (by simp [Act.eval, Act.put]) _ fr.t HS3.out.row (spotsC ((dropX (kk : Int) X).take 3)) (by rw [HZ.out, spotsC_length, List.length_take, HS3.out.x4]; decide) (spots_src HS3.out.drew 0 (by omega) _ ⟨(dropX (kk : Int) X).drop 3, by simp⟩ _ rfl) (by rw [cellsS_length, spotsC_length, List.length_take, HS3.out.x4]; omega) (spotsC_one _) g w3 ((Below.refl _ _).drew) (Nat.le_refl _) ?_; intro w4 HG4 hB4 hg4)
  have h4 := put_copied HS3.out HG4.out
  have o4 := drop_only (Below.refl _ _) hB4 hg4
  have a0_4 := (World.cell?_of_block (a := ⟨w.heap.size, 0, none⟩) (o4.block _ al_3 hne)).trans a0_3
  have a1_4 := (World.cell?_of_block (a := ⟨w.heap.size, 1, none⟩) (o4.block _ al_3 hne)).trans a1_3
  have a2_4 := (World.cell?_of_block (a := ⟨w.heap.size, 2, none⟩) (o4.block _ al_3 hne)).trans a2_3
  have a3_4 := (World.cell?_of_block (a := ⟨w.heap.size, 3, none⟩) (o4.block _ al_3 hne)).trans a3_3
  have HS4 := hid h4
  have O4 : Hid (Only (fun j => j = g) w w4) := hid (O3.out.trans o4)
  have al_4 : w.heap.size < w4.heap.size := Nat.lt_of_lt_of_le al_3 o4.size
  clear a0_3 a1_3 a2_3 a3_3 HS3 O3 h4 o4 al_3 HG4 hB4 hg4
  have HS4' : Hid ((dropX (kk : Int) X).length = 4) := hid (dropX_length HS.out.x4)
  have HU4 : Hid (Rd w4.drew u l) := hid (Rd.drew' (HU.out.only O4.out HUB.out))
  go_wp2_with fail
  go_region_with (first | (go_at_call 100; refine (spotOf_any _ _ _ _ _ _ HU4.out).mono ?_; rintro e w5 ⟨rfl, b5⟩; have hst5 := hid (stQ_first (HS4.out.drew.later b5) (kk : Int) v n l); obtain ⟨w6, hst, h6, o6⟩ := hst5.out))
  have o5 : Only (fun j => j = g) w4 w6 := (Only.later ((Below.refl w4.heap.size w4).drew.trans b5)).trans o6
  have a0_6 := (World.cell?_of_block (a := ⟨w.heap.size, 0, none⟩) (o5.block _ al_4 hne)).trans a0_4
  have a1_6 := (World.cell?_of_block (a := ⟨w.heap.size, 1, none⟩) (o5.block _ al_4 hne)).trans a1_4
  have HS6 := hid h6
  have O6 : Hid (Only (fun j => j = g) w w6) := hid (O4.out.trans o5)
  have c6 := HS6.out.flo kk hkk
  have cf6 := HS6.out.frozen (fr.pre.length + 84 + kk)
  have HE : Hid (ShAt (w6.drew.setCell ⟨g, fr.pre.length + 84 + kk, none⟩ (.int .i64 v)) g fr (putX X kk v n l) (putF F kk v)) := hid (by
    have := shAt_setFlo HS6.out.drew kk hkk v
    rw [splice_put HS4'.out] at this
    exact this)
  clear a0_4 a1_4 a2_4 a3_4 HS4 O4 o5 h6 o6 b5 hst hst5 HU4
  have O7 : Hid (Only (fun j => j = g) w (w6.drew.setCell ⟨g, fr.pre.length + 84 + kk, none⟩ (.int .i64 v))) := hid (O6.out.trans ((Only.later (Below.refl w6.heap.size w6).drew).trans (Only.set (F := fun j => j = g) w6.drew (p := ⟨g, fr.pre.length + 84 + kk, none⟩) rfl _)))
  go_wp2_with fail
  go_region
  go_wp2_with fail
  go_ret
  exact ⟨rfl, HE.out, O7.out⟩
set_option maxRecDepth 100000 in
set_option maxHeartbeats 4000000 in
theorem putX_no (g : Nat) (fr : Fr) (X : List (Option KD)) (F : List KD) (k v n : Int) (u : Value) (l : List (Int × Int)) (w : World) (h : ShAt w g fr X F) (hu : Rd w u l) (hp : putB F k v n l = false) :
    Calls Tryz.prog 102 #[.pointer (some ⟨g, fr.pre.length, none⟩), .agg #[.int .i64 k, .int .i64 v, .int .i64 n, u]] w fun e w' => e = .returned (.bool false) ∧ Below w.heap.size w w' := by
  have HS := hid h
  have HU := hid hu
  clear h hu
  have hco := fun (W : World) (hr : Rd W u l) => itemRight_any k v n u l W hr
  cases hit : itR k v n l with
  | false =>
    rw [hit] at hco
    go_enter Tryz.func102, Tryz.ntmps102
    go_wp2_with fail
    generalize hW1 : (w.alloc (.cells #[.int .i64 k, .int .i64 v, .int .i64 n, u] 68)) = w1
    have a0_1 : w1.cell? ⟨w.heap.size, 0, none⟩ = some (.int .i64 k) := by subst hW1; go_cell
    have a1_1 : w1.cell? ⟨w.heap.size, 1, none⟩ = some (.int .i64 v) := by subst hW1; go_cell
    have a2_1 : w1.cell? ⟨w.heap.size, 2, none⟩ = some (.int .i64 n) := by subst hW1; go_cell
    have a3_1 : w1.cell? ⟨w.heap.size, 3, none⟩ = some (u) := by subst hW1; go_cell
    have al_1 : w.heap.size < w1.heap.size := by subst hW1; first | (simp; done) | (simp; omega)
    have c1 : Below w.heap.size w w1 := by subst hW1; go_grown
    have s1 : w1.heap.size = w.heap.size + 1 := by subst hW1; simp
    clear hW1
    have qa0_1 := cell_regrown a0_1
    have qa1_1 := cell_regrown a1_1
    have qa2_1 := cell_regrown a2_1
    have qa3_1 := cell_regrown a3_1
    have HU1 := hid (HU.out.later c1)
    refine wp_region_quiet_below (by kernel_rfl) (by kernel_rfl) ?_
    repeat (first | go_big_quiet_skip | (go_big_quiet_want; go_big_quiet_op; first | go_big_quiet_on | go_big_quiet_call (first | (go_at_call 124; exact Calls.regrown_of (hco _ (HU1.out.later (below_regrown _ _ _)))))))
    refine wpQuiet_nil ?_
    rintro wq ⟨pq, hwq⟩
    have hq : Below w1.heap.size w1 wq := by rw [hwq]; exact below_regrown _ _ _
    clear hwq pq
    have B2 := hid (c1.trans (hq.mono c1.size))
    clear hq hco
    go_wp2_with fail
    go_ret
    exact ⟨by simp, B2.out⟩
  | true =>
    rw [hit] at hco
    have hk := itR_key hit
    obtain ⟨kk, rfl⟩ := Int.eq_ofNat_of_zero_le hk.1
    have hkk : kk < 24 := by omega
    have hlt : decide (v < flr F kk) = true := by
      simp [putB, hit] at hp
      simpa using hp
    clear hk hit hp
    go_enter Tryz.func102, Tryz.ntmps102
    go_wp2_with fail
    generalize hW1 : (w.alloc (.cells #[.int .i64 (kk : Int), .int .i64 v, .int .i64 n, u] 68)) = w1
    have a0_1 : w1.cell? ⟨w.heap.size, 0, none⟩ = some (.int .i64 (kk : Int)) := by subst hW1; go_cell
    have a1_1 : w1.cell? ⟨w.heap.size, 1, none⟩ = some (.int .i64 v) := by subst hW1; go_cell
    have a2_1 : w1.cell? ⟨w.heap.size, 2, none⟩ = some (.int .i64 n) := by subst hW1; go_cell
    have a3_1 : w1.cell? ⟨w.heap.size, 3, none⟩ = some (u) := by subst hW1; go_cell
    have al_1 : w.heap.size < w1.heap.size := by subst hW1; first | (simp; done) | (simp; omega)
    have c1 : Below w.heap.size w w1 := by subst hW1; go_grown
    have s1 : w1.heap.size = w.heap.size + 1 := by subst hW1; simp
    clear hW1
    have qa0_1 := cell_regrown a0_1
    have qa1_1 := cell_regrown a1_1
    have qa2_1 := cell_regrown a2_1
    have qa3_1 := cell_regrown a3_1
    have HS1 := hid (HS.out.later c1)
    have HU1 := hid (HU.out.later c1)
    have f1 := HS1.out.flo kk hkk
    have qf1 := cell_regrown f1
    refine wp_region_quiet_below (by kernel_rfl) (by kernel_rfl) ?_
    repeat (first | go_big_quiet_skip | (go_big_quiet_want; go_big_quiet_op; first | go_big_quiet_on | go_big_quiet_call (first | (go_at_call 124; exact Calls.regrown_of (hco _ (HU1.out.later (below_regrown _ _ _)))))))
    refine wpQuiet_nil ?_
    rintro wq ⟨pq, hwq⟩
    have hq : Below w1.heap.size w1 wq := by rw [hwq]; exact below_regrown _ _ _
    clear hwq pq
    have B2 := hid (c1.trans (hq.mono c1.size))
    clear hq hco
    go_wp2_with fail
    go_ret
    exact ⟨by simp, B2.out⟩
end Go.Proofs.YtfibdnhihnccaaaGreat

/- Part: == of two shelves by value: one just if their cells are. Items that are put anew on their floors come to the same just if the cache is ok. Plain. -/
namespace Go.Proofs.YtfibdnhihnccaaaGreat
open Go.RowKit
variable {P : Program}
theorem Tryz.shp_ce : Tryz.prog.cellsOf 123 = 2 := by kernel_rfl
theorem Tryz.shp_c8 : Tryz.prog.cellsOf 124 = 16 := by kernel_rfl
theorem Tryz.shp_cs : Tryz.prog.cellsOf 126 = 21 := by kernel_rfl
theorem Tryz.shp_c4s : Tryz.prog.cellsOf 127 = 84 := by kernel_rfl
theorem Tryz.shp_cf : Tryz.prog.cellsOf 128 = 24 := by kernel_rfl
def DE : List (TypeId × (List Value → Prop)) := [(3, OneInt), (3, OneInt)]
theorem eqEdge_s (d : Nat) : EqS Tryz.prog (d + 2) 123 (fun l => Fits Tryz.prog l 0 DE) :=
  eqS_struct (by kernel_rfl) (by kernel_rfl) (D := DE) (by kernel_rfl) (by
    intro x hx
    simp only [DE, List.mem_cons, List.not_mem_nil, or_false] at hx
    rcases hx with rfl | rfl <;> exact eqP_int Tryz.shp_int)
def SK : List Value → Prop := RowS (Tryz.prog.cellsOf 123) 8 (fun l => Fits Tryz.prog l 0 DE)
theorem eqKin_s (d : Nat) : EqS Tryz.prog (d + 3) 124 SK := by
  obtain ⟨i, hi⟩ := info_some (P := Tryz.prog) (t := 123) Tryz.underlying123
  exact eqS_array (by kernel_rfl) hi (eqP_of Tryz.underlying123 rfl (eqEdge_s d))
def DS : List (TypeId × (List Value → Prop)) := [(4, OneBool), (3, OneInt), (3, OneInt), (3, OneInt), (124, SK), (3, OneInt)]
theorem eqSpot_s (d : Nat) : EqS Tryz.prog (d + 4) 126 (fun l => Fits Tryz.prog l 0 DS) :=
  eqS_struct (by kernel_rfl) (by kernel_rfl) (D := DS) (by kernel_rfl) (by
    intro x hx
    simp only [DS, List.mem_cons, List.not_mem_nil, or_false] at hx
    rcases hx with rfl | rfl | rfl | rfl | rfl | rfl
    · exact eqP_bool Tryz.shp_bool
    · exact eqP_int Tryz.shp_int
    · exact eqP_int Tryz.shp_int
    · exact eqP_int Tryz.shp_int
    · exact eqP_of (k := .array 8 123) (by kernel_rfl) rfl (eqKin_s d)
    · exact eqP_int Tryz.shp_int)
def SP : List Value → Prop := RowS (Tryz.prog.cellsOf 126) 4 (fun l => Fits Tryz.prog l 0 DS)
theorem eqSpots_s (d : Nat) : EqS Tryz.prog (d + 5) 127 SP := by
  obtain ⟨i, hi⟩ := info_some (P := Tryz.prog) (t := 126) Tryz.underlying126
  exact eqS_array (by kernel_rfl) hi (eqP_of Tryz.underlying126 rfl (eqSpot_s d))
def SF : List Value → Prop := RowS (Tryz.prog.cellsOf 3) 24 OneInt
theorem eqFlo_s (d : Nat) : EqS Tryz.prog (d + 5) 128 SF := by
  obtain ⟨i, hi⟩ := info_some Tryz.shp_int
  exact eqS_array (d := d + 4) (by kernel_rfl) hi (eqP_int Tryz.shp_int)
def DH : List (TypeId × (List Value → Prop)) := [(127, SP), (128, SF)]
theorem eqShelf_s (d : Nat) : EqS Tryz.prog (d + 6) 130 (fun l => Fits Tryz.prog l 0 DH) :=
  eqS_struct (by kernel_rfl) (by kernel_rfl) (D := DH) (by kernel_rfl) (by
    intro x hx
    simp only [DH, List.mem_cons, List.not_mem_nil, or_false] at hx
    rcases hx with rfl | rfl
    · exact eqP_of (k := .array 4 126) (by kernel_rfl) rfl (eqSpots_s d)
    · exact eqP_of (k := .array 24 3) (by kernel_rfl) rfl (eqFlo_s d))

/-! ### The cells of a shelf are such -/
theorem fits_edge (a b : Int) : Fits Tryz.prog [.int .i64 a, .int .i64 b] 0 DE := by
  simp only [DE, Fits, Tryz.shp_c3]
  exact ⟨⟨a, rfl⟩, ⟨b, rfl⟩, rfl⟩
theorem fits_kin (l : List (Int × Int)) : SK ((spotC true 0 0 0 l).drop 4 |>.take 16) := by
  refine ⟨by rw [Tryz.shp_ce]; rfl, ?_⟩
  intro i hi
  rw [Tryz.shp_ce]
  obtain rfl | rfl | rfl | rfl | rfl | rfl | rfl | rfl : i = 0 ∨ i = 1 ∨ i = 2 ∨ i = 3 ∨ i = 4 ∨ i = 5 ∨ i = 6 ∨ i = 7 := by omega
  all_goals exact fits_edge _ _
theorem fits_spot (f : Bool) (k v n : Int) (l : List (Int × Int)) : Fits Tryz.prog (spotC f k v n l) 0 DS := by
  simp only [DS, Fits, Tryz.shp_c3, Tryz.shp_c4, Tryz.shp_c8]
  exact ⟨⟨f, rfl⟩, ⟨k, rfl⟩, ⟨v, rfl⟩, ⟨n, rfl⟩, fits_kin l, ⟨_, rfl⟩, rfl⟩
theorem fits_cells (x : Option KD) : Fits Tryz.prog (cellsP x) 0 DS := by
  cases x with
  | none => exact fits_spot _ _ _ _ _
  | some x => exact fits_spot _ _ _ _ _
theorem fits_spots {X : List (Option KD)} (h : X.length = 4) : SP (spotsC X) := by
  refine ⟨by rw [Tryz.shp_cs, spotsC_length, h], ?_⟩
  intro i hi
  rw [Tryz.shp_cs, Nat.mul_comm, spotsC_drop]
  have hx : i < X.length := by omega
  rw [List.drop_eq_getElem_cons hx, spotsC_cons, List.take_left' (cellsP_length _)]
  exact fits_cells _
theorem fits_flo {F : List KD} (h : F.length = 24) : SF (floC F) := by
  refine ⟨by rw [Tryz.shp_c3, floC_length, h], ?_⟩
  intro i hi
  rw [Tryz.shp_c3, Nat.mul_one]
  have hx : i < (floC F).length := by rw [floC_length]; omega
  rw [List.drop_eq_getElem_cons hx]
  refine ⟨flr F i, ?_⟩
  have := floC_get (F := F) (i := i) (by omega)
  rw [List.getElem?_eq_getElem hx] at this
  simp only [Option.some.injEq] at this
  simp [this]
theorem fits_shelf {X : List (Option KD)} {F : List KD} (hx : X.length = 4) (hf : F.length = 24) : Fits Tryz.prog (spotsC X ++ floC F) 0 DH := by
  have l1 : (spotsC X).length = 84 := by rw [spotsC_length, hx]
  have l2 : (floC F).length = 24 := by rw [floC_length, hf]
  simp only [DH, Fits, Tryz.shp_c4s, Tryz.shp_cf]
  refine ⟨?_, ?_, by rw [List.length_append, l1, l2]⟩
  · rw [List.drop_zero, List.take_left' l1]
    exact fits_spots hx
  · rw [Nat.zero_add, List.drop_left' l1, List.take_of_length_le (by omega)]
    exact fits_flo hf
/-- == of two shelves (a name that the walk does not take apart). -/
def binQ (x y : Value) : Sem Value := binOp .eql 130 x y
theorem binQ_open (x y : Value) : binOp .eql 130 x y = binQ x y := rfl
theorem binQ_run {X Y : List (Option KD)} {F G : List KD} (hx : X.length = 4) (hy : Y.length = 4) (hf : F.length = 24) (hg : G.length = 24) :
    ∃ r, (∀ W, (binQ (.agg (spotsC X ++ floC F).toArray) (.agg (spotsC Y ++ floC G).toArray)).run Tryz.prog W = .ok (.bool r) W) ∧ (r = true ↔ spotsC X = spotsC Y ∧ floC F = floC G) := by
  have key : ∀ W, ∃ r, (binQ (.agg (spotsC X ++ floC F).toArray) (.agg (spotsC Y ++ floC G).toArray)).run Tryz.prog W = .ok (.bool r) W ∧ (r = true ↔ spotsC X = spotsC Y ∧ floC F = floC G) := fun W => by
    obtain ⟨r, hr, hiff⟩ := eqShelf_s 9994 W _ _ (fits_shelf hx hf) (fits_shelf hy hg)
    refine ⟨r, ?_, hiff.trans ⟨fun e => List.append_inj e (by rw [spotsC_length, spotsC_length, hx, hy]), fun e => by rw [e.1, e.2]⟩⟩
    rw [binQ, run_eql_struct, hr]
    rfl
  by_cases h : spotsC X = spotsC Y ∧ floC F = floC G
  · exact ⟨true, fun W => by obtain ⟨r, hr, hi⟩ := key W; rw [hr, hi.2 h], by simp [h]⟩
  · exact ⟨false, fun W => by
      obtain ⟨r, hr, hi⟩ := key W
      cases r with
      | false => exact hr
      | true => exact absurd (hi.1 rfl) h, by simp [h]⟩
end Go.Proofs.YtfibdnhihnccaaaGreat
namespace Go.Proofs.YtfibdnhihnccaaaGreat
open Go.RowKit

/-- Items in spots. -/
def itemsX (L : List KD) : List (Option KD) := (L.map some ++ List.replicate 4 none).take 4
theorem itemsX_length (L : List KD) : (itemsX L).length = 4 := by simp [itemsX]
def numK (x : KD) : Int := x.1.getD 2 0
theorem kd3 {x : KD} (h : x.1.length = 3) : ([keyK x, verK x, numK x], x.2) = x := by
  obtain ⟨a, l⟩ := x
  match a, h with
  | [p, q, r], _ => rfl
theorem itemsX_cons {x : KD} {L : List KD} (h : L.length ≤ 3) : itemsX (x :: L) = some x :: (itemsX L).take 3 := by
  match L, h with
  | [], _ => rfl
  | [a], _ => rfl
  | [a, b], _ => rfl
  | [a, b, c], _ => rfl
def stepS (S : List (Option KD) × List KD) (x : KD) : List (Option KD) × List KD :=
  if putB S.2 (keyK x) (verK x) (numK x) x.2 then (putX S.1 (keyK x) (verK x) (numK x) x.2, putF S.2 (keyK x) (verK x)) else S
def anewS (F L : List KD) : List (Option KD) × List KD := L.foldr (fun x S => stepS S x) (List.replicate 4 none, F)
theorem anewS_cons (F L : List KD) (x : KD) : anewS F (x :: L) = stepS (anewS F L) x := rfl
/-- How many items there are. -/
def cntX (X : List (Option KD)) : Nat := X.countP Option.isSome
theorem dropX_cnt (k : Int) (X : List (Option KD)) : cntX (dropX k X) ≤ cntX X := by
  unfold dropX cntX
  split
  · rw [List.countP_append]
    have := (List.eraseP_sublist (p := hasK k) (l := X)).countP_le (p := Option.isSome)
    simp only [List.countP_singleton]
    simpa using this
  · exact Nat.le_refl _
theorem dropX_cnt_lt {k : Int} {X : List (Option KD)} (h : X.any (hasK k) = true) : cntX (dropX k X) < cntX X := by
  unfold dropX cntX
  rw [if_pos h]
  rw [List.any_eq_true] at h
  obtain ⟨x, hx, hp⟩ := h
  obtain ⟨a, l1, l2, _, ha, e1, e2⟩ := List.exists_of_eraseP hx hp
  have hs : a.isSome = true := by cases a with
    | none => cases ha
    | some _ => rfl
  rw [e2]
  conv => rhs; rw [e1]
  simp only [List.countP_append, List.countP_cons, hs, List.countP_nil]
  simp
theorem putX_cnt (X : List (Option KD)) (k v n : Int) (l : List (Int × Int)) : cntX (putX X k v n l) ≤ cntX (dropX k X) + 1 := by
  unfold putX cntX
  rw [List.countP_cons]
  have := (List.take_sublist 3 (dropX k X)).countP_le (p := Option.isSome)
  simp only [Option.isSome_some, if_true]
  omega
theorem itemsX_cnt {L : List KD} (h : L.length ≤ 4) : cntX (itemsX L) = L.length := by
  match L, h with
  | [], _ => rfl
  | [a], _ => rfl
  | [a, b], _ => rfl
  | [a, b, c], _ => rfl
  | [a, b, c, d], _ => rfl
theorem spotsC_some : ∀ (X Y : List (Option KD)), X.length = Y.length → spotsC X = spotsC Y → cntX X = cntX Y
  | [], [], _, _ => rfl
  | [], _ :: _, h, _ => by simp at h
  | _ :: _, [], h, _ => by simp at h
  | x :: X, y :: Y, h, e => by
    rw [spotsC_cons, spotsC_cons] at e
    obtain ⟨e1, e2⟩ := List.append_inj e (by rw [cellsP_length, cellsP_length])
    have ih := spotsC_some X Y (by simpa using h) e2
    have hx : x.isSome = y.isSome := by
      cases x <;> cases y <;> simp_all [cellsP, spotC]
    unfold cntX at ih ⊢
    rw [List.countP_cons, List.countP_cons, ih, hx]
theorem floC_iff {F G : List KD} (hf : F.length = 24) (hg : G.length = 24) : floC F = floC G ↔ ∀ i, i < 24 → flr F i = flr G i := by
  constructor
  · intro e i hi
    have a := floC_get (F := F) (i := i) (by omega)
    have b := floC_get (F := G) (i := i) (by omega)
    rw [e] at a
    rw [a] at b
    simpa using b
  · intro h
    apply List.ext_getElem?
    intro i
    by_cases hi : i < 24
    · rw [floC_get (by omega), floC_get (by omega), h i hi]
    · rw [List.getElem?_eq_none (by rw [floC_length]; omega), List.getElem?_eq_none (by rw [floC_length]; omega)]
/-- The items of a cache that is ok. -/
def goodC (F : List KD) : List KD → Prop
  | [] => True
  | x :: L => (rightK x = true ∧ verK x = flr F (keyK x).toNat ∧ ∀ y ∈ L, keyK y ≠ keyK x) ∧ goodC F L
theorem goodC_iff (F : List KD) : ∀ L : List KD, goodC F L ↔ ItmTo L F L.length
  | [] => by simp [goodC, ItmTo]
  | x :: L => by
    rw [goodC, goodC_iff F L]
    have mem : ∀ i, i < L.length → L.getD i kd0 ∈ L := fun i hi => by
      rw [show L.getD i kd0 = L[i] from by simp [hi]]
      exact List.getElem_mem hi
    constructor
    · rintro ⟨⟨h1, h2, h3⟩, h4⟩ i hi
      cases i with
      | zero => exact ⟨by rw [List.getD_cons_zero]; exact h1, by rw [List.getD_cons_zero]; exact h2, fun k hk => absurd hk (Nat.not_lt_zero k)⟩
      | succ i =>
        have hi' : i < L.length := by simpa using hi
        obtain ⟨g1, g2, g3⟩ := h4 i hi'
        refine ⟨by rw [List.getD_cons_succ]; exact g1, by rw [List.getD_cons_succ]; exact g2, fun k hk => ?_⟩
        rw [List.getD_cons_succ]
        cases k with
        | zero => rw [List.getD_cons_zero]; exact fun e => h3 _ (mem i hi') e.symm
        | succ k => rw [List.getD_cons_succ]; exact g3 k (by omega)
    · intro h
      have h0 := h 0 (by simp)
      rw [ItmAt, List.getD_cons_zero] at h0
      refine ⟨⟨h0.1, h0.2.1, fun y hy => ?_⟩, fun i hi => ?_⟩
      · obtain ⟨i, hi, rfl⟩ := List.getElem_of_mem hy
        have := (h (i + 1) (by simpa using hi)).2.2 0 (by omega)
        rw [List.getD_cons_succ, List.getD_cons_zero, show L.getD i kd0 = L[i] from by simp [hi]] at this
        exact fun e => this e.symm
      · obtain ⟨g1, g2, g3⟩ := h (i + 1) (by simpa using hi)
        rw [List.getD_cons_succ] at g1 g2 g3
        exact ⟨g1, g2, fun k hk => by have := g3 (k + 1) (by omega); rw [List.getD_cons_succ] at this; exact this⟩
/-- What stands behind the items L, put anew on the floors F. -/
structure WellS (F : List KD) (L : List KD) (S : List (Option KD) × List KD) : Prop where
  x4 : S.1.length = 4
  f24 : S.2.length = 24
  up : ∀ i, i < 24 → flr F i ≤ flr S.2 i
  cnt : cntX S.1 ≤ L.length
  or : (goodC F L ∧ S.1 = itemsX L ∧ ∀ i, i < 24 → flr S.2 i = flr F i) ∨ (¬ goodC F L ∧ (cntX S.1 < L.length ∨ ∃ i, i < 24 ∧ flr F i < flr S.2 i))
theorem hasK_items {L : List KD} {k : Int} (h : L.length ≤ 4) : (itemsX L).any (hasK k) = L.any (fun y => keyK y == k) := by
  match L, h with
  | [], _ => rfl
  | [a], _ => rfl
  | [a, b], _ => rfl
  | [a, b, c], _ => rfl
  | [a, b, c, d], _ => rfl
theorem wellS_step {F L : List KD} {S : List (Option KD) × List KD} {x : KD} (h3 : x.1.length = 3) (hl : L.length ≤ 3) (h : WellS F L S) : WellS F (x :: L) (stepS S x) := by
  have hx := kd3 h3
  by_cases hp : putB S.2 (keyK x) (verK x) (numK x) x.2 = true
  · have hS : stepS S x = (putX S.1 (keyK x) (verK x) (numK x) x.2, putF S.2 (keyK x) (verK x)) := by rw [stepS, if_pos hp]
    unfold putB at hp
    rw [Bool.and_eq_true] at hp
    obtain ⟨hr, hv⟩ := hp
    have hk := itR_key hr
    have hv : flr S.2 (keyK x).toNat ≤ verK x := by simpa using hv
    have hkn : (keyK x).toNat < 24 := by omega
    have hset : ∀ i, flr (putF S.2 (keyK x) (verK x)) i = if i = (keyK x).toNat then verK x else flr S.2 i := fun i => flr_set _ i (by rw [h.f24]; exact hkn)
    have hc := putX_cnt S.1 (keyK x) (verK x) (numK x) x.2
    have hd := dropX_cnt (keyK x) S.1
    have hup : ∀ i, i < 24 → flr S.2 i ≤ flr (putF S.2 (keyK x) (verK x)) i := fun i hi => by
      rw [hset]
      split
      · rename_i e; rw [e]; exact hv
      · exact Int.le_refl _
    rw [hS]
    refine ⟨by simp [putX, dropX_length h.x4], by simp [putF, h.f24], fun i hi => Int.le_trans (h.up i hi) (hup i hi), by rw [List.length_cons]; have := h.cnt; exact Nat.le_trans hc (by omega), ?_⟩
    rcases h.or with ⟨hg, hX, hf⟩ | ⟨hg, hbad⟩
    · by_cases he : verK x = flr F (keyK x).toNat
      · by_cases ha : S.1.any (hasK (keyK x)) = true
        · right
          refine ⟨?_, Or.inl ?_⟩
          · rintro ⟨⟨_, _, hn⟩, _⟩
            rw [hX, hasK_items (by omega), List.any_eq_true] at ha
            obtain ⟨y, hy, hq⟩ := ha
            exact hn y hy (by simpa using hq)
          · have := dropX_cnt_lt ha
            have := h.cnt
            rw [List.length_cons]
            show cntX (putX S.1 _ _ _ _) < _
            omega
        · left
          refine ⟨⟨⟨hr, he, ?_⟩, hg⟩, ?_, ?_⟩
          · intro y hy e
            apply ha
            rw [hX, hasK_items (by omega), List.any_eq_true]
            exact ⟨y, hy, by simpa using e⟩
          · show putX S.1 _ _ _ _ = _
            rw [putX, hx, itemsX_cons hl, dropX, if_neg ha, hX]
          · intro i hi
            show flr (putF S.2 _ _) i = _
            rw [hset]
            split
            · rename_i e; rw [e, he]
            · exact hf i hi
      · right
        refine ⟨fun q => he q.1.2.1, Or.inr ⟨(keyK x).toNat, hkn, ?_⟩⟩
        show _ < flr (putF S.2 _ _) _
        rw [hset, if_pos rfl]
        have := hf _ hkn
        omega
    · right
      refine ⟨fun q => hg q.2, ?_⟩
      rcases hbad with hb | ⟨i, hi, hb⟩
      · left
        rw [List.length_cons]
        show cntX (putX S.1 _ _ _ _) < _
        omega
      · exact Or.inr ⟨i, hi, Int.lt_of_lt_of_le hb (hup i hi)⟩
  · have hS : stepS S x = S := by rw [stepS, if_neg hp]
    rw [hS]
    refine ⟨h.x4, h.f24, h.up, by rw [List.length_cons]; have := h.cnt; omega, Or.inr ⟨?_, Or.inl (by rw [List.length_cons]; have := h.cnt; omega)⟩⟩
    rintro ⟨⟨hr, he, _⟩, hg⟩
    rcases h.or with ⟨_, _, hf⟩ | ⟨hn, _⟩
    · apply hp
      unfold putB
      rw [Bool.and_eq_true]
      have hk := rightK_key hr
      exact ⟨hr, by rw [hf _ (by omega), he]; simp⟩
    · exact hn hg
theorem wellS_all {F : List KD} (hF : F.length = 24) : ∀ L : List KD, L.length ≤ 4 → (∀ x ∈ L, x.1.length = 3) → WellS F L (anewS F L)
  | [], _, _ => ⟨rfl, hF, fun _ _ => Int.le_refl _, Nat.le_refl _, Or.inl ⟨trivial, rfl, fun _ _ => rfl⟩⟩
  | x :: L, hl, h3 => by
    rw [anewS_cons]
    exact wellS_step (h3 x (by simp)) (by simpa using hl) (wellS_all hF L (by simp at hl; omega) (fun y hy => h3 y (by simp [hy])))
/-- Put anew they come to the same just if they are right. -/
theorem anew_same {F L : List KD} (hF : F.length = 24) (hl : L.length ≤ 4) (h3 : ∀ x ∈ L, x.1.length = 3) :
    (spotsC (itemsX L) = spotsC (anewS F L).1 ∧ floC F = floC (anewS F L).2) ↔ ItmTo L F L.length := by
  have h := wellS_all hF L hl h3
  rw [← goodC_iff]
  constructor
  · rintro ⟨e1, e2⟩
    rcases h.or with hg | ⟨_, hb | ⟨i, hi, hb⟩⟩
    · exact hg.1
    · have := spotsC_some _ _ (by rw [itemsX_length, h.x4]) e1
      rw [itemsX_cnt hl] at this
      omega
    · have := (floC_iff hF h.f24).1 e2 i hi
      omega
  · intro hg
    rcases h.or with ⟨_, hX, hf⟩ | ⟨hn, _⟩
    · exact ⟨by rw [hX], (floC_iff hF h.f24).2 (fun i hi => (hf i hi).symm)⟩
    · exact absurd hg hn
end Go.Proofs.YtfibdnhihnccaaaGreat

/- Part: Whole shelves out of and into memory; slices.Backward over items: contracts. -/
namespace Go.Proofs.YtfibdnhihnccaaaGreat
open Go.RowKit Go.Shelf

abbrev fr0 : Fr := { t := 130, pre := [], post := [] }
def emptyX : List (Option KD) := List.replicate 4 none
def zeroF : List KD := List.replicate 24 ([0], [])
theorem emptyX_length : emptyX.length = 4 := rfl
theorem zeroF_length : zeroF.length = 24 := rfl
/-- The cells of a shelf that is a block of its own. -/
def cellsH (X : List (Option KD)) (F : List KD) : List Value := spotsC X ++ floC F
theorem cellsH_length {X : List (Option KD)} {F : List KD} (hx : X.length = 4) (hf : F.length = 24) : (cellsH X F).length = 108 := by
  rw [cellsH, List.length_append, spotsC_length, floC_length, hx, hf]
theorem cellsH_one (X : List (Option KD)) (F : List KD) : ∀ v ∈ cellsH X F, v.oneCell' = true := by
  intro v hv
  rcases List.mem_append.1 hv with h | h
  · exact spotsC_one X v h
  · exact floC_one F v h
theorem cellsS_fr0 (X : List (Option KD)) (F : List KD) : cellsS fr0 X F = cellsH X F := by simp [cellsS, cellsH]
theorem shAt_of {w : World} {g : Nat} {X : List (Option KD)} {F : List KD} (hx : X.length = 4) (hf : F.length = 24) (h : w.heap[g]? = some (.cells (cellsH X F).toArray 130 (0, 0))) : ShAt w g fr0 X F :=
  ⟨hx, hf, by rw [cellsS_fr0]; exact h⟩
theorem ShAt.whole {w : World} {g : Nat} {X : List (Option KD)} {F : List KD} (h : ShAt w g fr0 X F) : w.heap[g]? = some (.cells (cellsH X F).toArray 130 (0, 0)) := by
  rw [← cellsS_fr0]; exact h.row
theorem Tryz.infoX_shelf : (Tryz.prog.info? 130).map (·.size) = some 108 := by kernel_rfl
theorem Tryz.infoX_flo : (Tryz.prog.info? 128).map (·.size) = some 24 := by kernel_rfl
def ldH (v : Value) : Sem Value := Instr.loadAt 130 v
theorem ldH_open (v : Value) : Instr.loadAt 130 v = ldH v := rfl
theorem ldH_at {w : World} {g : Nat} {X : List (Option KD)} {F : List KD} (h : ShAt w g fr0 X F) : (ldH (.pointer (some ⟨g, 0, none⟩))).run Tryz.prog w = .ok (.agg (cellsH X F).toArray) w :=
  run_loadAt_mid w g 0 130 _ _ (rangeAt_whole h.whole) Tryz.underlying130 rfl (by rw [Tryz.infoX_shelf, cellsH_length h.x4 h.f24])
def ldF (v : Value) : Sem Value := Instr.loadAt 128 v
theorem ldF_open (v : Value) : Instr.loadAt 128 v = ldF v := rfl
theorem Tryz.shp_flo : Tryz.prog.underlying 128 = some (.array 24 3) := by kernel_rfl
theorem ldF_row {w : World} {b o : Nat} {F : List KD} (hf : F.length = 24) (h : w.rangeAt b o (floC F)) : (ldF (.pointer (some ⟨b, o, none⟩))).run Tryz.prog w = .ok (.agg (floC F).toArray) w :=
  run_loadAt_mid w b o 128 _ _ h Tryz.shp_flo rfl (by rw [Tryz.infoX_flo, floC_length, hf])
def stH (p v : Value) : Sem Unit := Instr.storeAt 130 p v
theorem stH_open (p v : Value) : Instr.storeAt 130 p v = stH p v := rfl
theorem stH_at {W : World} {g : Nat} {X Y : List (Option KD)} {F G : List KD} (h : ShAt W g fr0 X F) (hy : Y.length = 4) (hg : G.length = 24) :
    ∃ W', (stH (.pointer (some ⟨g, 0, none⟩)) (.agg (cellsH Y G).toArray)).run Tryz.prog W = .ok () W' ∧ ShAt W' g fr0 Y G ∧ Only (fun k => k = g) W W' ∧ W'.heap.size = W.heap.size := by
  have e : splice (cellsH X F) 0 (cellsH Y G) = cellsH Y G := by simp [splice, cellsH_length h.x4 h.f24, cellsH_length hy hg]
  refine ⟨W.setRow g (splice (cellsH X F) 0 (cellsH Y G)).toArray, run_store_splice W g 0 _ 130 _ _ h.whole (by rw [cellsH_length h.x4 h.f24, cellsH_length hy hg]; omega) (cellsH_one Y G) (by rw [Tryz.infoX_shelf, cellsH_length hy hg]), shAt_of hy hg ?_, only_setRow _ _ _, by simp [World.setRow]⟩
  rw [setRow_heap W g _ _ 130 _ h.whole, e]
theorem Tryz.zeroX_shelf : (Tryz.prog.info? 130).map (fun i => i.zero) = some (some (.agg (cellsH emptyX zeroF).toArray)) := by kernel_rfl
theorem zeroH (w : World) : (zeroValue 130).run Tryz.prog w = .ok (.agg (cellsH emptyX zeroF).toArray) w := by
  cases hq : Tryz.prog.info? 130 with
  | none => have := Tryz.zeroX_shelf; rw [hq] at this; cases this
  | some i =>
    have hz : i.zero = some (.agg (cellsH emptyX zeroF).toArray) := by have := Tryz.zeroX_shelf; rw [hq] at this; simpa using this
    simp [zeroValue, typeInfo, hq, hz]
def floN (f : Nat → Int) : List Value := (List.range 24).map (fun i => Value.int .i64 (f i))
theorem floC_N {F : List KD} (h : F.length = 24) : floC F = floN (flr F) := by
  apply List.ext_getElem?
  intro i
  by_cases hi : i < 24
  · rw [floC_get (by omega)]
    simp [floN, List.getElem?_range hi]
  · rw [List.getElem?_eq_none (by rw [floC_length]; omega), List.getElem?_eq_none (by simp [floN]; omega)]
/-- A shelf with floors alone. -/
def bdH (v : Value) : Sem Value := Instr.build 130 #[(1, v)]
theorem bdH_open (v : Value) : Instr.build 130 #[(1, v)] = bdH v := rfl
theorem bdH_N (f : Nat → Int) (w : World) : (bdH (.agg (floN f).toArray)).run Tryz.prog w = .ok (.agg (spotsC emptyX ++ floN f).toArray) w := by
  simp only [bdH]
  kernel_rfl
theorem bdH_run {F : List KD} (h : F.length = 24) (w : World) : (bdH (.agg (floC F).toArray)).run Tryz.prog w = .ok (.agg (cellsH emptyX F).toArray) w := by
  rw [cellsH, floC_N h]
  exact bdH_N _ w
theorem rdF_row {w : World} {b o : Nat} {F : List KD} (h : ∀ i, i < F.length → AtK 1 false w b (o + i * 1) (F.getD i kd0)) : w.rangeAt b o (floC F) := by
  intro j v hv
  have hj : j < F.length := by have := (List.getElem?_eq_some_iff.1 hv).1; rwa [floC_length] at this
  have := (h j hj).num 0 (by omega)
  rw [floC_get hj] at hv
  cases hv
  rw [Nat.mul_one, Nat.add_zero] at this
  exact this
theorem itemsX_set {I : List KD} {k : Nat} (hk : k < I.length) (h4 : I.length ≤ 4) : splice (itemsX (I.take k)) k [some (I.getD k kd0)] = itemsX (I.take (k + 1)) := by
  match I, h4 with
  | [], _ => simp at hk
  | [a], _ => obtain rfl : k = 0 := by simp at hk; omega
              rfl
  | [a, b], _ => obtain rfl | rfl : k = 0 ∨ k = 1 := by simp at hk; omega
                 all_goals rfl
  | [a, b, c], _ => obtain rfl | rfl | rfl : k = 0 ∨ k = 1 ∨ k = 2 := by simp at hk; omega
                    all_goals rfl
  | [a, b, c, d], _ => obtain rfl | rfl | rfl | rfl : k = 0 ∨ k = 1 ∨ k = 2 ∨ k = 3 := by simp at hk; omega
                       all_goals rfl

/-! ### Items from behind -/
/-- The items as they lie in memory. -/
structure ItemsAt (w : World) (n b o : Nat) (I : List KD) (us : Nat → Value) : Prop where
  len : I.length = n
  lt : b < w.heap.size
  c0 : ∀ i, i < n → w.cell? ⟨b, o + i * 4, none⟩ = some (.int .i64 (keyK (I.getD i kd0)))
  c1 : ∀ i, i < n → w.cell? ⟨b, o + i * 4 + 1, none⟩ = some (.int .i64 (verK (I.getD i kd0)))
  c2 : ∀ i, i < n → w.cell? ⟨b, o + i * 4 + 2, none⟩ = some (.int .i64 (numK (I.getD i kd0)))
  c3 : ∀ i, i < n → w.cell? ⟨b, o + i * 4 + 3, none⟩ = some (us i)
  rd : ∀ i, i < n → Rd w (us i) (I.getD i kd0).2
  l3 : ∀ i, i < n → (I.getD i kd0).1.length = 3
theorem itemsAt_of {w : World} {b o : Nat} {I : List KD} (hb : b < w.heap.size) (h : ∀ i, i < I.length → AtK 3 true w b (o + i * 4) (I.getD i kd0)) : ∃ us, ItemsAt w I.length b o I us := by
  refine ⟨fun i => if hi : i < I.length then Classical.choose ((h i hi).kin rfl) else default, rfl, hb, fun i hi => ?_, fun i hi => ?_, fun i hi => ?_, fun i hi => ?_, fun i hi => ?_, fun i hi => (h i hi).len⟩
  · exact (h i hi).num 0 (by omega)
  · exact (h i hi).num 1 (by omega)
  · exact (h i hi).num 2 (by omega)
  · simp only [hi, dif_pos]
    exact (Classical.choose_spec ((h i hi).kin rfl)).1
  · simp only [hi, dif_pos]
    exact (Classical.choose_spec ((h i hi).kin rfl)).2
theorem ItemsAt.later {w w' : World} {n b o : Nat} {I : List KD} {us : Nat → Value} (h : ItemsAt w n b o I us) (hb : Below w.heap.size w w') : ItemsAt w' n b o I us :=
  ⟨h.len, Nat.lt_of_lt_of_le h.lt hb.size, fun i hi => (hb.cell (p := ⟨b, o + i * 4, none⟩) h.lt).trans (h.c0 i hi), fun i hi => (hb.cell (p := ⟨b, o + i * 4 + 1, none⟩) h.lt).trans (h.c1 i hi),
    fun i hi => (hb.cell (p := ⟨b, o + i * 4 + 2, none⟩) h.lt).trans (h.c2 i hi), fun i hi => (hb.cell (p := ⟨b, o + i * 4 + 3, none⟩) h.lt).trans (h.c3 i hi), fun i hi => (h.rd i hi).later hb, h.l3⟩
/-- What the iterator hands over. -/
abbrev encI (I : List KD) (us : Nat → Value) (i : Fin I.length) : Array Value := #[.int .i64 ((i.val : Nat) : Int), .agg #[.int .i64 (keyK I[i.val]), .int .i64 (verK I[i.val]), .int .i64 (numK I[i.val]), us i.val]]
theorem getD_at {I : List KD} {q : Nat} (h : q < I.length) : I.getD q kd0 = I[q] := by simp [h]
/-- The places from behind; the first k of them. -/
def downs (n k : Nat) : List (Fin n) := (List.finRange n).reverse.take k
theorem downs_length (n k : Nat) (h : k ≤ n) : (downs n k).length = k := by simp [downs]; omega
theorem downs_more (n q : Nat) (h : q < n) : downs n (n - q) = downs n (n - (q + 1)) ++ [⟨q, h⟩] := by
  unfold downs
  rw [show n - q = (n - (q + 1)) + 1 from by omega, List.take_succ_eq_append_getElem (by simp; omega)]
  congr 2
  simp
  omega
theorem downs_all (n : Nat) : downs n n = (List.finRange n).reverse := by
  unfold downs
  exact List.take_of_length_le (by simp)
theorem downs_prefix (n k : Nat) : downs n k <+: downs n n := by
  rw [downs_all]
  exact List.take_prefix _ _
attribute [local go_sem] Oper.semAt_some
set_option maxRecDepth 100000 in
set_option maxHeartbeats 2000000 in
theorem back_in (n : Nat) (hn : 1 ≤ n) (l0 Bl : Nat) (ao : Option Addr) (cap : Nat) (I : List KD) (us : Nat → Value) (X : Nat) (Wz : World) (h4 : I.length ≤ 4)
    (hI : 0 < I.length → ∃ b o, ao = some ⟨b, o, none⟩ ∧ b ≠ X ∧ ItemsAt Wz I.length b o I us) (hXl : Bl ≠ X)
    (z1 : Wz.cell? ⟨Bl, 0, none⟩ = some (.slice ao I.length cap))
    (J Jx : List (Fin I.length) → World → Prop) (W : World) (hW : Below Wz.heap.size Wz W)
    (hY : ∀ pre x W1, J pre W1 → pre.length < I.length → YieldAt Fence.wide (n - 1) Tryz.prog l0 (encI I us x) W1 fun e W' =>
      (e = .returned (.bool true) ∧ J (pre ++ [x]) W' ∧ BelowX Wz.heap.size X W1 W') ∨ (e = .returned (.bool false) ∧ Jx (pre ++ [x]) W')) (h0 : J [] W) :
    CallsIn Fence.wide n Tryz.prog 123 #[.func (.yield l0) #[] #[], .pointer (some ⟨Bl, 0, none⟩)] W fun e W' => (∃ v, e = .returned v) ∧
      ((∃ ys, ys = downs I.length I.length ∧ J ys W') ∨ (∃ pre, pre <+: downs I.length I.length ∧ Jx pre W')) := by
  have hlz := World.block_lt_of_cell? _ _ z1
  have y1 : W.cell? ⟨Bl, 0, none⟩ = some (.slice ao I.length cap) := cell_later hW z1
  have HY := hid hY
  have HI := hid hI
  have hw1 : IntKind.i64.wrap ((I.length : Int) - 1) = (I.length : Int) - 1 := by rw [IntKind.wrap_i64]; omega
  clear hY hI
  refine callsIn_of_wp Tryz.func123 rfl trivial ?_ rfl
  simp only [Tryz.ntmps123, List.size_toArray, List.length_cons, List.length_nil, Nat.reduceAdd, Nat.reduceSub, Array.replicate_succ, Array.replicate_zero, List.push_toArray, List.append_toArray, List.nil_append, List.cons_append]
  gi_wp2
  gi_loopw [3] (fun i wr => ∃ r : Nat, r ≤ I.length ∧ i = .int .i64 ((r : Int) - 1) ∧ J (downs I.length (I.length - r)) wr ∧ BelowX Wz.heap.size X Wz wr) (fun i _ => (intOf i + 1).toNat)
  case atStart => exact ⟨I.length, Nat.le_refl _, rfl, by rw [Nat.sub_self]; simpa [downs] using h0, .of hW⟩
  case round =>
    obtain ⟨r, hr, rfl, hJs, hbel⟩ := hrel
    cases r with
    | succ q =>
      obtain ⟨b, o, rfl, hbX, hit⟩ := HI.out (by omega)
      have c0 := hbel.cell (p := ⟨b, o + q * 4, none⟩) hit.lt hbX (hit.c0 q (by omega))
      have c1 := hbel.cell (p := ⟨b, o + q * 4 + 1, none⟩) hit.lt hbX (hit.c1 q (by omega))
      have c2 := hbel.cell (p := ⟨b, o + q * 4 + 2, none⟩) hit.lt hbX (hit.c2 q (by omega))
      have c3 := hbel.cell (p := ⟨b, o + q * 4 + 3, none⟩) hit.lt hbX (hit.c3 q (by omega))
      have x1 := hbel.cell hlz hXl z1
      have HM := hid (downs_more I.length q (by omega))
      have hq : q < I.length := by omega
      have e1 : ((q + 1 : Nat) : Int) - 1 = (q : Int) := by omega
      have hw2 : IntKind.i64.wrap ((q : Int) - 1) = (q : Int) - 1 := by rw [IntKind.wrap_i64]; omega
      have hge : decide ((q : Int) ≥ 0) = true := by simp
      obtain ⟨fn, tmps, assign, body, hy, hR⟩ := HY.out _ ⟨q, hq⟩ wr hJs (by rw [downs_length _ _ (by omega)]; omega)
      simp only [encI] at hy
      rw [getD_at hq] at c0 c1 c2
      rw [e1]
      clear hit
      generalize keyK I[q] = p0 at *
      generalize verK I[q] = p1 at *
      generalize numK I[q] = p2 at *
      generalize us q = u at *
      gi_wp2
      refine hR.mono ?_
      rintro e W3 (⟨rfl, hJ3, hk3⟩ | ⟨rfl, hJx3⟩)
      · have hb3 : BelowX Wz.heap.size X Wz W3 := hbel.trans hk3
        gi_wp2
        go_roundw
        case rel => exact ⟨q, by omega, by simp, by rw [HM.out]; exact hJ3, hb3⟩
        case measure => simp [intOf]
      · gi_wp2
        refine bodyPost_ret (results_none rfl _ _ _) rfl ?_
        exact ⟨⟨_, rfl⟩, .inr ⟨_, by rw [← HM.out]; exact downs_prefix _ _, hJx3⟩⟩
    | zero =>
      have hge : decide ((((0 : Nat) : Int) - 1) ≥ 0) = false := by decide
      gi_wp2
      go_end0
      exact ⟨⟨_, rfl⟩, .inl ⟨_, rfl, by simpa using hJs⟩⟩
theorem back_stops (n : Nat) (hn : 1 ≤ n) (Bl : Nat) (ao : Option Addr) (cap : Nat) (I : List KD) (us : Nat → Value) (X : Nat) (Wz : World) (h4 : I.length ≤ 4)
    (hI : 0 < I.length → ∃ b o, ao = some ⟨b, o, none⟩ ∧ b ≠ X ∧ ItemsAt Wz I.length b o I us) (hXl : Bl ≠ X)
    (z1 : Wz.cell? ⟨Bl, 0, none⟩ = some (.slice ao I.length cap)) :
    SeqStopsK Fence.wide n Tryz.prog 123 #[.pointer (some ⟨Bl, 0, none⟩)] (encI I us) (BelowX Wz.heap.size X) (fun ys => ys = downs I.length I.length) (fun pre => pre <+: downs I.length I.length) I.length Wz :=
  fun l0 J Jx W hW _ _ hY h0 => back_in n hn l0 Bl ao cap I us X Wz h4 hI hXl z1 J Jx W hW hY h0
set_option maxHeartbeats 400000 in
theorem backward_any (ao : Option Addr) (n cap : Nat) (w : World) :
    Calls Tryz.prog 101 #[.slice ao n cap] w fun e w' => e = .returned (.func (.func 123) #[] #[.pointer (some ⟨w.heap.size, 0, none⟩)]) ∧ w' = w.alloc (.cells #[.slice ao n cap] 38) := by
  go_enter Tryz.func101, Tryz.ntmps101
  go_wp2
  go_ret
  exact ⟨by simp, rfl⟩
/-- What stands behind the items at some places, put anew. -/
def runS (F I : List KD) (pre : List (Fin I.length)) : List (Option KD) × List KD := pre.foldl (fun S i => stepS S I[i.val]) (emptyX, F)
theorem runS_more (F I : List KD) (pre : List (Fin I.length)) (x : Fin I.length) : runS F I (pre ++ [x]) = stepS (runS F I pre) I[x.val] := by simp [runS]
theorem runS_all (F I : List KD) : runS F I (downs I.length I.length) = anewS F I := by
  rw [runS, downs_all, List.foldl_reverse]
  have e1 : ∀ (l : List (Fin I.length)), l.foldr (fun x y => stepS y I[x.val]) (emptyX, F) = (l.map (fun x => I[x.val])).foldr (fun x S => stepS S x) (emptyX, F) := fun l => by rw [List.foldr_map]
  have e2 : (List.finRange I.length).map (fun x => I[x.val]) = I := by
    apply List.ext_getElem
    · simp
    · intro i h1 h2
      simp
  rw [e1, e2]
  rfl
end Go.Proofs.YtfibdnhihnccaaaGreat
