/- Whole shelves out of and into memory; slices.Backward over items: contracts. -/
import Derived.Test.YtnenlnadmdlcfaaXi
import Derived.Test.YtnenlnadmdlcfaaItP
namespace Go.Proofs.Ytnenlnadmdlcfaa
open Go.RowKit Go.Shelf

abbrev fr0 : Fr := { t := 69, pre := [], post := [] }
def emptyX : List (Option KD) := List.replicate 4 none
def zeroF : List KD := List.replicate 24 ([0], [])
theorem emptyX_length : emptyX.length = 4 := rfl
theorem zeroF_length : zeroF.length = 24 := rfl
/-- The cells of a shelf that is a block of its own. -/
def cellsH (X : List (Option KD)) (F : List KD) : List Value := spotsC X ++ floC F
theorem cellsH_length {X : List (Option KD)} {F : List KD} (hx : X.length = 4) (hf : F.length = 24) : (cellsH X F).length = 108 := by
  rw [cellsH, List.length_append, spotsC_length, floC_length, hx, hf]
theorem cellsH_one (X : List (Option KD)) (F : List KD) : ∀ v ∈ cellsH X F, v.oneCell' = true := by
  intro v hv
  rcases List.mem_append.1 hv with h | h
  · exact spotsC_one X v h
  · exact floC_one F v h
theorem cellsS_fr0 (X : List (Option KD)) (F : List KD) : cellsS fr0 X F = cellsH X F := by simp [cellsS, cellsH]
theorem shAt_of {w : World} {g : Nat} {X : List (Option KD)} {F : List KD} (hx : X.length = 4) (hf : F.length = 24) (h : w.heap[g]? = some (.cells (cellsH X F).toArray 69 (0, 0))) : ShAt w g fr0 X F :=
  ⟨hx, hf, by rw [cellsS_fr0]; exact h⟩
theorem ShAt.whole {w : World} {g : Nat} {X : List (Option KD)} {F : List KD} (h : ShAt w g fr0 X F) : w.heap[g]? = some (.cells (cellsH X F).toArray 69 (0, 0)) := by
  rw [← cellsS_fr0]; exact h.row
theorem Try.infoX_shelf : (Try.prog.info? 69).map (·.size) = some 108 := by kernel_rfl
theorem Try.infoX_flo : (Try.prog.info? 67).map (·.size) = some 24 := by kernel_rfl
def ldH (v : Value) : Sem Value := Instr.loadAt 69 v
theorem ldH_open (v : Value) : Instr.loadAt 69 v = ldH v := rfl
theorem ldH_at {w : World} {g : Nat} {X : List (Option KD)} {F : List KD} (h : ShAt w g fr0 X F) : (ldH (.pointer (some ⟨g, 0, none⟩))).run Try.prog w = .ok (.agg (cellsH X F).toArray) w :=
  run_loadAt_mid w g 0 69 _ _ (rangeAt_whole h.whole) Try.underlying69 rfl (by rw [Try.infoX_shelf, cellsH_length h.x4 h.f24])
def ldF (v : Value) : Sem Value := Instr.loadAt 67 v
theorem ldF_open (v : Value) : Instr.loadAt 67 v = ldF v := rfl
theorem Try.shp_flo : Try.prog.underlying 67 = some (.array 24 3) := by kernel_rfl
theorem ldF_row {w : World} {b o : Nat} {F : List KD} (hf : F.length = 24) (h : w.rangeAt b o (floC F)) : (ldF (.pointer (some ⟨b, o, none⟩))).run Try.prog w = .ok (.agg (floC F).toArray) w :=
  run_loadAt_mid w b o 67 _ _ h Try.shp_flo rfl (by rw [Try.infoX_flo, floC_length, hf])
def stH (p v : Value) : Sem Unit := Instr.storeAt 69 p v
theorem stH_open (p v : Value) : Instr.storeAt 69 p v = stH p v := rfl
theorem stH_at {W : World} {g : Nat} {X Y : List (Option KD)} {F G : List KD} (h : ShAt W g fr0 X F) (hy : Y.length = 4) (hg : G.length = 24) :
    ∃ W', (stH (.pointer (some ⟨g, 0, none⟩)) (.agg (cellsH Y G).toArray)).run Try.prog W = .ok () W' ∧ ShAt W' g fr0 Y G ∧ Only (fun k => k = g) W W' ∧ W'.heap.size = W.heap.size := by
  have e : splice (cellsH X F) 0 (cellsH Y G) = cellsH Y G := by simp [splice, cellsH_length h.x4 h.f24, cellsH_length hy hg]
  refine ⟨W.setRow g (splice (cellsH X F) 0 (cellsH Y G)).toArray, run_store_splice W g 0 _ 69 _ _ h.whole (by rw [cellsH_length h.x4 h.f24, cellsH_length hy hg]; omega) (cellsH_one Y G) (by rw [Try.infoX_shelf, cellsH_length hy hg]), shAt_of hy hg ?_, only_setRow _ _ _, by simp [World.setRow]⟩
  rw [setRow_heap W g _ _ 69 _ h.whole, e]
theorem Try.zeroX_shelf : (Try.prog.info? 69).map (fun i => i.zero) = some (some (.agg (cellsH emptyX zeroF).toArray)) := by kernel_rfl
theorem zeroH (w : World) : (zeroValue 69).run Try.prog w = .ok (.agg (cellsH emptyX zeroF).toArray) w := by
  cases hq : Try.prog.info? 69 with
  | none => have := Try.zeroX_shelf; rw [hq] at this; cases this
  | some i =>
    have hz : i.zero = some (.agg (cellsH emptyX zeroF).toArray) := by have := Try.zeroX_shelf; rw [hq] at this; simpa using this
    simp [zeroValue, typeInfo, hq, hz]
def floN (f : Nat → Int) : List Value := (List.range 24).map (fun i => Value.int .i64 (f i))
theorem floC_N {F : List KD} (h : F.length = 24) : floC F = floN (flr F) := by
  apply List.ext_getElem?
  intro i
  by_cases hi : i < 24
  · rw [floC_get (by omega)]
    simp [floN, List.getElem?_range hi]
  · rw [List.getElem?_eq_none (by rw [floC_length]; omega), List.getElem?_eq_none (by simp [floN]; omega)]
/-- A shelf with floors alone. -/
def bdH (v : Value) : Sem Value := Instr.build 69 #[(1, v)]
theorem bdH_open (v : Value) : Instr.build 69 #[(1, v)] = bdH v := rfl
theorem bdH_N (f : Nat → Int) (w : World) : (bdH (.agg (floN f).toArray)).run Try.prog w = .ok (.agg (spotsC emptyX ++ floN f).toArray) w := by
  simp only [bdH]
  kernel_rfl
theorem bdH_run {F : List KD} (h : F.length = 24) (w : World) : (bdH (.agg (floC F).toArray)).run Try.prog w = .ok (.agg (cellsH emptyX F).toArray) w := by
  rw [cellsH, floC_N h]
  exact bdH_N _ w
theorem rdF_row {w : World} {b o : Nat} {F : List KD} (h : ∀ i, i < F.length → AtK 1 false w b (o + i * 1) (F.getD i kd0)) : w.rangeAt b o (floC F) := by
  intro j v hv
  have hj : j < F.length := by have := (List.getElem?_eq_some_iff.1 hv).1; rwa [floC_length] at this
  have := (h j hj).num 0 (by omega)
  rw [floC_get hj] at hv
  cases hv
  rw [Nat.mul_one, Nat.add_zero] at this
  exact this
theorem itemsX_set {I : List KD} {k : Nat} (hk : k < I.length) (h4 : I.length ≤ 4) : splice (itemsX (I.take k)) k [some (I.getD k kd0)] = itemsX (I.take (k + 1)) := by
  match I, h4 with
  | [], _ => simp at hk
  | [a], _ => obtain rfl : k = 0 := by simp at hk; omega
              rfl
  | [a, b], _ => obtain rfl | rfl : k = 0 ∨ k = 1 := by simp at hk; omega
                 all_goals rfl
  | [a, b, c], _ => obtain rfl | rfl | rfl : k = 0 ∨ k = 1 ∨ k = 2 := by simp at hk; omega
                    all_goals rfl
  | [a, b, c, d], _ => obtain rfl | rfl | rfl | rfl : k = 0 ∨ k = 1 ∨ k = 2 ∨ k = 3 := by simp at hk; omega
                       all_goals rfl

/-! ### Items from behind -/
/-- The items as they lie in memory. -/
structure ItemsAt (w : World) (n b o : Nat) (I : List KD) (us : Nat → Value) : Prop where
  len : I.length = n
  lt : b < w.heap.size
  c0 : ∀ i, i < n → w.cell? ⟨b, o + i * 4, none⟩ = some (.int .i64 (keyK (I.getD i kd0)))
  c1 : ∀ i, i < n → w.cell? ⟨b, o + i * 4 + 1, none⟩ = some (.int .i64 (verK (I.getD i kd0)))
  c2 : ∀ i, i < n → w.cell? ⟨b, o + i * 4 + 2, none⟩ = some (.int .i64 (numK (I.getD i kd0)))
  c3 : ∀ i, i < n → w.cell? ⟨b, o + i * 4 + 3, none⟩ = some (us i)
  rd : ∀ i, i < n → Rd w (us i) (I.getD i kd0).2
  l3 : ∀ i, i < n → (I.getD i kd0).1.length = 3
theorem itemsAt_of {w : World} {b o : Nat} {I : List KD} (hb : b < w.heap.size) (h : ∀ i, i < I.length → AtK 3 true w b (o + i * 4) (I.getD i kd0)) : ∃ us, ItemsAt w I.length b o I us := by
  refine ⟨fun i => if hi : i < I.length then Classical.choose ((h i hi).kin rfl) else default, rfl, hb, fun i hi => ?_, fun i hi => ?_, fun i hi => ?_, fun i hi => ?_, fun i hi => ?_, fun i hi => (h i hi).len⟩
  · exact (h i hi).num 0 (by omega)
  · exact (h i hi).num 1 (by omega)
  · exact (h i hi).num 2 (by omega)
  · simp only [hi, dif_pos]
    exact (Classical.choose_spec ((h i hi).kin rfl)).1
  · simp only [hi, dif_pos]
    exact (Classical.choose_spec ((h i hi).kin rfl)).2
theorem ItemsAt.later {w w' : World} {n b o : Nat} {I : List KD} {us : Nat → Value} (h : ItemsAt w n b o I us) (hb : Below w.heap.size w w') : ItemsAt w' n b o I us :=
  ⟨h.len, Nat.lt_of_lt_of_le h.lt hb.size, fun i hi => (hb.cell (p := ⟨b, o + i * 4, none⟩) h.lt).trans (h.c0 i hi), fun i hi => (hb.cell (p := ⟨b, o + i * 4 + 1, none⟩) h.lt).trans (h.c1 i hi),
    fun i hi => (hb.cell (p := ⟨b, o + i * 4 + 2, none⟩) h.lt).trans (h.c2 i hi), fun i hi => (hb.cell (p := ⟨b, o + i * 4 + 3, none⟩) h.lt).trans (h.c3 i hi), fun i hi => (h.rd i hi).later hb, h.l3⟩
/-- What the iterator hands over. -/
abbrev encI (I : List KD) (us : Nat → Value) (i : Fin I.length) : Array Value := #[.int .i64 ((i.val : Nat) : Int), .agg #[.int .i64 (keyK I[i.val]), .int .i64 (verK I[i.val]), .int .i64 (numK I[i.val]), us i.val]]
theorem getD_at {I : List KD} {q : Nat} (h : q < I.length) : I.getD q kd0 = I[q] := by simp [h]
/-- The places from behind; the first k of them. -/
def downs (n k : Nat) : List (Fin n) := (List.finRange n).reverse.take k
theorem downs_length (n k : Nat) (h : k ≤ n) : (downs n k).length = k := by simp [downs]; omega
theorem downs_more (n q : Nat) (h : q < n) : downs n (n - q) = downs n (n - (q + 1)) ++ [⟨q, h⟩] := by
  unfold downs
  rw [show n - q = (n - (q + 1)) + 1 from by omega, List.take_succ_eq_append_getElem (by simp; omega)]
  congr 2
  simp
  omega
theorem downs_all (n : Nat) : downs n n = (List.finRange n).reverse := by
  unfold downs
  exact List.take_of_length_le (by simp)
theorem downs_prefix (n k : Nat) : downs n k <+: downs n n := by
  rw [downs_all]
  exact List.take_prefix _ _
attribute [local go_sem] Oper.semAt_some
set_option maxRecDepth 100000 in
set_option maxHeartbeats 2000000 in
theorem back_in (n : Nat) (hn : 1 ≤ n) (l0 Bl : Nat) (ao : Option Addr) (cap : Nat) (I : List KD) (us : Nat → Value) (X : Nat) (Wz : World) (h4 : I.length ≤ 4)
    (hI : 0 < I.length → ∃ b o, ao = some ⟨b, o, none⟩ ∧ b ≠ X ∧ ItemsAt Wz I.length b o I us) (hXl : Bl ≠ X)
    (z1 : Wz.cell? ⟨Bl, 0, none⟩ = some (.slice ao I.length cap))
    (J Jx : List (Fin I.length) → World → Prop) (W : World) (hW : Below Wz.heap.size Wz W)
    (hY : ∀ pre x W1, J pre W1 → pre.length < I.length → YieldAt Fence.wide (n - 1) Try.prog l0 (encI I us x) W1 fun e W' =>
      (e = .returned (.bool true) ∧ J (pre ++ [x]) W' ∧ BelowX Wz.heap.size X W1 W') ∨ (e = .returned (.bool false) ∧ Jx (pre ++ [x]) W')) (h0 : J [] W) :
    CallsIn Fence.wide n Try.prog 73 #[.func (.yield l0) #[] #[], .pointer (some ⟨Bl, 0, none⟩)] W fun e W' => (∃ v, e = .returned v) ∧
      ((∃ ys, ys = downs I.length I.length ∧ J ys W') ∨ (∃ pre, pre <+: downs I.length I.length ∧ Jx pre W')) := by
  have hlz := World.block_lt_of_cell? _ _ z1
  have y1 : W.cell? ⟨Bl, 0, none⟩ = some (.slice ao I.length cap) := cell_later hW z1
  have HY := hid hY
  have HI := hid hI
  have hw1 : IntKind.i64.wrap ((I.length : Int) - 1) = (I.length : Int) - 1 := by rw [IntKind.wrap_i64]; omega
  clear hY hI
  refine callsIn_of_wp Try.func73 rfl trivial ?_ rfl
  simp only [Try.ntmps73, List.size_toArray, List.length_cons, List.length_nil, Nat.reduceAdd, Nat.reduceSub, Array.replicate_succ, Array.replicate_zero, List.push_toArray, List.append_toArray, List.nil_append, List.cons_append]
  gi_wp2
  gi_loopw [3] (fun i wr => ∃ r : Nat, r ≤ I.length ∧ i = .int .i64 ((r : Int) - 1) ∧ J (downs I.length (I.length - r)) wr ∧ BelowX Wz.heap.size X Wz wr) (fun i _ => (intOf i + 1).toNat)
  case atStart => exact ⟨I.length, Nat.le_refl _, rfl, by rw [Nat.sub_self]; simpa [downs] using h0, .of hW⟩
  case round =>
    obtain ⟨r, hr, rfl, hJs, hbel⟩ := hrel
    cases r with
    | succ q =>
      obtain ⟨b, o, rfl, hbX, hit⟩ := HI.out (by omega)
      have c0 := hbel.cell (p := ⟨b, o + q * 4, none⟩) hit.lt hbX (hit.c0 q (by omega))
      have c1 := hbel.cell (p := ⟨b, o + q * 4 + 1, none⟩) hit.lt hbX (hit.c1 q (by omega))
      have c2 := hbel.cell (p := ⟨b, o + q * 4 + 2, none⟩) hit.lt hbX (hit.c2 q (by omega))
      have c3 := hbel.cell (p := ⟨b, o + q * 4 + 3, none⟩) hit.lt hbX (hit.c3 q (by omega))
      have x1 := hbel.cell hlz hXl z1
      have HM := hid (downs_more I.length q (by omega))
      have hq : q < I.length := by omega
      have e1 : ((q + 1 : Nat) : Int) - 1 = (q : Int) := by omega
      have hw2 : IntKind.i64.wrap ((q : Int) - 1) = (q : Int) - 1 := by rw [IntKind.wrap_i64]; omega
      have hge : decide ((q : Int) ≥ 0) = true := by simp
      obtain ⟨fn, tmps, assign, body, hy, hR⟩ := HY.out _ ⟨q, hq⟩ wr hJs (by rw [downs_length _ _ (by omega)]; omega)
      simp only [encI] at hy
      rw [getD_at hq] at c0 c1 c2
      rw [e1]
      clear hit
      generalize keyK I[q] = p0 at *
      generalize verK I[q] = p1 at *
      generalize numK I[q] = p2 at *
      generalize us q = u at *
      gi_wp2
      refine hR.mono ?_
      rintro e W3 (⟨rfl, hJ3, hk3⟩ | ⟨rfl, hJx3⟩)
      · have hb3 : BelowX Wz.heap.size X Wz W3 := hbel.trans hk3
        gi_wp2
        go_roundw
        case rel => exact ⟨q, by omega, by simp, by rw [HM.out]; exact hJ3, hb3⟩
        case measure => simp [intOf]
      · gi_wp2
        refine bodyPost_ret (results_none rfl _ _ _) rfl ?_
        exact ⟨⟨_, rfl⟩, .inr ⟨_, by rw [← HM.out]; exact downs_prefix _ _, hJx3⟩⟩
    | zero =>
      have hge : decide ((((0 : Nat) : Int) - 1) ≥ 0) = false := by decide
      gi_wp2
      go_end0
      exact ⟨⟨_, rfl⟩, .inl ⟨_, rfl, by simpa using hJs⟩⟩
theorem back_stops (n : Nat) (hn : 1 ≤ n) (Bl : Nat) (ao : Option Addr) (cap : Nat) (I : List KD) (us : Nat → Value) (X : Nat) (Wz : World) (h4 : I.length ≤ 4)
    (hI : 0 < I.length → ∃ b o, ao = some ⟨b, o, none⟩ ∧ b ≠ X ∧ ItemsAt Wz I.length b o I us) (hXl : Bl ≠ X)
    (z1 : Wz.cell? ⟨Bl, 0, none⟩ = some (.slice ao I.length cap)) :
    SeqStopsK Fence.wide n Try.prog 73 #[.pointer (some ⟨Bl, 0, none⟩)] (encI I us) (BelowX Wz.heap.size X) (fun ys => ys = downs I.length I.length) (fun pre => pre <+: downs I.length I.length) I.length Wz :=
  fun l0 J Jx W hW _ _ hY h0 => back_in n hn l0 Bl ao cap I us X Wz h4 hI hXl z1 J Jx W hW hY h0
set_option maxHeartbeats 400000 in
theorem backward_any (ao : Option Addr) (n cap : Nat) (w : World) :
    Calls Try.prog 57 #[.slice ao n cap] w fun e w' => e = .returned (.func (.func 73) #[] #[.pointer (some ⟨w.heap.size, 0, none⟩)]) ∧ w' = w.alloc (.cells #[.slice ao n cap] 34) := by
  go_enter Try.func57, Try.ntmps57
  go_wp2
  go_ret
  exact ⟨by simp, rfl⟩
/-- What stands behind the items at some places, put anew. -/
def runS (F I : List KD) (pre : List (Fin I.length)) : List (Option KD) × List KD := pre.foldl (fun S i => stepS S I[i.val]) (emptyX, F)
theorem runS_more (F I : List KD) (pre : List (Fin I.length)) (x : Fin I.length) : runS F I (pre ++ [x]) = stepS (runS F I pre) I[x.val] := by simp [runS]
theorem runS_all (F I : List KD) : runS F I (downs I.length I.length) = anewS F I := by
  rw [runS, downs_all, List.foldl_reverse]
  have e1 : ∀ (l : List (Fin I.length)), l.foldr (fun x y => stepS y I[x.val]) (emptyX, F) = (l.map (fun x => I[x.val])).foldr (fun x S => stepS S x) (emptyX, F) := fun l => by rw [List.foldr_map]
  have e2 : (List.finRange I.length).map (fun x => I[x.val]) = I := by
    apply List.ext_getElem
    · simp
    · intro i h1 h2
      simp
  rw [e1, e2]
  rfl
end Go.Proofs.Ytnenlnadmdlcfaa
