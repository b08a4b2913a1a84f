/- A tier falls: what becomes of it while it does something, behindTier with it, both TierFall: contracts. Written by a program (gqf.py). -/
import Derived.Test.YtddpoheoecafjaaGreatQe
import Derived.Test.YtddpoheoecafjaaGreatXt
namespace Go.Proofs.YtddpoheoecafjaaGreat
open Go.RowKit
attribute [local go_sem ↓] Go.wp_at_zero Go.wp_at_succ
attribute [local go_sem ↓] ldH_open stH_open zeroH bdK_open

/-- A tier as one thing: its numbers, and its cache. -/
structure TD where
  i0 : Int
  i1 : Int
  i2 : Int
  q0 : Bool
  q1 : Bool
  q2 : Bool
  q3 : Bool
  i3 : Int
  i4 : Int
  i5 : Int
  i6 : Int
  i7 : Int
  I : List KD
  F : List KD
def zTD : TD := ⟨0, 0, 0, false, false, false, false, 0, 0, 0, 0, 0, [], []⟩
/-- What becomes of a tier that falls. -/
def ansTF (i0 i1 i2 : Int) (q0 q1 q2 q3 : Bool) (i3 i4 i5 i6 i7 : Int) (I F : List KD) : TD :=
  bif okT i0 i1 i2 q0 q1 q2 q3 i3 i4 i5 i6 i7 I F then (if i1 = 1000 then ⟨i0, i1, i2, q0, q1, q2, q3, i3, i4, i5, i6, i7, I, F⟩ else ⟨i0, i1 + 1, 0, false, false, false, false, 0, 0, 0, 0, 0, [], zeroF⟩) else zTD
theorem bdK_idle (i0 i1 : Int) (w : World) : (bdK #[(0, .int .i64 i0), (1, .int .i64 i1), (4, idleW)]).run Tryz.prog w = .ok (.agg (cellsS (frK i0 i1 0 false false idleW (.slice none 0 0) (.slice none 0 0)) emptyX zeroF).toArray) w := by
  simp only [bdK]
  kernel_rfl
def stK (p v : Value) : Sem Unit := Instr.storeAt 124 p v
theorem stK_open (p v : Value) : Instr.storeAt 124 p v = stK p v := rfl
theorem Tryz.infoX_keeper : (Tryz.prog.info? 124).map (·.size) = some 116 := by kernel_rfl
theorem oneCell_frK {i0 i1 i2 : Int} {q0 q1 : Bool} {ty : TypeId} {x : Value} {X : List (Option KD)} {F : List KD} : ∀ v ∈ cellsS (frK i0 i1 i2 q0 q1 (.iface ty x) (.slice none 0 0) (.slice none 0 0)) X F, v.oneCell' = true := by
  intro v hv
  simp only [cellsS, List.mem_append] at hv
  rcases hv with h | h | h | h
  · simp only [List.mem_cons, List.not_mem_nil, or_false] at h
    rcases h with rfl | rfl | rfl | rfl | rfl | rfl <;> rfl
  · exact spotsC_one X v h
  · exact floC_one F v h
  · simp only [List.mem_cons, List.not_mem_nil, or_false] at h
    rcases h with rfl | rfl <;> rfl
theorem stK_at {W : World} {g : Nat} {X Y : List (Option KD)} {F G : List KD} {i0 i1 i2 j0 j1 j2 : Int} {q0 q1 p0 p1 : Bool} {wt sv tv : Value} {ty : TypeId} {x : Value} (h : ShAt W g (frK i0 i1 i2 q0 q1 wt sv tv) X F) (hy : Y.length = 4) (hg : G.length = 24) :
    ∃ W', (stK (.pointer (some ⟨g, 0, none⟩)) (.agg (cellsS (frK j0 j1 j2 p0 p1 (.iface ty x) (.slice none 0 0) (.slice none 0 0)) Y G).toArray)).run Tryz.prog W = .ok () W' ∧ ShAt W' g (frK j0 j1 j2 p0 p1 (.iface ty x) (.slice none 0 0) (.slice none 0 0)) Y G ∧ Only (fun k => k = g) W W' := by
  have l1 : (cellsS (frK i0 i1 i2 q0 q1 wt sv tv) X F).length = 116 := by rw [cellsS_length, h.x4, h.f24]; rfl
  have l2 : (cellsS (frK j0 j1 j2 p0 p1 (.iface ty x) (.slice none 0 0) (.slice none 0 0)) Y G).length = 116 := by rw [cellsS_length, hy, hg]; rfl
  have e : splice (cellsS (frK i0 i1 i2 q0 q1 wt sv tv) X F) 0 (cellsS (frK j0 j1 j2 p0 p1 (.iface ty x) (.slice none 0 0) (.slice none 0 0)) Y G) = cellsS (frK j0 j1 j2 p0 p1 (.iface ty x) (.slice none 0 0) (.slice none 0 0)) Y G := by simp [splice, l1, l2]
  refine ⟨W.setRow g (splice (cellsS (frK i0 i1 i2 q0 q1 wt sv tv) X F) 0 (cellsS (frK j0 j1 j2 p0 p1 (.iface ty x) (.slice none 0 0) (.slice none 0 0)) Y G)).toArray,
    run_store_splice W g 0 124 124 _ _ h.row (by rw [l1, l2]; omega) oneCell_frK (by rw [Tryz.infoX_keeper, l2]), ⟨hy, hg, ?_⟩, only_setRow _ _ _⟩
  rw [setRow_heap W g _ _ 124 _ h.row, e]
attribute [local go_sem ↓] stK_open
theorem keeperFall_max (i0 i1 i2 : Int) (q0 q1 : Bool) (wt sv tv : Value) (X : List (Option KD)) (F : List KD) (g : Nat) (w : World) (h : ShAt w g (frK i0 i1 i2 q0 q1 wt sv tv) X F) (hi : ¬ i1 < 1000) :
    Calls Tryz.prog 61 #[.pointer (some ⟨g, 0, none⟩)] w fun e w' => e = .returned (.tuple #[]) ∧ w' = w := by
  have p1 := h.pre 1 _ rfl
  clear h
  go_enter Tryz.func61, Tryz.ntmps61
  go_wp2
  go_end0
  exact ⟨rfl, rfl⟩
set_option maxRecDepth 100000 in
set_option maxHeartbeats 4000000 in
theorem keeperFall_less (i0 i1 i2 : Int) (q0 q1 : Bool) (wt sv tv : Value) (X : List (Option KD)) (F : List KD) (g : Nat) (w : World) (h : ShAt w g (frK i0 i1 i2 q0 q1 wt sv tv) X F) (hi : i1 < 1000) (h0 : 0 ≤ i1) :
    Calls Tryz.prog 61 #[.pointer (some ⟨g, 0, none⟩)] w fun e w' => e = .returned (.tuple #[]) ∧ ShAt w' g (frK i0 (i1 + 1) 0 false false idleW (.slice none 0 0) (.slice none 0 0)) emptyX zeroF ∧ Only (fun k => k = g) w w' := by
  have p0 := h.pre 0 _ rfl
  have p1 := h.pre 1 _ rfl
  have hw : IntKind.i64.wrap (i1 + 1) = i1 + 1 := by rw [IntKind.wrap_i64]; omega
  have hbd := fun W => bdK_idle i0 (i1 + 1) W
  obtain ⟨W', hst, h', o'⟩ := stK_at (j0 := i0) (j1 := i1 + 1) (j2 := 0) (p0 := false) (p1 := false) (ty := 126) (x := .agg #[]) h.drew emptyX_length zeroF_length
  have H' := hid h'
  have O' := hid (Only.trans (Only.later ((Below.refl _ w).drew)) o' : Only (fun k => k = g) w W')
  clear h h' o'
  go_enter Tryz.func61, Tryz.ntmps61
  go_wp2_with fail
  go_region
  all_goals
    go_wp2
    go_end0
    exact ⟨rfl, H'.out, O'.out⟩
end Go.Proofs.YtddpoheoecafjaaGreat
