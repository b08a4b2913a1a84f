/- A tier that does something, told (impl.keeper's tier), by what it waits for; it falls: contracts. Written by a program (gqd.py). -/
import Derived.Test.YtddpoheoecafjaaGreatQd
namespace Go.Proofs.YtddpoheoecafjaaGreat
open Go.RowKit
attribute [local go_sem ↓] Go.wp_at_zero Go.wp_at_succ
attribute [local go_sem ↓] ldH_open stH_open zeroH bdK_open

theorem told_is (X : List (Option KD)) (F I : List KD) (w : World) (h4 : X.length = 4) (hf : FloF F) (hx : ∀ x ∈ X.filterMap id, x.1.length = 3 ∧ x.2.length ≤ 8) (hI : X.filterMap id = I) :
    Calls Tryz.prog 92 #[.agg (cellsH X F).toArray] w fun e w' => EndC w.heap.size w' I F e ∧ Below w.heap.size w w' := hI ▸ told_any X F w h4 hf hx
/-- An answer that is a tier: its cache in memory of its own, from block B on. -/
def EndT (B : Nat) (w' : World) (sc : List Value) (I F : List KD) (e : Ending) : Prop :=
  ∃ (a : Option Addr) (c : Nat) (fo : Option Addr) (fc g : Nat), e = .returned (.agg (sc ++ ([.slice a I.length c, .slice fo F.length fc] : List Value)).toArray) ∧ B ≤ g ∧ g < w'.heap.size ∧ OwnM 84 4 3 true w' (Span (g + 1) w'.heap.size) (.slice a I.length c) I ∧ OwnFl w' g (.slice fo F.length fc) F
/-- Behind the statement that tells it. -/
def CutT (w : World) (sc : List Value) (I F : List KD) (wx : World) : Prop :=
  ∃ (a : Option Addr) (c : Nat) (fo : Option Addr) (fc g : Nat), VarAt wx w.heap.size (sc ++ ([.slice a I.length c, .slice fo F.length fc] : List Value)) ∧ w.heap.size ≤ g ∧ g < wx.heap.size ∧ OwnM 84 4 3 true wx (Span (g + 1) wx.heap.size) (.slice a I.length c) I ∧ OwnFl wx g (.slice fo F.length fc) F ∧ Below w.heap.size w wx
theorem OwnFl.out {w : World} {g : Nat} {v : Value} {F : List KD} (h : OwnFl w g v F) {p : Addr} (hp : p.block ≠ g) (u : Value) : OwnFl (w.setCell p u) g v F := h.agree (fun _ => Below.heap_setCell _ _ _ _ (fun e => hp e.symm))
/-- One store into the answer's own block, below what is owned. -/
theorem cutT_store {w wx : World} {vs : List Value} {a : Option Addr} {c g : Nat} {fv : Value} {I F : List KD} (hR : w.heap.size < g) (i : Nat) (hi : i < vs.length) (u : Value)
    (h : VarAt wx w.heap.size vs ∧ g < wx.heap.size ∧ OwnM 84 4 3 true wx (Span (g + 1) wx.heap.size) (.slice a I.length c) I ∧ OwnFl wx g fv F ∧ Below w.heap.size w wx) :
    VarAt (wx.setCell ⟨w.heap.size, i, none⟩ u) w.heap.size (vs.set i u) ∧ g < (wx.setCell ⟨w.heap.size, i, none⟩ u).heap.size ∧ OwnM 84 4 3 true (wx.setCell ⟨w.heap.size, i, none⟩ u) (Span (g + 1) (wx.setCell ⟨w.heap.size, i, none⟩ u).heap.size) (.slice a I.length c) I ∧ OwnFl (wx.setCell ⟨w.heap.size, i, none⟩ u) g fv F ∧ Below w.heap.size w (wx.setCell ⟨w.heap.size, i, none⟩ u) := by
  obtain ⟨h1, h2, h3, h4, h5⟩ := h
  have e : (wx.setCell ⟨w.heap.size, i, none⟩ u).heap.size = wx.heap.size := by simp
  rw [e]
  exact ⟨h1.set i hi u, h2, h3.set (p := ⟨w.heap.size, i, none⟩) (fun q => by have := q.1; simp only at this; omega) u, h4.out (p := ⟨w.heap.size, i, none⟩) (by show w.heap.size ≠ g; omega) u, h5.setCell (p := ⟨w.heap.size, i, none⟩) (Nat.le_refl _) u⟩
theorem keepT_rd {w4 : World} {R K s : Nat} {i0 i1 i2 : Int} {q0 q1 : Bool} {k : Int} {X : List (Option KD)} {F : List KD} {v0 v1 v2 v3 v4 v5 v6 v7 v8 v9 v10 v11 v12 v13 : Value} (hK : ¬ K = R) (hs : ¬ s = R) (h : w4.cell? ⟨K, 0, none⟩ = some (.int .i64 i0) ∧ w4.cell? ⟨K, 1, none⟩ = some (.int .i64 i1) ∧ w4.cell? ⟨K, 2, none⟩ = some (.int .i64 i2) ∧ w4.cell? ⟨K, 3, none⟩ = some (.bool q0) ∧ w4.cell? ⟨K, 4, none⟩ = some (.bool q1) ∧ w4.cell? ⟨s, 0, none⟩ = some (.bool true) ∧ w4.cell? ⟨s, 1, none⟩ = some (.bool true) ∧ w4.cell? ⟨s, 2, none⟩ = some (.int .i64 k) ∧ w4.cell? ⟨s, 3, none⟩ = some (.int .i64 0) ∧ w4.cell? ⟨s, 4, none⟩ = some (.int .i64 0) ∧ w4.cell? ⟨s, 5, none⟩ = some (.int .i64 0) ∧ w4.cell? ⟨s, 6, none⟩ = some (.int .i64 0) ∧ (∀ W : World, W.heap[K]? = w4.heap[K]? → (ldH (.pointer (some ⟨K, 6, none⟩))).run Tryz.prog W = .ok (.agg (cellsH X F).toArray) W)) : ((((((((((((((w4.setCell ⟨R, 0, none⟩ v0).setCell ⟨R, 1, none⟩ v1).setCell ⟨R, 2, none⟩ v2).setCell ⟨R, 3, none⟩ v3).setCell ⟨R, 4, none⟩ v4).setCell ⟨R, 5, none⟩ v5).setCell ⟨R, 6, none⟩ v6).setCell ⟨R, 7, none⟩ v7).setCell ⟨R, 8, none⟩ v8).setCell ⟨R, 9, none⟩ v9).setCell ⟨R, 10, none⟩ v10).setCell ⟨R, 11, none⟩ v11).setCell ⟨R, 12, none⟩ v12).setCell ⟨R, 13, none⟩ v13).cell? ⟨K, 0, none⟩ = some (.int .i64 i0) ∧ ((((((((((((((w4.setCell ⟨R, 0, none⟩ v0).setCell ⟨R, 1, none⟩ v1).setCell ⟨R, 2, none⟩ v2).setCell ⟨R, 3, none⟩ v3).setCell ⟨R, 4, none⟩ v4).setCell ⟨R, 5, none⟩ v5).setCell ⟨R, 6, none⟩ v6).setCell ⟨R, 7, none⟩ v7).setCell ⟨R, 8, none⟩ v8).setCell ⟨R, 9, none⟩ v9).setCell ⟨R, 10, none⟩ v10).setCell ⟨R, 11, none⟩ v11).setCell ⟨R, 12, none⟩ v12).setCell ⟨R, 13, none⟩ v13).cell? ⟨K, 1, none⟩ = some (.int .i64 i1) ∧ ((((((((((((((w4.setCell ⟨R, 0, none⟩ v0).setCell ⟨R, 1, none⟩ v1).setCell ⟨R, 2, none⟩ v2).setCell ⟨R, 3, none⟩ v3).setCell ⟨R, 4, none⟩ v4).setCell ⟨R, 5, none⟩ v5).setCell ⟨R, 6, none⟩ v6).setCell ⟨R, 7, none⟩ v7).setCell ⟨R, 8, none⟩ v8).setCell ⟨R, 9, none⟩ v9).setCell ⟨R, 10, none⟩ v10).setCell ⟨R, 11, none⟩ v11).setCell ⟨R, 12, none⟩ v12).setCell ⟨R, 13, none⟩ v13).cell? ⟨K, 2, none⟩ = some (.int .i64 i2) ∧ ((((((((((((((w4.setCell ⟨R, 0, none⟩ v0).setCell ⟨R, 1, none⟩ v1).setCell ⟨R, 2, none⟩ v2).setCell ⟨R, 3, none⟩ v3).setCell ⟨R, 4, none⟩ v4).setCell ⟨R, 5, none⟩ v5).setCell ⟨R, 6, none⟩ v6).setCell ⟨R, 7, none⟩ v7).setCell ⟨R, 8, none⟩ v8).setCell ⟨R, 9, none⟩ v9).setCell ⟨R, 10, none⟩ v10).setCell ⟨R, 11, none⟩ v11).setCell ⟨R, 12, none⟩ v12).setCell ⟨R, 13, none⟩ v13).cell? ⟨K, 3, none⟩ = some (.bool q0) ∧ ((((((((((((((w4.setCell ⟨R, 0, none⟩ v0).setCell ⟨R, 1, none⟩ v1).setCell ⟨R, 2, none⟩ v2).setCell ⟨R, 3, none⟩ v3).setCell ⟨R, 4, none⟩ v4).setCell ⟨R, 5, none⟩ v5).setCell ⟨R, 6, none⟩ v6).setCell ⟨R, 7, none⟩ v7).setCell ⟨R, 8, none⟩ v8).setCell ⟨R, 9, none⟩ v9).setCell ⟨R, 10, none⟩ v10).setCell ⟨R, 11, none⟩ v11).setCell ⟨R, 12, none⟩ v12).setCell ⟨R, 13, none⟩ v13).cell? ⟨K, 4, none⟩ = some (.bool q1) ∧ ((((((((((((((w4.setCell ⟨R, 0, none⟩ v0).setCell ⟨R, 1, none⟩ v1).setCell ⟨R, 2, none⟩ v2).setCell ⟨R, 3, none⟩ v3).setCell ⟨R, 4, none⟩ v4).setCell ⟨R, 5, none⟩ v5).setCell ⟨R, 6, none⟩ v6).setCell ⟨R, 7, none⟩ v7).setCell ⟨R, 8, none⟩ v8).setCell ⟨R, 9, none⟩ v9).setCell ⟨R, 10, none⟩ v10).setCell ⟨R, 11, none⟩ v11).setCell ⟨R, 12, none⟩ v12).setCell ⟨R, 13, none⟩ v13).cell? ⟨s, 0, none⟩ = some (.bool true) ∧ ((((((((((((((w4.setCell ⟨R, 0, none⟩ v0).setCell ⟨R, 1, none⟩ v1).setCell ⟨R, 2, none⟩ v2).setCell ⟨R, 3, none⟩ v3).setCell ⟨R, 4, none⟩ v4).setCell ⟨R, 5, none⟩ v5).setCell ⟨R, 6, none⟩ v6).setCell ⟨R, 7, none⟩ v7).setCell ⟨R, 8, none⟩ v8).setCell ⟨R, 9, none⟩ v9).setCell ⟨R, 10, none⟩ v10).setCell ⟨R, 11, none⟩ v11).setCell ⟨R, 12, none⟩ v12).setCell ⟨R, 13, none⟩ v13).cell? ⟨s, 1, none⟩ = some (.bool true) ∧ ((((((((((((((w4.setCell ⟨R, 0, none⟩ v0).setCell ⟨R, 1, none⟩ v1).setCell ⟨R, 2, none⟩ v2).setCell ⟨R, 3, none⟩ v3).setCell ⟨R, 4, none⟩ v4).setCell ⟨R, 5, none⟩ v5).setCell ⟨R, 6, none⟩ v6).setCell ⟨R, 7, none⟩ v7).setCell ⟨R, 8, none⟩ v8).setCell ⟨R, 9, none⟩ v9).setCell ⟨R, 10, none⟩ v10).setCell ⟨R, 11, none⟩ v11).setCell ⟨R, 12, none⟩ v12).setCell ⟨R, 13, none⟩ v13).cell? ⟨s, 2, none⟩ = some (.int .i64 k) ∧ ((((((((((((((w4.setCell ⟨R, 0, none⟩ v0).setCell ⟨R, 1, none⟩ v1).setCell ⟨R, 2, none⟩ v2).setCell ⟨R, 3, none⟩ v3).setCell ⟨R, 4, none⟩ v4).setCell ⟨R, 5, none⟩ v5).setCell ⟨R, 6, none⟩ v6).setCell ⟨R, 7, none⟩ v7).setCell ⟨R, 8, none⟩ v8).setCell ⟨R, 9, none⟩ v9).setCell ⟨R, 10, none⟩ v10).setCell ⟨R, 11, none⟩ v11).setCell ⟨R, 12, none⟩ v12).setCell ⟨R, 13, none⟩ v13).cell? ⟨s, 3, none⟩ = some (.int .i64 0) ∧ ((((((((((((((w4.setCell ⟨R, 0, none⟩ v0).setCell ⟨R, 1, none⟩ v1).setCell ⟨R, 2, none⟩ v2).setCell ⟨R, 3, none⟩ v3).setCell ⟨R, 4, none⟩ v4).setCell ⟨R, 5, none⟩ v5).setCell ⟨R, 6, none⟩ v6).setCell ⟨R, 7, none⟩ v7).setCell ⟨R, 8, none⟩ v8).setCell ⟨R, 9, none⟩ v9).setCell ⟨R, 10, none⟩ v10).setCell ⟨R, 11, none⟩ v11).setCell ⟨R, 12, none⟩ v12).setCell ⟨R, 13, none⟩ v13).cell? ⟨s, 4, none⟩ = some (.int .i64 0) ∧ ((((((((((((((w4.setCell ⟨R, 0, none⟩ v0).setCell ⟨R, 1, none⟩ v1).setCell ⟨R, 2, none⟩ v2).setCell ⟨R, 3, none⟩ v3).setCell ⟨R, 4, none⟩ v4).setCell ⟨R, 5, none⟩ v5).setCell ⟨R, 6, none⟩ v6).setCell ⟨R, 7, none⟩ v7).setCell ⟨R, 8, none⟩ v8).setCell ⟨R, 9, none⟩ v9).setCell ⟨R, 10, none⟩ v10).setCell ⟨R, 11, none⟩ v11).setCell ⟨R, 12, none⟩ v12).setCell ⟨R, 13, none⟩ v13).cell? ⟨s, 5, none⟩ = some (.int .i64 0) ∧ ((((((((((((((w4.setCell ⟨R, 0, none⟩ v0).setCell ⟨R, 1, none⟩ v1).setCell ⟨R, 2, none⟩ v2).setCell ⟨R, 3, none⟩ v3).setCell ⟨R, 4, none⟩ v4).setCell ⟨R, 5, none⟩ v5).setCell ⟨R, 6, none⟩ v6).setCell ⟨R, 7, none⟩ v7).setCell ⟨R, 8, none⟩ v8).setCell ⟨R, 9, none⟩ v9).setCell ⟨R, 10, none⟩ v10).setCell ⟨R, 11, none⟩ v11).setCell ⟨R, 12, none⟩ v12).setCell ⟨R, 13, none⟩ v13).cell? ⟨s, 6, none⟩ = some (.int .i64 0) ∧ (∀ W : World, W.heap[K]? = ((((((((((((((w4.setCell ⟨R, 0, none⟩ v0).setCell ⟨R, 1, none⟩ v1).setCell ⟨R, 2, none⟩ v2).setCell ⟨R, 3, none⟩ v3).setCell ⟨R, 4, none⟩ v4).setCell ⟨R, 5, none⟩ v5).setCell ⟨R, 6, none⟩ v6).setCell ⟨R, 7, none⟩ v7).setCell ⟨R, 8, none⟩ v8).setCell ⟨R, 9, none⟩ v9).setCell ⟨R, 10, none⟩ v10).setCell ⟨R, 11, none⟩ v11).setCell ⟨R, 12, none⟩ v12).setCell ⟨R, 13, none⟩ v13).heap[K]? → (ldH (.pointer (some ⟨K, 6, none⟩))).run Tryz.prog W = .ok (.agg (cellsH X F).toArray) W) := by
  have hl : ∀ k, ¬ k = R → ((((((((((((((w4.setCell ⟨R, 0, none⟩ v0).setCell ⟨R, 1, none⟩ v1).setCell ⟨R, 2, none⟩ v2).setCell ⟨R, 3, none⟩ v3).setCell ⟨R, 4, none⟩ v4).setCell ⟨R, 5, none⟩ v5).setCell ⟨R, 6, none⟩ v6).setCell ⟨R, 7, none⟩ v7).setCell ⟨R, 8, none⟩ v8).setCell ⟨R, 9, none⟩ v9).setCell ⟨R, 10, none⟩ v10).setCell ⟨R, 11, none⟩ v11).setCell ⟨R, 12, none⟩ v12).setCell ⟨R, 13, none⟩ v13).heap[k]? = w4.heap[k]? := fun k hk => by simp only [Below.heap_setCell _ _ _ _ (show k ≠ (Addr.mk R _ none).block from hk)]
  obtain ⟨h0, h1, h2, h3, h4, h5, h6, h7, h8, h9, h10, h11, hsh⟩ := h
  exact ⟨(World.cell?_of_block (a := ⟨K, 0, none⟩) (hl K hK)).trans h0, (World.cell?_of_block (a := ⟨K, 1, none⟩) (hl K hK)).trans h1, (World.cell?_of_block (a := ⟨K, 2, none⟩) (hl K hK)).trans h2, (World.cell?_of_block (a := ⟨K, 3, none⟩) (hl K hK)).trans h3, (World.cell?_of_block (a := ⟨K, 4, none⟩) (hl K hK)).trans h4,
    (World.cell?_of_block (a := ⟨s, 0, none⟩) (hl s hs)).trans h5, (World.cell?_of_block (a := ⟨s, 1, none⟩) (hl s hs)).trans h6, (World.cell?_of_block (a := ⟨s, 2, none⟩) (hl s hs)).trans h7, (World.cell?_of_block (a := ⟨s, 3, none⟩) (hl s hs)).trans h8, (World.cell?_of_block (a := ⟨s, 4, none⟩) (hl s hs)).trans h9, (World.cell?_of_block (a := ⟨s, 5, none⟩) (hl s hs)).trans h10, (World.cell?_of_block (a := ⟨s, 6, none⟩) (hl s hs)).trans h11, fun W hW => hsh W (hW.trans (hl K hK))⟩
set_option maxRecDepth 100000 in
set_option maxHeartbeats 8000000 in
theorem keeperTier_rd (i0 i1 i2 : Int) (q0 q1 : Bool) (k : Int) (sv tv : Value) (X : List (Option KD)) (F I : List KD) (K : Nat) (w : World) (h : ShAt w K (frK i0 i1 i2 q0 q1 (rdW k) sv tv) X F) (hF : FloF F)
    (hx : ∀ x ∈ X.filterMap id, x.1.length = 3 ∧ x.2.length ≤ 8) (hI : X.filterMap id = I) :
    Calls Tryz.prog 74 #[.pointer (some ⟨K, 0, none⟩)] w fun e w' => EndT w.heap.size w' [.int .i64 i0, .int .i64 i1, .int .i64 i2, .bool q0, .bool q1, .bool true, .bool true, .int .i64 k, .int .i64 0, .int .i64 0, .int .i64 0, .int .i64 0] I F e ∧ Below w.heap.size w w' := by
  have HS := hid h
  have H4 := hid h.x4
  have HF := hid hF
  have HX := hid hx
  have HI := hid hI
  have hK := h.lt
  have p5 := h.pre 5 _ rfl
  have hm := method_rdAsked k
  clear h hF hx hI
  go_enter Tryz.func74, Tryz.ntmps74
  go_wp2_with fail
  generalize hW1 : (w.alloc (.cells #[.int .i64 0, .int .i64 0, .int .i64 0, .bool false, .bool false, .bool false, .bool false, .int .i64 0, .int .i64 0, .int .i64 0, .int .i64 0, .int .i64 0, .slice none 0 0, .slice none 0 0] 38)) = w1
  have r0_1 : w1.cell? ⟨w.heap.size, 0, none⟩ = some (.int .i64 0) := by subst hW1; go_cell
  have rf0_1 : w1.frozen? ⟨w.heap.size, 0, none⟩ = false := by subst hW1; (first | go_cell | (simp [World.frozen?, World.alloc]; done) | rfl)
  have r1_1 : w1.cell? ⟨w.heap.size, 1, none⟩ = some (.int .i64 0) := by subst hW1; go_cell
  have rf1_1 : w1.frozen? ⟨w.heap.size, 1, none⟩ = false := by subst hW1; (first | go_cell | (simp [World.frozen?, World.alloc]; done) | rfl)
  have r2_1 : w1.cell? ⟨w.heap.size, 2, none⟩ = some (.int .i64 0) := by subst hW1; go_cell
  have rf2_1 : w1.frozen? ⟨w.heap.size, 2, none⟩ = false := by subst hW1; (first | go_cell | (simp [World.frozen?, World.alloc]; done) | rfl)
  have r3_1 : w1.cell? ⟨w.heap.size, 3, none⟩ = some (.bool false) := by subst hW1; go_cell
  have rf3_1 : w1.frozen? ⟨w.heap.size, 3, none⟩ = false := by subst hW1; (first | go_cell | (simp [World.frozen?, World.alloc]; done) | rfl)
  have r4_1 : w1.cell? ⟨w.heap.size, 4, none⟩ = some (.bool false) := by subst hW1; go_cell
  have rf4_1 : w1.frozen? ⟨w.heap.size, 4, none⟩ = false := by subst hW1; (first | go_cell | (simp [World.frozen?, World.alloc]; done) | rfl)
  have r5_1 : w1.cell? ⟨w.heap.size, 5, none⟩ = some (.bool false) := by subst hW1; go_cell
  have rf5_1 : w1.frozen? ⟨w.heap.size, 5, none⟩ = false := by subst hW1; (first | go_cell | (simp [World.frozen?, World.alloc]; done) | rfl)
  have r6_1 : w1.cell? ⟨w.heap.size, 6, none⟩ = some (.bool false) := by subst hW1; go_cell
  have rf6_1 : w1.frozen? ⟨w.heap.size, 6, none⟩ = false := by subst hW1; (first | go_cell | (simp [World.frozen?, World.alloc]; done) | rfl)
  have r7_1 : w1.cell? ⟨w.heap.size, 7, none⟩ = some (.int .i64 0) := by subst hW1; go_cell
  have rf7_1 : w1.frozen? ⟨w.heap.size, 7, none⟩ = false := by subst hW1; (first | go_cell | (simp [World.frozen?, World.alloc]; done) | rfl)
  have r8_1 : w1.cell? ⟨w.heap.size, 8, none⟩ = some (.int .i64 0) := by subst hW1; go_cell
  have rf8_1 : w1.frozen? ⟨w.heap.size, 8, none⟩ = false := by subst hW1; (first | go_cell | (simp [World.frozen?, World.alloc]; done) | rfl)
  have r9_1 : w1.cell? ⟨w.heap.size, 9, none⟩ = some (.int .i64 0) := by subst hW1; go_cell
  have rf9_1 : w1.frozen? ⟨w.heap.size, 9, none⟩ = false := by subst hW1; (first | go_cell | (simp [World.frozen?, World.alloc]; done) | rfl)
  have r10_1 : w1.cell? ⟨w.heap.size, 10, none⟩ = some (.int .i64 0) := by subst hW1; go_cell
  have rf10_1 : w1.frozen? ⟨w.heap.size, 10, none⟩ = false := by subst hW1; (first | go_cell | (simp [World.frozen?, World.alloc]; done) | rfl)
  have r11_1 : w1.cell? ⟨w.heap.size, 11, none⟩ = some (.int .i64 0) := by subst hW1; go_cell
  have rf11_1 : w1.frozen? ⟨w.heap.size, 11, none⟩ = false := by subst hW1; (first | go_cell | (simp [World.frozen?, World.alloc]; done) | rfl)
  have r12_1 : w1.cell? ⟨w.heap.size, 12, none⟩ = some (.slice none 0 0) := by subst hW1; go_cell
  have rf12_1 : w1.frozen? ⟨w.heap.size, 12, none⟩ = false := by subst hW1; (first | go_cell | (simp [World.frozen?, World.alloc]; done) | rfl)
  have r13_1 : w1.cell? ⟨w.heap.size, 13, none⟩ = some (.slice none 0 0) := by subst hW1; go_cell
  have rf13_1 : w1.frozen? ⟨w.heap.size, 13, none⟩ = false := by subst hW1; (first | go_cell | (simp [World.frozen?, World.alloc]; done) | rfl)
  have rl_1 : w.heap.size < w1.heap.size := by subst hW1; first | (simp; done) | (simp; omega)
  have c1 : Below w.heap.size w w1 := by subst hW1; go_grown
  have s1 : w1.heap.size = w.heap.size + 1 := by subst hW1; simp
  clear hW1
  have qr0_1 := cell_regrown r0_1
  have qr1_1 := cell_regrown r1_1
  have qr2_1 := cell_regrown r2_1
  have qr3_1 := cell_regrown r3_1
  have qr4_1 := cell_regrown r4_1
  have qr5_1 := cell_regrown r5_1
  have qr6_1 := cell_regrown r6_1
  have qr7_1 := cell_regrown r7_1
  have qr8_1 := cell_regrown r8_1
  have qr9_1 := cell_regrown r9_1
  have qr10_1 := cell_regrown r10_1
  have qr11_1 := cell_regrown r11_1
  have qr12_1 := cell_regrown r12_1
  have qr13_1 := cell_regrown r13_1
  have HS1 := hid (HS.out.later c1)
  refine (rdAsked_any k _).mono ?_
  rintro e w2 ⟨rfl, b2⟩
  have d2 : Below w1.heap.size w1 w2 := (Below.trans (by go_grown) (b2.mono (by first | omega | (simp; done) | (simp; omega))))
  have c2 : Below w.heap.size w w2 := c1.trans (d2.mono c1.size)
  have r0_2 : w2.cell? ⟨w.heap.size, 0, none⟩ = some (.int .i64 0) := (by rw [b2.cell (by first | omega | (simp; done) | (simp; omega))]; go_cell)
  have rf0_2 : w2.frozen? ⟨w.heap.size, 0, none⟩ = false := (by rw [b2.frozen (by first | omega | (simp; done) | (simp; omega))]; (first | go_cell | (simp [World.frozen?, World.alloc]; done) | rfl))
  have r1_2 : w2.cell? ⟨w.heap.size, 1, none⟩ = some (.int .i64 0) := (by rw [b2.cell (by first | omega | (simp; done) | (simp; omega))]; go_cell)
  have rf1_2 : w2.frozen? ⟨w.heap.size, 1, none⟩ = false := (by rw [b2.frozen (by first | omega | (simp; done) | (simp; omega))]; (first | go_cell | (simp [World.frozen?, World.alloc]; done) | rfl))
  have r2_2 : w2.cell? ⟨w.heap.size, 2, none⟩ = some (.int .i64 0) := (by rw [b2.cell (by first | omega | (simp; done) | (simp; omega))]; go_cell)
  have rf2_2 : w2.frozen? ⟨w.heap.size, 2, none⟩ = false := (by rw [b2.frozen (by first | omega | (simp; done) | (simp; omega))]; (first | go_cell | (simp [World.frozen?, World.alloc]; done) | rfl))
  have r3_2 : w2.cell? ⟨w.heap.size, 3, none⟩ = some (.bool false) := (by rw [b2.cell (by first | omega | (simp; done) | (simp; omega))]; go_cell)
  have rf3_2 : w2.frozen? ⟨w.heap.size, 3, none⟩ = false := (by rw [b2.frozen (by first | omega | (simp; done) | (simp; omega))]; (first | go_cell | (simp [World.frozen?, World.alloc]; done) | rfl))
  have r4_2 : w2.cell? ⟨w.heap.size, 4, none⟩ = some (.bool false) := (by rw [b2.cell (by first | omega | (simp; done) | (simp; omega))]; go_cell)
  have rf4_2 : w2.frozen? ⟨w.heap.size, 4, none⟩ = false := (by rw [b2.frozen (by first | omega | (simp; done) | (simp; omega))]; (first | go_cell | (simp [World.frozen?, World.alloc]; done) | rfl))
  have r5_2 : w2.cell? ⟨w.heap.size, 5, none⟩ = some (.bool false) := (by rw [b2.cell (by first | omega | (simp; done) | (simp; omega))]; go_cell)
  have rf5_2 : w2.frozen? ⟨w.heap.size, 5, none⟩ = false := (by rw [b2.frozen (by first | omega | (simp; done) | (simp; omega))]; (first | go_cell | (simp [World.frozen?, World.alloc]; done) | rfl))
  have r6_2 : w2.cell? ⟨w.heap.size, 6, none⟩ = some (.bool false) := (by rw [b2.cell (by first | omega | (simp; done) | (simp; omega))]; go_cell)
  have rf6_2 : w2.frozen? ⟨w.heap.size, 6, none⟩ = false := (by rw [b2.frozen (by first | omega | (simp; done) | (simp; omega))]; (first | go_cell | (simp [World.frozen?, World.alloc]; done) | rfl))
  have r7_2 : w2.cell? ⟨w.heap.size, 7, none⟩ = some (.int .i64 0) := (by rw [b2.cell (by first | omega | (simp; done) | (simp; omega))]; go_cell)
  have rf7_2 : w2.frozen? ⟨w.heap.size, 7, none⟩ = false := (by rw [b2.frozen (by first | omega | (simp; done) | (simp; omega))]; (first | go_cell | (simp [World.frozen?, World.alloc]; done) | rfl))
  have r8_2 : w2.cell? ⟨w.heap.size, 8, none⟩ = some (.int .i64 0) := (by rw [b2.cell (by first | omega | (simp; done) | (simp; omega))]; go_cell)
  have rf8_2 : w2.frozen? ⟨w.heap.size, 8, none⟩ = false := (by rw [b2.frozen (by first | omega | (simp; done) | (simp; omega))]; (first | go_cell | (simp [World.frozen?, World.alloc]; done) | rfl))
  have r9_2 : w2.cell? ⟨w.heap.size, 9, none⟩ = some (.int .i64 0) := (by rw [b2.cell (by first | omega | (simp; done) | (simp; omega))]; go_cell)
  have rf9_2 : w2.frozen? ⟨w.heap.size, 9, none⟩ = false := (by rw [b2.frozen (by first | omega | (simp; done) | (simp; omega))]; (first | go_cell | (simp [World.frozen?, World.alloc]; done) | rfl))
  have r10_2 : w2.cell? ⟨w.heap.size, 10, none⟩ = some (.int .i64 0) := (by rw [b2.cell (by first | omega | (simp; done) | (simp; omega))]; go_cell)
  have rf10_2 : w2.frozen? ⟨w.heap.size, 10, none⟩ = false := (by rw [b2.frozen (by first | omega | (simp; done) | (simp; omega))]; (first | go_cell | (simp [World.frozen?, World.alloc]; done) | rfl))
  have r11_2 : w2.cell? ⟨w.heap.size, 11, none⟩ = some (.int .i64 0) := (by rw [b2.cell (by first | omega | (simp; done) | (simp; omega))]; go_cell)
  have rf11_2 : w2.frozen? ⟨w.heap.size, 11, none⟩ = false := (by rw [b2.frozen (by first | omega | (simp; done) | (simp; omega))]; (first | go_cell | (simp [World.frozen?, World.alloc]; done) | rfl))
  have r12_2 : w2.cell? ⟨w.heap.size, 12, none⟩ = some (.slice none 0 0) := (by rw [b2.cell (by first | omega | (simp; done) | (simp; omega))]; go_cell)
  have rf12_2 : w2.frozen? ⟨w.heap.size, 12, none⟩ = false := (by rw [b2.frozen (by first | omega | (simp; done) | (simp; omega))]; (first | go_cell | (simp [World.frozen?, World.alloc]; done) | rfl))
  have r13_2 : w2.cell? ⟨w.heap.size, 13, none⟩ = some (.slice none 0 0) := (by rw [b2.cell (by first | omega | (simp; done) | (simp; omega))]; go_cell)
  have rf13_2 : w2.frozen? ⟨w.heap.size, 13, none⟩ = false := (by rw [b2.frozen (by first | omega | (simp; done) | (simp; omega))]; (first | go_cell | (simp [World.frozen?, World.alloc]; done) | rfl))
  have rl_2 : w.heap.size < w2.heap.size := (by have := b2.size; first | omega | (revert this; simp; done) | (revert this; simp; omega))
  clear r0_1 rf0_1 r1_1 rf1_1 r2_1 rf2_1 r3_1 rf3_1 r4_1 rf4_1 r5_1 rf5_1 r6_1 rf6_1 r7_1 rf7_1 r8_1 rf8_1 r9_1 rf9_1 r10_1 rf10_1 r11_1 rf11_1 r12_1 rf12_1 r13_1 rf13_1 rl_1
  have HS2 := hid (HS1.out.later d2)
  have rl_w : w.heap.size < w2.heap.size := rl_2
  clear b2 d2 HS1 p5
  go_upto_region 2 with fail
  generalize hW3 : (w2.alloc (.cells #[.bool true, .bool true, .int .i64 k, .int .i64 0, .int .i64 0, .int .i64 0, .int .i64 0] 69)) = w3
  have s0_3 : w3.cell? ⟨w2.heap.size, 0, none⟩ = some (.bool true) := by subst hW3; go_cell
  have s1_3 : w3.cell? ⟨w2.heap.size, 1, none⟩ = some (.bool true) := by subst hW3; go_cell
  have s2_3 : w3.cell? ⟨w2.heap.size, 2, none⟩ = some (.int .i64 k) := by subst hW3; go_cell
  have s3_3 : w3.cell? ⟨w2.heap.size, 3, none⟩ = some (.int .i64 0) := by subst hW3; go_cell
  have s4_3 : w3.cell? ⟨w2.heap.size, 4, none⟩ = some (.int .i64 0) := by subst hW3; go_cell
  have s5_3 : w3.cell? ⟨w2.heap.size, 5, none⟩ = some (.int .i64 0) := by subst hW3; go_cell
  have s6_3 : w3.cell? ⟨w2.heap.size, 6, none⟩ = some (.int .i64 0) := by subst hW3; go_cell
  have sl_3 : w2.heap.size < w3.heap.size := by subst hW3; simp
  have d3 : Below w2.heap.size w2 w3 := by subst hW3; go_grown
  clear hW3
  have c3 : Below w.heap.size w w3 := c2.trans (d3.mono c2.size)
  have r0_3 : w3.cell? ⟨w.heap.size, 0, none⟩ = some (.int .i64 0) := (by rw [d3.cell (by first | omega | (simp; done) | (simp; omega))]; go_cell)
  have rf0_3 : w3.frozen? ⟨w.heap.size, 0, none⟩ = false := (by rw [d3.frozen (by first | omega | (simp; done) | (simp; omega))]; (first | go_cell | (simp [World.frozen?, World.alloc]; done) | rfl))
  have r1_3 : w3.cell? ⟨w.heap.size, 1, none⟩ = some (.int .i64 0) := (by rw [d3.cell (by first | omega | (simp; done) | (simp; omega))]; go_cell)
  have rf1_3 : w3.frozen? ⟨w.heap.size, 1, none⟩ = false := (by rw [d3.frozen (by first | omega | (simp; done) | (simp; omega))]; (first | go_cell | (simp [World.frozen?, World.alloc]; done) | rfl))
  have r2_3 : w3.cell? ⟨w.heap.size, 2, none⟩ = some (.int .i64 0) := (by rw [d3.cell (by first | omega | (simp; done) | (simp; omega))]; go_cell)
  have rf2_3 : w3.frozen? ⟨w.heap.size, 2, none⟩ = false := (by rw [d3.frozen (by first | omega | (simp; done) | (simp; omega))]; (first | go_cell | (simp [World.frozen?, World.alloc]; done) | rfl))
  have r3_3 : w3.cell? ⟨w.heap.size, 3, none⟩ = some (.bool false) := (by rw [d3.cell (by first | omega | (simp; done) | (simp; omega))]; go_cell)
  have rf3_3 : w3.frozen? ⟨w.heap.size, 3, none⟩ = false := (by rw [d3.frozen (by first | omega | (simp; done) | (simp; omega))]; (first | go_cell | (simp [World.frozen?, World.alloc]; done) | rfl))
  have r4_3 : w3.cell? ⟨w.heap.size, 4, none⟩ = some (.bool false) := (by rw [d3.cell (by first | omega | (simp; done) | (simp; omega))]; go_cell)
  have rf4_3 : w3.frozen? ⟨w.heap.size, 4, none⟩ = false := (by rw [d3.frozen (by first | omega | (simp; done) | (simp; omega))]; (first | go_cell | (simp [World.frozen?, World.alloc]; done) | rfl))
  have r5_3 : w3.cell? ⟨w.heap.size, 5, none⟩ = some (.bool false) := (by rw [d3.cell (by first | omega | (simp; done) | (simp; omega))]; go_cell)
  have rf5_3 : w3.frozen? ⟨w.heap.size, 5, none⟩ = false := (by rw [d3.frozen (by first | omega | (simp; done) | (simp; omega))]; (first | go_cell | (simp [World.frozen?, World.alloc]; done) | rfl))
  have r6_3 : w3.cell? ⟨w.heap.size, 6, none⟩ = some (.bool false) := (by rw [d3.cell (by first | omega | (simp; done) | (simp; omega))]; go_cell)
  have rf6_3 : w3.frozen? ⟨w.heap.size, 6, none⟩ = false := (by rw [d3.frozen (by first | omega | (simp; done) | (simp; omega))]; (first | go_cell | (simp [World.frozen?, World.alloc]; done) | rfl))
  have r7_3 : w3.cell? ⟨w.heap.size, 7, none⟩ = some (.int .i64 0) := (by rw [d3.cell (by first | omega | (simp; done) | (simp; omega))]; go_cell)
  have rf7_3 : w3.frozen? ⟨w.heap.size, 7, none⟩ = false := (by rw [d3.frozen (by first | omega | (simp; done) | (simp; omega))]; (first | go_cell | (simp [World.frozen?, World.alloc]; done) | rfl))
  have r8_3 : w3.cell? ⟨w.heap.size, 8, none⟩ = some (.int .i64 0) := (by rw [d3.cell (by first | omega | (simp; done) | (simp; omega))]; go_cell)
  have rf8_3 : w3.frozen? ⟨w.heap.size, 8, none⟩ = false := (by rw [d3.frozen (by first | omega | (simp; done) | (simp; omega))]; (first | go_cell | (simp [World.frozen?, World.alloc]; done) | rfl))
  have r9_3 : w3.cell? ⟨w.heap.size, 9, none⟩ = some (.int .i64 0) := (by rw [d3.cell (by first | omega | (simp; done) | (simp; omega))]; go_cell)
  have rf9_3 : w3.frozen? ⟨w.heap.size, 9, none⟩ = false := (by rw [d3.frozen (by first | omega | (simp; done) | (simp; omega))]; (first | go_cell | (simp [World.frozen?, World.alloc]; done) | rfl))
  have r10_3 : w3.cell? ⟨w.heap.size, 10, none⟩ = some (.int .i64 0) := (by rw [d3.cell (by first | omega | (simp; done) | (simp; omega))]; go_cell)
  have rf10_3 : w3.frozen? ⟨w.heap.size, 10, none⟩ = false := (by rw [d3.frozen (by first | omega | (simp; done) | (simp; omega))]; (first | go_cell | (simp [World.frozen?, World.alloc]; done) | rfl))
  have r11_3 : w3.cell? ⟨w.heap.size, 11, none⟩ = some (.int .i64 0) := (by rw [d3.cell (by first | omega | (simp; done) | (simp; omega))]; go_cell)
  have rf11_3 : w3.frozen? ⟨w.heap.size, 11, none⟩ = false := (by rw [d3.frozen (by first | omega | (simp; done) | (simp; omega))]; (first | go_cell | (simp [World.frozen?, World.alloc]; done) | rfl))
  have r12_3 : w3.cell? ⟨w.heap.size, 12, none⟩ = some (.slice none 0 0) := (by rw [d3.cell (by first | omega | (simp; done) | (simp; omega))]; go_cell)
  have rf12_3 : w3.frozen? ⟨w.heap.size, 12, none⟩ = false := (by rw [d3.frozen (by first | omega | (simp; done) | (simp; omega))]; (first | go_cell | (simp [World.frozen?, World.alloc]; done) | rfl))
  have r13_3 : w3.cell? ⟨w.heap.size, 13, none⟩ = some (.slice none 0 0) := (by rw [d3.cell (by first | omega | (simp; done) | (simp; omega))]; go_cell)
  have rf13_3 : w3.frozen? ⟨w.heap.size, 13, none⟩ = false := (by rw [d3.frozen (by first | omega | (simp; done) | (simp; omega))]; (first | go_cell | (simp [World.frozen?, World.alloc]; done) | rfl))
  have rl_3 : w.heap.size < w3.heap.size := (by have := d3.size; omega)
  clear r0_2 rf0_2 r1_2 rf1_2 r2_2 rf2_2 r3_2 rf3_2 r4_2 rf4_2 r5_2 rf5_2 r6_2 rf6_2 r7_2 rf7_2 r8_2 rf8_2 r9_2 rf9_2 r10_2 rf10_2 r11_2 rf11_2 r12_2 rf12_2 r13_2 rf13_2 rl_2
  have HS3 := hid (HS2.out.later d3)
  have hK3 : K < w3.heap.size := HS3.out.lt
  have p0 := HS3.out.pre 0 _ rfl
  have p1 := HS3.out.pre 1 _ rfl
  have p2 := HS3.out.pre 2 _ rfl
  have p3 := HS3.out.pre 3 _ rfl
  have p4 := HS3.out.pre 4 _ rfl
  have hl : (∀ W : World, W.heap[K]? = w3.heap[K]? → (ldH (.pointer (some ⟨K, 6, none⟩))).run Tryz.prog W = .ok (.agg (cellsH X F).toArray) W) := fun W hW => ldH_fr (HS3.out.agree hW)
  have hl' : (∀ W : World, W.heap[K]? = w3.drew.heap[K]? → (ldH (.pointer (some ⟨K, 6, none⟩))).run Tryz.prog W = .ok (.agg (cellsH X F).toArray) W) := fun W hW => ldH_fr (HS3.out.agree hW)
  have V3 : Hid (VarAt w3 w.heap.size [.int .i64 0, .int .i64 0, .int .i64 0, .bool false, .bool false, .bool false, .bool false, .int .i64 0, .int .i64 0, .int .i64 0, .int .i64 0, .int .i64 0, .slice none 0 0, .slice none 0 0]) := hid ⟨rl_3, fun i v hv => by
    match i, hv with
    | 0, hv => cases hv; exact ⟨r0_3, rf0_3⟩
    | 1, hv => cases hv; exact ⟨r1_3, rf1_3⟩
    | 2, hv => cases hv; exact ⟨r2_3, rf2_3⟩
    | 3, hv => cases hv; exact ⟨r3_3, rf3_3⟩
    | 4, hv => cases hv; exact ⟨r4_3, rf4_3⟩
    | 5, hv => cases hv; exact ⟨r5_3, rf5_3⟩
    | 6, hv => cases hv; exact ⟨r6_3, rf6_3⟩
    | 7, hv => cases hv; exact ⟨r7_3, rf7_3⟩
    | 8, hv => cases hv; exact ⟨r8_3, rf8_3⟩
    | 9, hv => cases hv; exact ⟨r9_3, rf9_3⟩
    | 10, hv => cases hv; exact ⟨r10_3, rf10_3⟩
    | 11, hv => cases hv; exact ⟨r11_3, rf11_3⟩
    | 12, hv => cases hv; exact ⟨r12_3, rf12_3⟩
    | 13, hv => cases hv; exact ⟨r13_3, rf13_3⟩⟩
  have HW3 := hid (show w.heap.size < w3.heap.size from rl_3)
  clear d3 HS2
  go_cut [3] from 3 (fun _ wx => CutT w [.int .i64 i0, .int .i64 i1, .int .i64 i2, .bool q0, .bool q1, .bool true, .bool true, .int .i64 k, .int .i64 0, .int .i64 0, .int .i64 0, .int .i64 0] I F wx)
  case first =>
    have hn1 : ¬ K = w.heap.size := by omega
    have hn2 : ¬ w2.heap.size = w.heap.size := by omega
    have S3 : Hid (w3.drew.cell? ⟨K, 0, none⟩ = some (.int .i64 i0) ∧ w3.drew.cell? ⟨K, 1, none⟩ = some (.int .i64 i1) ∧ w3.drew.cell? ⟨K, 2, none⟩ = some (.int .i64 i2) ∧ w3.drew.cell? ⟨K, 3, none⟩ = some (.bool q0) ∧ w3.drew.cell? ⟨K, 4, none⟩ = some (.bool q1) ∧ w3.drew.cell? ⟨w2.heap.size, 0, none⟩ = some (.bool true) ∧ w3.drew.cell? ⟨w2.heap.size, 1, none⟩ = some (.bool true) ∧ w3.drew.cell? ⟨w2.heap.size, 2, none⟩ = some (.int .i64 k) ∧ w3.drew.cell? ⟨w2.heap.size, 3, none⟩ = some (.int .i64 0) ∧ w3.drew.cell? ⟨w2.heap.size, 4, none⟩ = some (.int .i64 0) ∧ w3.drew.cell? ⟨w2.heap.size, 5, none⟩ = some (.int .i64 0) ∧ w3.drew.cell? ⟨w2.heap.size, 6, none⟩ = some (.int .i64 0) ∧ (∀ W : World, W.heap[K]? = w3.drew.heap[K]? → (ldH (.pointer (some ⟨K, 6, none⟩))).run Tryz.prog W = .ok (.agg (cellsH X F).toArray) W)) := hid ⟨p0, p1, p2, p3, p4, s0_3, s1_3, s2_3, s3_3, s4_3, s5_3, s6_3, hl'⟩
    clear hl'
    go_region_held3 (fun w' => w'.cell? ⟨K, 0, none⟩ = some (.int .i64 i0) ∧ w'.cell? ⟨K, 1, none⟩ = some (.int .i64 i1) ∧ w'.cell? ⟨K, 2, none⟩ = some (.int .i64 i2) ∧ w'.cell? ⟨K, 3, none⟩ = some (.bool q0) ∧ w'.cell? ⟨K, 4, none⟩ = some (.bool q1) ∧ w'.cell? ⟨w2.heap.size, 0, none⟩ = some (.bool true) ∧ w'.cell? ⟨w2.heap.size, 1, none⟩ = some (.bool true) ∧ w'.cell? ⟨w2.heap.size, 2, none⟩ = some (.int .i64 k) ∧ w'.cell? ⟨w2.heap.size, 3, none⟩ = some (.int .i64 0) ∧ w'.cell? ⟨w2.heap.size, 4, none⟩ = some (.int .i64 0) ∧ w'.cell? ⟨w2.heap.size, 5, none⟩ = some (.int .i64 0) ∧ w'.cell? ⟨w2.heap.size, 6, none⟩ = some (.int .i64 0) ∧ (∀ W : World, W.heap[K]? = w'.heap[K]? → (ldH (.pointer (some ⟨K, 6, none⟩))).run Tryz.prog W = .ok (.agg (cellsH X F).toArray) W)) (first | with_reducible exact S3.out | with_reducible exact S4.out | with_reducible exact keepT_rd hn1 hn2 S4.out | go_keep) (first
      | (go_at_call 92; refine (told_is X F I _ H4.out HF.out HX.out HI.out).mono ?_; rintro e w4 ⟨⟨ua, uc, fv, g, rfl, hgB, hgS, hgo, hgf⟩, b4⟩; obtain ⟨fo, fc, hfv⟩ := hgf.slice; subst hfv; have d4 : Below w3.heap.size w3 w4 := (Below.trans (by go_grown) (b4.mono (by first | omega | (simp; done) | (simp; omega)))); have c4 : Below w.heap.size w w4 := c3.trans (d4.mono c3.size); have s0_4 : w4.cell? ⟨w2.heap.size, 0, none⟩ = some (.bool true) := (by rw [b4.cell (by first | omega | (simp; done) | (simp; omega))]; go_cell); have s1_4 : w4.cell? ⟨w2.heap.size, 1, none⟩ = some (.bool true) := (by rw [b4.cell (by first | omega | (simp; done) | (simp; omega))]; go_cell); have s2_4 : w4.cell? ⟨w2.heap.size, 2, none⟩ = some (.int .i64 k) := (by rw [b4.cell (by first | omega | (simp; done) | (simp; omega))]; go_cell); have s3_4 : w4.cell? ⟨w2.heap.size, 3, none⟩ = some (.int .i64 0) := (by rw [b4.cell (by first | omega | (simp; done) | (simp; omega))]; go_cell); have s4_4 : w4.cell? ⟨w2.heap.size, 4, none⟩ = some (.int .i64 0) := (by rw [b4.cell (by first | omega | (simp; done) | (simp; omega))]; go_cell); have s5_4 : w4.cell? ⟨w2.heap.size, 5, none⟩ = some (.int .i64 0) := (by rw [b4.cell (by first | omega | (simp; done) | (simp; omega))]; go_cell); have s6_4 : w4.cell? ⟨w2.heap.size, 6, none⟩ = some (.int .i64 0) := (by rw [b4.cell (by first | omega | (simp; done) | (simp; omega))]; go_cell); have sl_4 : w2.heap.size < w4.heap.size := (by have := b4.size; first | omega | (revert this; simp; done) | (revert this; simp; omega)); have r0_4 : w4.cell? ⟨w.heap.size, 0, none⟩ = some (.int .i64 0) := (by rw [b4.cell (by first | omega | (simp; done) | (simp; omega))]; go_cell); have rf0_4 : w4.frozen? ⟨w.heap.size, 0, none⟩ = false := (by rw [b4.frozen (by first | omega | (simp; done) | (simp; omega))]; (first | go_cell | (simp [World.frozen?, World.alloc]; done) | rfl)); have r1_4 : w4.cell? ⟨w.heap.size, 1, none⟩ = some (.int .i64 0) := (by rw [b4.cell (by first | omega | (simp; done) | (simp; omega))]; go_cell); have rf1_4 : w4.frozen? ⟨w.heap.size, 1, none⟩ = false := (by rw [b4.frozen (by first | omega | (simp; done) | (simp; omega))]; (first | go_cell | (simp [World.frozen?, World.alloc]; done) | rfl)); have r2_4 : w4.cell? ⟨w.heap.size, 2, none⟩ = some (.int .i64 0) := (by rw [b4.cell (by first | omega | (simp; done) | (simp; omega))]; go_cell); have rf2_4 : w4.frozen? ⟨w.heap.size, 2, none⟩ = false := (by rw [b4.frozen (by first | omega | (simp; done) | (simp; omega))]; (first | go_cell | (simp [World.frozen?, World.alloc]; done) | rfl)); have r3_4 : w4.cell? ⟨w.heap.size, 3, none⟩ = some (.bool false) := (by rw [b4.cell (by first | omega | (simp; done) | (simp; omega))]; go_cell); have rf3_4 : w4.frozen? ⟨w.heap.size, 3, none⟩ = false := (by rw [b4.frozen (by first | omega | (simp; done) | (simp; omega))]; (first | go_cell | (simp [World.frozen?, World.alloc]; done) | rfl)); have r4_4 : w4.cell? ⟨w.heap.size, 4, none⟩ = some (.bool false) := (by rw [b4.cell (by first | omega | (simp; done) | (simp; omega))]; go_cell); have rf4_4 : w4.frozen? ⟨w.heap.size, 4, none⟩ = false := (by rw [b4.frozen (by first | omega | (simp; done) | (simp; omega))]; (first | go_cell | (simp [World.frozen?, World.alloc]; done) | rfl)); have r5_4 : w4.cell? ⟨w.heap.size, 5, none⟩ = some (.bool false) := (by rw [b4.cell (by first | omega | (simp; done) | (simp; omega))]; go_cell); have rf5_4 : w4.frozen? ⟨w.heap.size, 5, none⟩ = false := (by rw [b4.frozen (by first | omega | (simp; done) | (simp; omega))]; (first | go_cell | (simp [World.frozen?, World.alloc]; done) | rfl)); have r6_4 : w4.cell? ⟨w.heap.size, 6, none⟩ = some (.bool false) := (by rw [b4.cell (by first | omega | (simp; done) | (simp; omega))]; go_cell); have rf6_4 : w4.frozen? ⟨w.heap.size, 6, none⟩ = false := (by rw [b4.frozen (by first | omega | (simp; done) | (simp; omega))]; (first | go_cell | (simp [World.frozen?, World.alloc]; done) | rfl)); have r7_4 : w4.cell? ⟨w.heap.size, 7, none⟩ = some (.int .i64 0) := (by rw [b4.cell (by first | omega | (simp; done) | (simp; omega))]; go_cell); have rf7_4 : w4.frozen? ⟨w.heap.size, 7, none⟩ = false := (by rw [b4.frozen (by first | omega | (simp; done) | (simp; omega))]; (first | go_cell | (simp [World.frozen?, World.alloc]; done) | rfl)); have r8_4 : w4.cell? ⟨w.heap.size, 8, none⟩ = some (.int .i64 0) := (by rw [b4.cell (by first | omega | (simp; done) | (simp; omega))]; go_cell); have rf8_4 : w4.frozen? ⟨w.heap.size, 8, none⟩ = false := (by rw [b4.frozen (by first | omega | (simp; done) | (simp; omega))]; (first | go_cell | (simp [World.frozen?, World.alloc]; done) | rfl)); have r9_4 : w4.cell? ⟨w.heap.size, 9, none⟩ = some (.int .i64 0) := (by rw [b4.cell (by first | omega | (simp; done) | (simp; omega))]; go_cell); have rf9_4 : w4.frozen? ⟨w.heap.size, 9, none⟩ = false := (by rw [b4.frozen (by first | omega | (simp; done) | (simp; omega))]; (first | go_cell | (simp [World.frozen?, World.alloc]; done) | rfl)); have r10_4 : w4.cell? ⟨w.heap.size, 10, none⟩ = some (.int .i64 0) := (by rw [b4.cell (by first | omega | (simp; done) | (simp; omega))]; go_cell); have rf10_4 : w4.frozen? ⟨w.heap.size, 10, none⟩ = false := (by rw [b4.frozen (by first | omega | (simp; done) | (simp; omega))]; (first | go_cell | (simp [World.frozen?, World.alloc]; done) | rfl)); have r11_4 : w4.cell? ⟨w.heap.size, 11, none⟩ = some (.int .i64 0) := (by rw [b4.cell (by first | omega | (simp; done) | (simp; omega))]; go_cell); have rf11_4 : w4.frozen? ⟨w.heap.size, 11, none⟩ = false := (by rw [b4.frozen (by first | omega | (simp; done) | (simp; omega))]; (first | go_cell | (simp [World.frozen?, World.alloc]; done) | rfl)); have r12_4 : w4.cell? ⟨w.heap.size, 12, none⟩ = some (.slice none 0 0) := (by rw [b4.cell (by first | omega | (simp; done) | (simp; omega))]; go_cell); have rf12_4 : w4.frozen? ⟨w.heap.size, 12, none⟩ = false := (by rw [b4.frozen (by first | omega | (simp; done) | (simp; omega))]; (first | go_cell | (simp [World.frozen?, World.alloc]; done) | rfl)); have r13_4 : w4.cell? ⟨w.heap.size, 13, none⟩ = some (.slice none 0 0) := (by rw [b4.cell (by first | omega | (simp; done) | (simp; omega))]; go_cell); have rf13_4 : w4.frozen? ⟨w.heap.size, 13, none⟩ = false := (by rw [b4.frozen (by first | omega | (simp; done) | (simp; omega))]; (first | go_cell | (simp [World.frozen?, World.alloc]; done) | rfl)); have rl_4 : w.heap.size < w4.heap.size := (by have := b4.size; first | omega | (revert this; simp; done) | (revert this; simp; omega)); clear s0_3 s1_3 s2_3 s3_3 s4_3 s5_3 s6_3 sl_3 r0_3 rf0_3 r1_3 rf1_3 r2_3 rf2_3 r3_3 rf3_3 r4_3 rf4_3 r5_3 rf5_3 r6_3 rf6_3 r7_3 rf7_3 r8_3 rf8_3 r9_3 rf9_3 r10_3 rf10_3 r11_3 rf11_3 r12_3 rf12_3 r13_3 rf13_3 rl_3; have HO4 := hid hgo; have HF4 := hid hgf; have HG4 := hid (And.intro hgB hgS); have V4 := hid (V3.out.later d4); have HGR := hid (show w.heap.size < g from Nat.lt_of_lt_of_le HW3.out hgB); have P4 := hid (HS3.out.later d4); have hK4 := P4.out.lt; have p0_4 := P4.out.pre 0 _ rfl; have p1_4 := P4.out.pre 1 _ rfl; have p2_4 := P4.out.pre 2 _ rfl; have p3_4 := P4.out.pre 3 _ rfl; have p4_4 := P4.out.pre 4 _ rfl; have hl4 : (∀ W : World, W.heap[K]? = w4.heap[K]? → (ldH (.pointer (some ⟨K, 6, none⟩))).run Tryz.prog W = .ok (.agg (cellsH X F).toArray) W) := fun W hW => ldH_fr (P4.out.agree hW); have S4 : Hid (w4.cell? ⟨K, 0, none⟩ = some (.int .i64 i0) ∧ w4.cell? ⟨K, 1, none⟩ = some (.int .i64 i1) ∧ w4.cell? ⟨K, 2, none⟩ = some (.int .i64 i2) ∧ w4.cell? ⟨K, 3, none⟩ = some (.bool q0) ∧ w4.cell? ⟨K, 4, none⟩ = some (.bool q1) ∧ w4.cell? ⟨w2.heap.size, 0, none⟩ = some (.bool true) ∧ w4.cell? ⟨w2.heap.size, 1, none⟩ = some (.bool true) ∧ w4.cell? ⟨w2.heap.size, 2, none⟩ = some (.int .i64 k) ∧ w4.cell? ⟨w2.heap.size, 3, none⟩ = some (.int .i64 0) ∧ w4.cell? ⟨w2.heap.size, 4, none⟩ = some (.int .i64 0) ∧ w4.cell? ⟨w2.heap.size, 5, none⟩ = some (.int .i64 0) ∧ w4.cell? ⟨w2.heap.size, 6, none⟩ = some (.int .i64 0) ∧ (∀ W : World, W.heap[K]? = w4.heap[K]? → (ldH (.pointer (some ⟨K, 6, none⟩))).run Tryz.prog W = .ok (.agg (cellsH X F).toArray) W)) := hid ⟨p0_4, p1_4, p2_4, p3_4, p4_4, s0_4, s1_4, s2_4, s3_4, s4_4, s5_4, s6_4, hl4⟩; clear b4 hgo hgf hgB hgS))
    all_goals
      go_wp2_with fail
      go_meet
      have HC := (cutT_store HGR.out 13 (by simp) (.slice fo F.length fc) (cutT_store HGR.out 12 (by simp) (.slice ua I.length uc) (cutT_store HGR.out 11 (by simp) (.int .i64 0) (cutT_store HGR.out 10 (by simp) (.int .i64 0) (cutT_store HGR.out 9 (by simp) (.int .i64 0) (cutT_store HGR.out 8 (by simp) (.int .i64 0) (cutT_store HGR.out 7 (by simp) (.int .i64 k) (cutT_store HGR.out 6 (by simp) (.bool true) (cutT_store HGR.out 5 (by simp) (.bool true) (cutT_store HGR.out 4 (by simp) (.bool q1) (cutT_store HGR.out 3 (by simp) (.bool q0) (cutT_store HGR.out 2 (by simp) (.int .i64 i2) (cutT_store HGR.out 1 (by simp) (.int .i64 i1) (cutT_store HGR.out 0 (by simp) (.int .i64 i0) ⟨V4.out, HG4.out.2, HO4.out, HF4.out, c4⟩))))))))))))))
      exact ⟨ua, uc, fo, fc, g, HC.1, Nat.le_of_lt HGR.out, HC.2.1, HC.2.2.1, HC.2.2.2.1, HC.2.2.2.2⟩
  case rest =>
    obtain ⟨ua, uc, fo, fc, g, hv, hg0, hg1, ho, hf, hb⟩ := hcut
    have e0 := hv.c 0 rfl
    have e1 := hv.c 1 rfl
    have e2 := hv.c 2 rfl
    have e3 := hv.c 3 rfl
    have e4 := hv.c 4 rfl
    have e5 := hv.c 5 rfl
    have e6 := hv.c 6 rfl
    have e7 := hv.c 7 rfl
    have e8 := hv.c 8 rfl
    have e9 := hv.c 9 rfl
    have e10 := hv.c 10 rfl
    have e11 := hv.c 11 rfl
    have e12 := hv.c 12 rfl
    have e13 := hv.c 13 rfl
    have HO := hid ho
    have HFF := hid hf
    have HB := hid hb
    have HGG := hid (And.intro hg0 hg1)
    clear ho hf hb hv hg0 hg1
    go_wp2
    exact bodyPost_ret (v := .agg #[.int .i64 i0, .int .i64 i1, .int .i64 i2, .bool q0, .bool q1, .bool true, .bool true, .int .i64 k, .int .i64 0, .int .i64 0, .int .i64 0, .int .i64 0, .slice ua I.length uc, .slice fo F.length fc]) (by simp [results, Tryz.results74, go_sem, e0, e1, e2, e3, e4, e5, e6, e7, e8, e9, e10, e11, e12, e13]) rfl ⟨⟨ua, uc, fo, fc, g, rfl, HGG.out.1, HGG.out.2, HO.out, HFF.out⟩, HB.out⟩
theorem keepT_wr {w4 : World} {R K s : Nat} {i0 i1 i2 : Int} {q0 q1 : Bool} {k a b n : Int} {X : List (Option KD)} {F : List KD} {v0 v1 v2 v3 v4 v5 v6 v7 v8 v9 v10 v11 v12 v13 : Value} (hK : ¬ K = R) (hs : ¬ s = R) (h : w4.cell? ⟨K, 0, none⟩ = some (.int .i64 i0) ∧ w4.cell? ⟨K, 1, none⟩ = some (.int .i64 i1) ∧ w4.cell? ⟨K, 2, none⟩ = some (.int .i64 i2) ∧ w4.cell? ⟨K, 3, none⟩ = some (.bool q0) ∧ w4.cell? ⟨K, 4, none⟩ = some (.bool q1) ∧ w4.cell? ⟨s, 0, none⟩ = some (.bool true) ∧ w4.cell? ⟨s, 1, none⟩ = some (.bool false) ∧ w4.cell? ⟨s, 2, none⟩ = some (.int .i64 0) ∧ w4.cell? ⟨s, 3, none⟩ = some (.int .i64 k) ∧ w4.cell? ⟨s, 4, none⟩ = some (.int .i64 a) ∧ w4.cell? ⟨s, 5, none⟩ = some (.int .i64 b) ∧ w4.cell? ⟨s, 6, none⟩ = some (.int .i64 n) ∧ (∀ W : World, W.heap[K]? = w4.heap[K]? → (ldH (.pointer (some ⟨K, 6, none⟩))).run Tryz.prog W = .ok (.agg (cellsH X F).toArray) W)) : ((((((((((((((w4.setCell ⟨R, 0, none⟩ v0).setCell ⟨R, 1, none⟩ v1).setCell ⟨R, 2, none⟩ v2).setCell ⟨R, 3, none⟩ v3).setCell ⟨R, 4, none⟩ v4).setCell ⟨R, 5, none⟩ v5).setCell ⟨R, 6, none⟩ v6).setCell ⟨R, 7, none⟩ v7).setCell ⟨R, 8, none⟩ v8).setCell ⟨R, 9, none⟩ v9).setCell ⟨R, 10, none⟩ v10).setCell ⟨R, 11, none⟩ v11).setCell ⟨R, 12, none⟩ v12).setCell ⟨R, 13, none⟩ v13).cell? ⟨K, 0, none⟩ = some (.int .i64 i0) ∧ ((((((((((((((w4.setCell ⟨R, 0, none⟩ v0).setCell ⟨R, 1, none⟩ v1).setCell ⟨R, 2, none⟩ v2).setCell ⟨R, 3, none⟩ v3).setCell ⟨R, 4, none⟩ v4).setCell ⟨R, 5, none⟩ v5).setCell ⟨R, 6, none⟩ v6).setCell ⟨R, 7, none⟩ v7).setCell ⟨R, 8, none⟩ v8).setCell ⟨R, 9, none⟩ v9).setCell ⟨R, 10, none⟩ v10).setCell ⟨R, 11, none⟩ v11).setCell ⟨R, 12, none⟩ v12).setCell ⟨R, 13, none⟩ v13).cell? ⟨K, 1, none⟩ = some (.int .i64 i1) ∧ ((((((((((((((w4.setCell ⟨R, 0, none⟩ v0).setCell ⟨R, 1, none⟩ v1).setCell ⟨R, 2, none⟩ v2).setCell ⟨R, 3, none⟩ v3).setCell ⟨R, 4, none⟩ v4).setCell ⟨R, 5, none⟩ v5).setCell ⟨R, 6, none⟩ v6).setCell ⟨R, 7, none⟩ v7).setCell ⟨R, 8, none⟩ v8).setCell ⟨R, 9, none⟩ v9).setCell ⟨R, 10, none⟩ v10).setCell ⟨R, 11, none⟩ v11).setCell ⟨R, 12, none⟩ v12).setCell ⟨R, 13, none⟩ v13).cell? ⟨K, 2, none⟩ = some (.int .i64 i2) ∧ ((((((((((((((w4.setCell ⟨R, 0, none⟩ v0).setCell ⟨R, 1, none⟩ v1).setCell ⟨R, 2, none⟩ v2).setCell ⟨R, 3, none⟩ v3).setCell ⟨R, 4, none⟩ v4).setCell ⟨R, 5, none⟩ v5).setCell ⟨R, 6, none⟩ v6).setCell ⟨R, 7, none⟩ v7).setCell ⟨R, 8, none⟩ v8).setCell ⟨R, 9, none⟩ v9).setCell ⟨R, 10, none⟩ v10).setCell ⟨R, 11, none⟩ v11).setCell ⟨R, 12, none⟩ v12).setCell ⟨R, 13, none⟩ v13).cell? ⟨K, 3, none⟩ = some (.bool q0) ∧ ((((((((((((((w4.setCell ⟨R, 0, none⟩ v0).setCell ⟨R, 1, none⟩ v1).setCell ⟨R, 2, none⟩ v2).setCell ⟨R, 3, none⟩ v3).setCell ⟨R, 4, none⟩ v4).setCell ⟨R, 5, none⟩ v5).setCell ⟨R, 6, none⟩ v6).setCell ⟨R, 7, none⟩ v7).setCell ⟨R, 8, none⟩ v8).setCell ⟨R, 9, none⟩ v9).setCell ⟨R, 10, none⟩ v10).setCell ⟨R, 11, none⟩ v11).setCell ⟨R, 12, none⟩ v12).setCell ⟨R, 13, none⟩ v13).cell? ⟨K, 4, none⟩ = some (.bool q1) ∧ ((((((((((((((w4.setCell ⟨R, 0, none⟩ v0).setCell ⟨R, 1, none⟩ v1).setCell ⟨R, 2, none⟩ v2).setCell ⟨R, 3, none⟩ v3).setCell ⟨R, 4, none⟩ v4).setCell ⟨R, 5, none⟩ v5).setCell ⟨R, 6, none⟩ v6).setCell ⟨R, 7, none⟩ v7).setCell ⟨R, 8, none⟩ v8).setCell ⟨R, 9, none⟩ v9).setCell ⟨R, 10, none⟩ v10).setCell ⟨R, 11, none⟩ v11).setCell ⟨R, 12, none⟩ v12).setCell ⟨R, 13, none⟩ v13).cell? ⟨s, 0, none⟩ = some (.bool true) ∧ ((((((((((((((w4.setCell ⟨R, 0, none⟩ v0).setCell ⟨R, 1, none⟩ v1).setCell ⟨R, 2, none⟩ v2).setCell ⟨R, 3, none⟩ v3).setCell ⟨R, 4, none⟩ v4).setCell ⟨R, 5, none⟩ v5).setCell ⟨R, 6, none⟩ v6).setCell ⟨R, 7, none⟩ v7).setCell ⟨R, 8, none⟩ v8).setCell ⟨R, 9, none⟩ v9).setCell ⟨R, 10, none⟩ v10).setCell ⟨R, 11, none⟩ v11).setCell ⟨R, 12, none⟩ v12).setCell ⟨R, 13, none⟩ v13).cell? ⟨s, 1, none⟩ = some (.bool false) ∧ ((((((((((((((w4.setCell ⟨R, 0, none⟩ v0).setCell ⟨R, 1, none⟩ v1).setCell ⟨R, 2, none⟩ v2).setCell ⟨R, 3, none⟩ v3).setCell ⟨R, 4, none⟩ v4).setCell ⟨R, 5, none⟩ v5).setCell ⟨R, 6, none⟩ v6).setCell ⟨R, 7, none⟩ v7).setCell ⟨R, 8, none⟩ v8).setCell ⟨R, 9, none⟩ v9).setCell ⟨R, 10, none⟩ v10).setCell ⟨R, 11, none⟩ v11).setCell ⟨R, 12, none⟩ v12).setCell ⟨R, 13, none⟩ v13).cell? ⟨s, 2, none⟩ = some (.int .i64 0) ∧ ((((((((((((((w4.setCell ⟨R, 0, none⟩ v0).setCell ⟨R, 1, none⟩ v1).setCell ⟨R, 2, none⟩ v2).setCell ⟨R, 3, none⟩ v3).setCell ⟨R, 4, none⟩ v4).setCell ⟨R, 5, none⟩ v5).setCell ⟨R, 6, none⟩ v6).setCell ⟨R, 7, none⟩ v7).setCell ⟨R, 8, none⟩ v8).setCell ⟨R, 9, none⟩ v9).setCell ⟨R, 10, none⟩ v10).setCell ⟨R, 11, none⟩ v11).setCell ⟨R, 12, none⟩ v12).setCell ⟨R, 13, none⟩ v13).cell? ⟨s, 3, none⟩ = some (.int .i64 k) ∧ ((((((((((((((w4.setCell ⟨R, 0, none⟩ v0).setCell ⟨R, 1, none⟩ v1).setCell ⟨R, 2, none⟩ v2).setCell ⟨R, 3, none⟩ v3).setCell ⟨R, 4, none⟩ v4).setCell ⟨R, 5, none⟩ v5).setCell ⟨R, 6, none⟩ v6).setCell ⟨R, 7, none⟩ v7).setCell ⟨R, 8, none⟩ v8).setCell ⟨R, 9, none⟩ v9).setCell ⟨R, 10, none⟩ v10).setCell ⟨R, 11, none⟩ v11).setCell ⟨R, 12, none⟩ v12).setCell ⟨R, 13, none⟩ v13).cell? ⟨s, 4, none⟩ = some (.int .i64 a) ∧ ((((((((((((((w4.setCell ⟨R, 0, none⟩ v0).setCell ⟨R, 1, none⟩ v1).setCell ⟨R, 2, none⟩ v2).setCell ⟨R, 3, none⟩ v3).setCell ⟨R, 4, none⟩ v4).setCell ⟨R, 5, none⟩ v5).setCell ⟨R, 6, none⟩ v6).setCell ⟨R, 7, none⟩ v7).setCell ⟨R, 8, none⟩ v8).setCell ⟨R, 9, none⟩ v9).setCell ⟨R, 10, none⟩ v10).setCell ⟨R, 11, none⟩ v11).setCell ⟨R, 12, none⟩ v12).setCell ⟨R, 13, none⟩ v13).cell? ⟨s, 5, none⟩ = some (.int .i64 b) ∧ ((((((((((((((w4.setCell ⟨R, 0, none⟩ v0).setCell ⟨R, 1, none⟩ v1).setCell ⟨R, 2, none⟩ v2).setCell ⟨R, 3, none⟩ v3).setCell ⟨R, 4, none⟩ v4).setCell ⟨R, 5, none⟩ v5).setCell ⟨R, 6, none⟩ v6).setCell ⟨R, 7, none⟩ v7).setCell ⟨R, 8, none⟩ v8).setCell ⟨R, 9, none⟩ v9).setCell ⟨R, 10, none⟩ v10).setCell ⟨R, 11, none⟩ v11).setCell ⟨R, 12, none⟩ v12).setCell ⟨R, 13, none⟩ v13).cell? ⟨s, 6, none⟩ = some (.int .i64 n) ∧ (∀ W : World, W.heap[K]? = ((((((((((((((w4.setCell ⟨R, 0, none⟩ v0).setCell ⟨R, 1, none⟩ v1).setCell ⟨R, 2, none⟩ v2).setCell ⟨R, 3, none⟩ v3).setCell ⟨R, 4, none⟩ v4).setCell ⟨R, 5, none⟩ v5).setCell ⟨R, 6, none⟩ v6).setCell ⟨R, 7, none⟩ v7).setCell ⟨R, 8, none⟩ v8).setCell ⟨R, 9, none⟩ v9).setCell ⟨R, 10, none⟩ v10).setCell ⟨R, 11, none⟩ v11).setCell ⟨R, 12, none⟩ v12).setCell ⟨R, 13, none⟩ v13).heap[K]? → (ldH (.pointer (some ⟨K, 6, none⟩))).run Tryz.prog W = .ok (.agg (cellsH X F).toArray) W) := by
  have hl : ∀ k, ¬ k = R → ((((((((((((((w4.setCell ⟨R, 0, none⟩ v0).setCell ⟨R, 1, none⟩ v1).setCell ⟨R, 2, none⟩ v2).setCell ⟨R, 3, none⟩ v3).setCell ⟨R, 4, none⟩ v4).setCell ⟨R, 5, none⟩ v5).setCell ⟨R, 6, none⟩ v6).setCell ⟨R, 7, none⟩ v7).setCell ⟨R, 8, none⟩ v8).setCell ⟨R, 9, none⟩ v9).setCell ⟨R, 10, none⟩ v10).setCell ⟨R, 11, none⟩ v11).setCell ⟨R, 12, none⟩ v12).setCell ⟨R, 13, none⟩ v13).heap[k]? = w4.heap[k]? := fun k hk => by simp only [Below.heap_setCell _ _ _ _ (show k ≠ (Addr.mk R _ none).block from hk)]
  obtain ⟨h0, h1, h2, h3, h4, h5, h6, h7, h8, h9, h10, h11, hsh⟩ := h
  exact ⟨(World.cell?_of_block (a := ⟨K, 0, none⟩) (hl K hK)).trans h0, (World.cell?_of_block (a := ⟨K, 1, none⟩) (hl K hK)).trans h1, (World.cell?_of_block (a := ⟨K, 2, none⟩) (hl K hK)).trans h2, (World.cell?_of_block (a := ⟨K, 3, none⟩) (hl K hK)).trans h3, (World.cell?_of_block (a := ⟨K, 4, none⟩) (hl K hK)).trans h4,
    (World.cell?_of_block (a := ⟨s, 0, none⟩) (hl s hs)).trans h5, (World.cell?_of_block (a := ⟨s, 1, none⟩) (hl s hs)).trans h6, (World.cell?_of_block (a := ⟨s, 2, none⟩) (hl s hs)).trans h7, (World.cell?_of_block (a := ⟨s, 3, none⟩) (hl s hs)).trans h8, (World.cell?_of_block (a := ⟨s, 4, none⟩) (hl s hs)).trans h9, (World.cell?_of_block (a := ⟨s, 5, none⟩) (hl s hs)).trans h10, (World.cell?_of_block (a := ⟨s, 6, none⟩) (hl s hs)).trans h11, fun W hW => hsh W (hW.trans (hl K hK))⟩
set_option maxRecDepth 100000 in
set_option maxHeartbeats 8000000 in
theorem keeperTier_wr (i0 i1 i2 : Int) (q0 q1 : Bool) (k a b n : Int) (sv tv : Value) (X : List (Option KD)) (F I : List KD) (K : Nat) (w : World) (h : ShAt w K (frK i0 i1 i2 q0 q1 (wrW k a b n) sv tv) X F) (hF : FloF F)
    (hx : ∀ x ∈ X.filterMap id, x.1.length = 3 ∧ x.2.length ≤ 8) (hI : X.filterMap id = I) :
    Calls Tryz.prog 74 #[.pointer (some ⟨K, 0, none⟩)] w fun e w' => EndT w.heap.size w' [.int .i64 i0, .int .i64 i1, .int .i64 i2, .bool q0, .bool q1, .bool true, .bool false, .int .i64 0, .int .i64 k, .int .i64 a, .int .i64 b, .int .i64 n] I F e ∧ Below w.heap.size w w' := by
  have HS := hid h
  have H4 := hid h.x4
  have HF := hid hF
  have HX := hid hx
  have HI := hid hI
  have hK := h.lt
  have p5 := h.pre 5 _ rfl
  have hm := method_wrAsked k a b n
  clear h hF hx hI
  go_enter Tryz.func74, Tryz.ntmps74
  go_wp2_with fail
  generalize hW1 : (w.alloc (.cells #[.int .i64 0, .int .i64 0, .int .i64 0, .bool false, .bool false, .bool false, .bool false, .int .i64 0, .int .i64 0, .int .i64 0, .int .i64 0, .int .i64 0, .slice none 0 0, .slice none 0 0] 38)) = w1
  have r0_1 : w1.cell? ⟨w.heap.size, 0, none⟩ = some (.int .i64 0) := by subst hW1; go_cell
  have rf0_1 : w1.frozen? ⟨w.heap.size, 0, none⟩ = false := by subst hW1; (first | go_cell | (simp [World.frozen?, World.alloc]; done) | rfl)
  have r1_1 : w1.cell? ⟨w.heap.size, 1, none⟩ = some (.int .i64 0) := by subst hW1; go_cell
  have rf1_1 : w1.frozen? ⟨w.heap.size, 1, none⟩ = false := by subst hW1; (first | go_cell | (simp [World.frozen?, World.alloc]; done) | rfl)
  have r2_1 : w1.cell? ⟨w.heap.size, 2, none⟩ = some (.int .i64 0) := by subst hW1; go_cell
  have rf2_1 : w1.frozen? ⟨w.heap.size, 2, none⟩ = false := by subst hW1; (first | go_cell | (simp [World.frozen?, World.alloc]; done) | rfl)
  have r3_1 : w1.cell? ⟨w.heap.size, 3, none⟩ = some (.bool false) := by subst hW1; go_cell
  have rf3_1 : w1.frozen? ⟨w.heap.size, 3, none⟩ = false := by subst hW1; (first | go_cell | (simp [World.frozen?, World.alloc]; done) | rfl)
  have r4_1 : w1.cell? ⟨w.heap.size, 4, none⟩ = some (.bool false) := by subst hW1; go_cell
  have rf4_1 : w1.frozen? ⟨w.heap.size, 4, none⟩ = false := by subst hW1; (first | go_cell | (simp [World.frozen?, World.alloc]; done) | rfl)
  have r5_1 : w1.cell? ⟨w.heap.size, 5, none⟩ = some (.bool false) := by subst hW1; go_cell
  have rf5_1 : w1.frozen? ⟨w.heap.size, 5, none⟩ = false := by subst hW1; (first | go_cell | (simp [World.frozen?, World.alloc]; done) | rfl)
  have r6_1 : w1.cell? ⟨w.heap.size, 6, none⟩ = some (.bool false) := by subst hW1; go_cell
  have rf6_1 : w1.frozen? ⟨w.heap.size, 6, none⟩ = false := by subst hW1; (first | go_cell | (simp [World.frozen?, World.alloc]; done) | rfl)
  have r7_1 : w1.cell? ⟨w.heap.size, 7, none⟩ = some (.int .i64 0) := by subst hW1; go_cell
  have rf7_1 : w1.frozen? ⟨w.heap.size, 7, none⟩ = false := by subst hW1; (first | go_cell | (simp [World.frozen?, World.alloc]; done) | rfl)
  have r8_1 : w1.cell? ⟨w.heap.size, 8, none⟩ = some (.int .i64 0) := by subst hW1; go_cell
  have rf8_1 : w1.frozen? ⟨w.heap.size, 8, none⟩ = false := by subst hW1; (first | go_cell | (simp [World.frozen?, World.alloc]; done) | rfl)
  have r9_1 : w1.cell? ⟨w.heap.size, 9, none⟩ = some (.int .i64 0) := by subst hW1; go_cell
  have rf9_1 : w1.frozen? ⟨w.heap.size, 9, none⟩ = false := by subst hW1; (first | go_cell | (simp [World.frozen?, World.alloc]; done) | rfl)
  have r10_1 : w1.cell? ⟨w.heap.size, 10, none⟩ = some (.int .i64 0) := by subst hW1; go_cell
  have rf10_1 : w1.frozen? ⟨w.heap.size, 10, none⟩ = false := by subst hW1; (first | go_cell | (simp [World.frozen?, World.alloc]; done) | rfl)
  have r11_1 : w1.cell? ⟨w.heap.size, 11, none⟩ = some (.int .i64 0) := by subst hW1; go_cell
  have rf11_1 : w1.frozen? ⟨w.heap.size, 11, none⟩ = false := by subst hW1; (first | go_cell | (simp [World.frozen?, World.alloc]; done) | rfl)
  have r12_1 : w1.cell? ⟨w.heap.size, 12, none⟩ = some (.slice none 0 0) := by subst hW1; go_cell
  have rf12_1 : w1.frozen? ⟨w.heap.size, 12, none⟩ = false := by subst hW1; (first | go_cell | (simp [World.frozen?, World.alloc]; done) | rfl)
  have r13_1 : w1.cell? ⟨w.heap.size, 13, none⟩ = some (.slice none 0 0) := by subst hW1; go_cell
  have rf13_1 : w1.frozen? ⟨w.heap.size, 13, none⟩ = false := by subst hW1; (first | go_cell | (simp [World.frozen?, World.alloc]; done) | rfl)
  have rl_1 : w.heap.size < w1.heap.size := by subst hW1; first | (simp; done) | (simp; omega)
  have c1 : Below w.heap.size w w1 := by subst hW1; go_grown
  have s1 : w1.heap.size = w.heap.size + 1 := by subst hW1; simp
  clear hW1
  have qr0_1 := cell_regrown r0_1
  have qr1_1 := cell_regrown r1_1
  have qr2_1 := cell_regrown r2_1
  have qr3_1 := cell_regrown r3_1
  have qr4_1 := cell_regrown r4_1
  have qr5_1 := cell_regrown r5_1
  have qr6_1 := cell_regrown r6_1
  have qr7_1 := cell_regrown r7_1
  have qr8_1 := cell_regrown r8_1
  have qr9_1 := cell_regrown r9_1
  have qr10_1 := cell_regrown r10_1
  have qr11_1 := cell_regrown r11_1
  have qr12_1 := cell_regrown r12_1
  have qr13_1 := cell_regrown r13_1
  have HS1 := hid (HS.out.later c1)
  refine (wrAsked_any k a b n _).mono ?_
  rintro e w2 ⟨rfl, b2⟩
  have d2 : Below w1.heap.size w1 w2 := (Below.trans (by go_grown) (b2.mono (by first | omega | (simp; done) | (simp; omega))))
  have c2 : Below w.heap.size w w2 := c1.trans (d2.mono c1.size)
  have r0_2 : w2.cell? ⟨w.heap.size, 0, none⟩ = some (.int .i64 0) := (by rw [b2.cell (by first | omega | (simp; done) | (simp; omega))]; go_cell)
  have rf0_2 : w2.frozen? ⟨w.heap.size, 0, none⟩ = false := (by rw [b2.frozen (by first | omega | (simp; done) | (simp; omega))]; (first | go_cell | (simp [World.frozen?, World.alloc]; done) | rfl))
  have r1_2 : w2.cell? ⟨w.heap.size, 1, none⟩ = some (.int .i64 0) := (by rw [b2.cell (by first | omega | (simp; done) | (simp; omega))]; go_cell)
  have rf1_2 : w2.frozen? ⟨w.heap.size, 1, none⟩ = false := (by rw [b2.frozen (by first | omega | (simp; done) | (simp; omega))]; (first | go_cell | (simp [World.frozen?, World.alloc]; done) | rfl))
  have r2_2 : w2.cell? ⟨w.heap.size, 2, none⟩ = some (.int .i64 0) := (by rw [b2.cell (by first | omega | (simp; done) | (simp; omega))]; go_cell)
  have rf2_2 : w2.frozen? ⟨w.heap.size, 2, none⟩ = false := (by rw [b2.frozen (by first | omega | (simp; done) | (simp; omega))]; (first | go_cell | (simp [World.frozen?, World.alloc]; done) | rfl))
  have r3_2 : w2.cell? ⟨w.heap.size, 3, none⟩ = some (.bool false) := (by rw [b2.cell (by first | omega | (simp; done) | (simp; omega))]; go_cell)
  have rf3_2 : w2.frozen? ⟨w.heap.size, 3, none⟩ = false := (by rw [b2.frozen (by first | omega | (simp; done) | (simp; omega))]; (first | go_cell | (simp [World.frozen?, World.alloc]; done) | rfl))
  have r4_2 : w2.cell? ⟨w.heap.size, 4, none⟩ = some (.bool false) := (by rw [b2.cell (by first | omega | (simp; done) | (simp; omega))]; go_cell)
  have rf4_2 : w2.frozen? ⟨w.heap.size, 4, none⟩ = false := (by rw [b2.frozen (by first | omega | (simp; done) | (simp; omega))]; (first | go_cell | (simp [World.frozen?, World.alloc]; done) | rfl))
  have r5_2 : w2.cell? ⟨w.heap.size, 5, none⟩ = some (.bool false) := (by rw [b2.cell (by first | omega | (simp; done) | (simp; omega))]; go_cell)
  have rf5_2 : w2.frozen? ⟨w.heap.size, 5, none⟩ = false := (by rw [b2.frozen (by first | omega | (simp; done) | (simp; omega))]; (first | go_cell | (simp [World.frozen?, World.alloc]; done) | rfl))
  have r6_2 : w2.cell? ⟨w.heap.size, 6, none⟩ = some (.bool false) := (by rw [b2.cell (by first | omega | (simp; done) | (simp; omega))]; go_cell)
  have rf6_2 : w2.frozen? ⟨w.heap.size, 6, none⟩ = false := (by rw [b2.frozen (by first | omega | (simp; done) | (simp; omega))]; (first | go_cell | (simp [World.frozen?, World.alloc]; done) | rfl))
  have r7_2 : w2.cell? ⟨w.heap.size, 7, none⟩ = some (.int .i64 0) := (by rw [b2.cell (by first | omega | (simp; done) | (simp; omega))]; go_cell)
  have rf7_2 : w2.frozen? ⟨w.heap.size, 7, none⟩ = false := (by rw [b2.frozen (by first | omega | (simp; done) | (simp; omega))]; (first | go_cell | (simp [World.frozen?, World.alloc]; done) | rfl))
  have r8_2 : w2.cell? ⟨w.heap.size, 8, none⟩ = some (.int .i64 0) := (by rw [b2.cell (by first | omega | (simp; done) | (simp; omega))]; go_cell)
  have rf8_2 : w2.frozen? ⟨w.heap.size, 8, none⟩ = false := (by rw [b2.frozen (by first | omega | (simp; done) | (simp; omega))]; (first | go_cell | (simp [World.frozen?, World.alloc]; done) | rfl))
  have r9_2 : w2.cell? ⟨w.heap.size, 9, none⟩ = some (.int .i64 0) := (by rw [b2.cell (by first | omega | (simp; done) | (simp; omega))]; go_cell)
  have rf9_2 : w2.frozen? ⟨w.heap.size, 9, none⟩ = false := (by rw [b2.frozen (by first | omega | (simp; done) | (simp; omega))]; (first | go_cell | (simp [World.frozen?, World.alloc]; done) | rfl))
  have r10_2 : w2.cell? ⟨w.heap.size, 10, none⟩ = some (.int .i64 0) := (by rw [b2.cell (by first | omega | (simp; done) | (simp; omega))]; go_cell)
  have rf10_2 : w2.frozen? ⟨w.heap.size, 10, none⟩ = false := (by rw [b2.frozen (by first | omega | (simp; done) | (simp; omega))]; (first | go_cell | (simp [World.frozen?, World.alloc]; done) | rfl))
  have r11_2 : w2.cell? ⟨w.heap.size, 11, none⟩ = some (.int .i64 0) := (by rw [b2.cell (by first | omega | (simp; done) | (simp; omega))]; go_cell)
  have rf11_2 : w2.frozen? ⟨w.heap.size, 11, none⟩ = false := (by rw [b2.frozen (by first | omega | (simp; done) | (simp; omega))]; (first | go_cell | (simp [World.frozen?, World.alloc]; done) | rfl))
  have r12_2 : w2.cell? ⟨w.heap.size, 12, none⟩ = some (.slice none 0 0) := (by rw [b2.cell (by first | omega | (simp; done) | (simp; omega))]; go_cell)
  have rf12_2 : w2.frozen? ⟨w.heap.size, 12, none⟩ = false := (by rw [b2.frozen (by first | omega | (simp; done) | (simp; omega))]; (first | go_cell | (simp [World.frozen?, World.alloc]; done) | rfl))
  have r13_2 : w2.cell? ⟨w.heap.size, 13, none⟩ = some (.slice none 0 0) := (by rw [b2.cell (by first | omega | (simp; done) | (simp; omega))]; go_cell)
  have rf13_2 : w2.frozen? ⟨w.heap.size, 13, none⟩ = false := (by rw [b2.frozen (by first | omega | (simp; done) | (simp; omega))]; (first | go_cell | (simp [World.frozen?, World.alloc]; done) | rfl))
  have rl_2 : w.heap.size < w2.heap.size := (by have := b2.size; first | omega | (revert this; simp; done) | (revert this; simp; omega))
  clear r0_1 rf0_1 r1_1 rf1_1 r2_1 rf2_1 r3_1 rf3_1 r4_1 rf4_1 r5_1 rf5_1 r6_1 rf6_1 r7_1 rf7_1 r8_1 rf8_1 r9_1 rf9_1 r10_1 rf10_1 r11_1 rf11_1 r12_1 rf12_1 r13_1 rf13_1 rl_1
  have HS2 := hid (HS1.out.later d2)
  have rl_w : w.heap.size < w2.heap.size := rl_2
  clear b2 d2 HS1 p5
  go_upto_region 2 with fail
  generalize hW3 : (w2.alloc (.cells #[.bool true, .bool false, .int .i64 0, .int .i64 k, .int .i64 a, .int .i64 b, .int .i64 n] 69)) = w3
  have s0_3 : w3.cell? ⟨w2.heap.size, 0, none⟩ = some (.bool true) := by subst hW3; go_cell
  have s1_3 : w3.cell? ⟨w2.heap.size, 1, none⟩ = some (.bool false) := by subst hW3; go_cell
  have s2_3 : w3.cell? ⟨w2.heap.size, 2, none⟩ = some (.int .i64 0) := by subst hW3; go_cell
  have s3_3 : w3.cell? ⟨w2.heap.size, 3, none⟩ = some (.int .i64 k) := by subst hW3; go_cell
  have s4_3 : w3.cell? ⟨w2.heap.size, 4, none⟩ = some (.int .i64 a) := by subst hW3; go_cell
  have s5_3 : w3.cell? ⟨w2.heap.size, 5, none⟩ = some (.int .i64 b) := by subst hW3; go_cell
  have s6_3 : w3.cell? ⟨w2.heap.size, 6, none⟩ = some (.int .i64 n) := by subst hW3; go_cell
  have sl_3 : w2.heap.size < w3.heap.size := by subst hW3; simp
  have d3 : Below w2.heap.size w2 w3 := by subst hW3; go_grown
  clear hW3
  have c3 : Below w.heap.size w w3 := c2.trans (d3.mono c2.size)
  have r0_3 : w3.cell? ⟨w.heap.size, 0, none⟩ = some (.int .i64 0) := (by rw [d3.cell (by first | omega | (simp; done) | (simp; omega))]; go_cell)
  have rf0_3 : w3.frozen? ⟨w.heap.size, 0, none⟩ = false := (by rw [d3.frozen (by first | omega | (simp; done) | (simp; omega))]; (first | go_cell | (simp [World.frozen?, World.alloc]; done) | rfl))
  have r1_3 : w3.cell? ⟨w.heap.size, 1, none⟩ = some (.int .i64 0) := (by rw [d3.cell (by first | omega | (simp; done) | (simp; omega))]; go_cell)
  have rf1_3 : w3.frozen? ⟨w.heap.size, 1, none⟩ = false := (by rw [d3.frozen (by first | omega | (simp; done) | (simp; omega))]; (first | go_cell | (simp [World.frozen?, World.alloc]; done) | rfl))
  have r2_3 : w3.cell? ⟨w.heap.size, 2, none⟩ = some (.int .i64 0) := (by rw [d3.cell (by first | omega | (simp; done) | (simp; omega))]; go_cell)
  have rf2_3 : w3.frozen? ⟨w.heap.size, 2, none⟩ = false := (by rw [d3.frozen (by first | omega | (simp; done) | (simp; omega))]; (first | go_cell | (simp [World.frozen?, World.alloc]; done) | rfl))
  have r3_3 : w3.cell? ⟨w.heap.size, 3, none⟩ = some (.bool false) := (by rw [d3.cell (by first | omega | (simp; done) | (simp; omega))]; go_cell)
  have rf3_3 : w3.frozen? ⟨w.heap.size, 3, none⟩ = false := (by rw [d3.frozen (by first | omega | (simp; done) | (simp; omega))]; (first | go_cell | (simp [World.frozen?, World.alloc]; done) | rfl))
  have r4_3 : w3.cell? ⟨w.heap.size, 4, none⟩ = some (.bool false) := (by rw [d3.cell (by first | omega | (simp; done) | (simp; omega))]; go_cell)
  have rf4_3 : w3.frozen? ⟨w.heap.size, 4, none⟩ = false := (by rw [d3.frozen (by first | omega | (simp; done) | (simp; omega))]; (first | go_cell | (simp [World.frozen?, World.alloc]; done) | rfl))
  have r5_3 : w3.cell? ⟨w.heap.size, 5, none⟩ = some (.bool false) := (by rw [d3.cell (by first | omega | (simp; done) | (simp; omega))]; go_cell)
  have rf5_3 : w3.frozen? ⟨w.heap.size, 5, none⟩ = false := (by rw [d3.frozen (by first | omega | (simp; done) | (simp; omega))]; (first | go_cell | (simp [World.frozen?, World.alloc]; done) | rfl))
  have r6_3 : w3.cell? ⟨w.heap.size, 6, none⟩ = some (.bool false) := (by rw [d3.cell (by first | omega | (simp; done) | (simp; omega))]; go_cell)
  have rf6_3 : w3.frozen? ⟨w.heap.size, 6, none⟩ = false := (by rw [d3.frozen (by first | omega | (simp; done) | (simp; omega))]; (first | go_cell | (simp [World.frozen?, World.alloc]; done) | rfl))
  have r7_3 : w3.cell? ⟨w.heap.size, 7, none⟩ = some (.int .i64 0) := (by rw [d3.cell (by first | omega | (simp; done) | (simp; omega))]; go_cell)
  have rf7_3 : w3.frozen? ⟨w.heap.size, 7, none⟩ = false := (by rw [d3.frozen (by first | omega | (simp; done) | (simp; omega))]; (first | go_cell | (simp [World.frozen?, World.alloc]; done) | rfl))
  have r8_3 : w3.cell? ⟨w.heap.size, 8, none⟩ = some (.int .i64 0) := (by rw [d3.cell (by first | omega | (simp; done) | (simp; omega))]; go_cell)
  have rf8_3 : w3.frozen? ⟨w.heap.size, 8, none⟩ = false := (by rw [d3.frozen (by first | omega | (simp; done) | (simp; omega))]; (first | go_cell | (simp [World.frozen?, World.alloc]; done) | rfl))
  have r9_3 : w3.cell? ⟨w.heap.size, 9, none⟩ = some (.int .i64 0) := (by rw [d3.cell (by first | omega | (simp; done) | (simp; omega))]; go_cell)
  have rf9_3 : w3.frozen? ⟨w.heap.size, 9, none⟩ = false := (by rw [d3.frozen (by first | omega | (simp; done) | (simp; omega))]; (first | go_cell | (simp [World.frozen?, World.alloc]; done) | rfl))
  have r10_3 : w3.cell? ⟨w.heap.size, 10, none⟩ = some (.int .i64 0) := (by rw [d3.cell (by first | omega | (simp; done) | (simp; omega))]; go_cell)
  have rf10_3 : w3.frozen? ⟨w.heap.size, 10, none⟩ = false := (by rw [d3.frozen (by first | omega | (simp; done) | (simp; omega))]; (first | go_cell | (simp [World.frozen?, World.alloc]; done) | rfl))
  have r11_3 : w3.cell? ⟨w.heap.size, 11, none⟩ = some (.int .i64 0) := (by rw [d3.cell (by first | omega | (simp; done) | (simp; omega))]; go_cell)
  have rf11_3 : w3.frozen? ⟨w.heap.size, 11, none⟩ = false := (by rw [d3.frozen (by first | omega | (simp; done) | (simp; omega))]; (first | go_cell | (simp [World.frozen?, World.alloc]; done) | rfl))
  have r12_3 : w3.cell? ⟨w.heap.size, 12, none⟩ = some (.slice none 0 0) := (by rw [d3.cell (by first | omega | (simp; done) | (simp; omega))]; go_cell)
  have rf12_3 : w3.frozen? ⟨w.heap.size, 12, none⟩ = false := (by rw [d3.frozen (by first | omega | (simp; done) | (simp; omega))]; (first | go_cell | (simp [World.frozen?, World.alloc]; done) | rfl))
  have r13_3 : w3.cell? ⟨w.heap.size, 13, none⟩ = some (.slice none 0 0) := (by rw [d3.cell (by first | omega | (simp; done) | (simp; omega))]; go_cell)
  have rf13_3 : w3.frozen? ⟨w.heap.size, 13, none⟩ = false := (by rw [d3.frozen (by first | omega | (simp; done) | (simp; omega))]; (first | go_cell | (simp [World.frozen?, World.alloc]; done) | rfl))
  have rl_3 : w.heap.size < w3.heap.size := (by have := d3.size; omega)
  clear r0_2 rf0_2 r1_2 rf1_2 r2_2 rf2_2 r3_2 rf3_2 r4_2 rf4_2 r5_2 rf5_2 r6_2 rf6_2 r7_2 rf7_2 r8_2 rf8_2 r9_2 rf9_2 r10_2 rf10_2 r11_2 rf11_2 r12_2 rf12_2 r13_2 rf13_2 rl_2
  have HS3 := hid (HS2.out.later d3)
  have hK3 : K < w3.heap.size := HS3.out.lt
  have p0 := HS3.out.pre 0 _ rfl
  have p1 := HS3.out.pre 1 _ rfl
  have p2 := HS3.out.pre 2 _ rfl
  have p3 := HS3.out.pre 3 _ rfl
  have p4 := HS3.out.pre 4 _ rfl
  have hl : (∀ W : World, W.heap[K]? = w3.heap[K]? → (ldH (.pointer (some ⟨K, 6, none⟩))).run Tryz.prog W = .ok (.agg (cellsH X F).toArray) W) := fun W hW => ldH_fr (HS3.out.agree hW)
  have hl' : (∀ W : World, W.heap[K]? = w3.drew.heap[K]? → (ldH (.pointer (some ⟨K, 6, none⟩))).run Tryz.prog W = .ok (.agg (cellsH X F).toArray) W) := fun W hW => ldH_fr (HS3.out.agree hW)
  have V3 : Hid (VarAt w3 w.heap.size [.int .i64 0, .int .i64 0, .int .i64 0, .bool false, .bool false, .bool false, .bool false, .int .i64 0, .int .i64 0, .int .i64 0, .int .i64 0, .int .i64 0, .slice none 0 0, .slice none 0 0]) := hid ⟨rl_3, fun i v hv => by
    match i, hv with
    | 0, hv => cases hv; exact ⟨r0_3, rf0_3⟩
    | 1, hv => cases hv; exact ⟨r1_3, rf1_3⟩
    | 2, hv => cases hv; exact ⟨r2_3, rf2_3⟩
    | 3, hv => cases hv; exact ⟨r3_3, rf3_3⟩
    | 4, hv => cases hv; exact ⟨r4_3, rf4_3⟩
    | 5, hv => cases hv; exact ⟨r5_3, rf5_3⟩
    | 6, hv => cases hv; exact ⟨r6_3, rf6_3⟩
    | 7, hv => cases hv; exact ⟨r7_3, rf7_3⟩
    | 8, hv => cases hv; exact ⟨r8_3, rf8_3⟩
    | 9, hv => cases hv; exact ⟨r9_3, rf9_3⟩
    | 10, hv => cases hv; exact ⟨r10_3, rf10_3⟩
    | 11, hv => cases hv; exact ⟨r11_3, rf11_3⟩
    | 12, hv => cases hv; exact ⟨r12_3, rf12_3⟩
    | 13, hv => cases hv; exact ⟨r13_3, rf13_3⟩⟩
  have HW3 := hid (show w.heap.size < w3.heap.size from rl_3)
  clear d3 HS2
  go_cut [3] from 3 (fun _ wx => CutT w [.int .i64 i0, .int .i64 i1, .int .i64 i2, .bool q0, .bool q1, .bool true, .bool false, .int .i64 0, .int .i64 k, .int .i64 a, .int .i64 b, .int .i64 n] I F wx)
  case first =>
    have hn1 : ¬ K = w.heap.size := by omega
    have hn2 : ¬ w2.heap.size = w.heap.size := by omega
    have S3 : Hid (w3.drew.cell? ⟨K, 0, none⟩ = some (.int .i64 i0) ∧ w3.drew.cell? ⟨K, 1, none⟩ = some (.int .i64 i1) ∧ w3.drew.cell? ⟨K, 2, none⟩ = some (.int .i64 i2) ∧ w3.drew.cell? ⟨K, 3, none⟩ = some (.bool q0) ∧ w3.drew.cell? ⟨K, 4, none⟩ = some (.bool q1) ∧ w3.drew.cell? ⟨w2.heap.size, 0, none⟩ = some (.bool true) ∧ w3.drew.cell? ⟨w2.heap.size, 1, none⟩ = some (.bool false) ∧ w3.drew.cell? ⟨w2.heap.size, 2, none⟩ = some (.int .i64 0) ∧ w3.drew.cell? ⟨w2.heap.size, 3, none⟩ = some (.int .i64 k) ∧ w3.drew.cell? ⟨w2.heap.size, 4, none⟩ = some (.int .i64 a) ∧ w3.drew.cell? ⟨w2.heap.size, 5, none⟩ = some (.int .i64 b) ∧ w3.drew.cell? ⟨w2.heap.size, 6, none⟩ = some (.int .i64 n) ∧ (∀ W : World, W.heap[K]? = w3.drew.heap[K]? → (ldH (.pointer (some ⟨K, 6, none⟩))).run Tryz.prog W = .ok (.agg (cellsH X F).toArray) W)) := hid ⟨p0, p1, p2, p3, p4, s0_3, s1_3, s2_3, s3_3, s4_3, s5_3, s6_3, hl'⟩
    clear hl'
    go_region_held3 (fun w' => w'.cell? ⟨K, 0, none⟩ = some (.int .i64 i0) ∧ w'.cell? ⟨K, 1, none⟩ = some (.int .i64 i1) ∧ w'.cell? ⟨K, 2, none⟩ = some (.int .i64 i2) ∧ w'.cell? ⟨K, 3, none⟩ = some (.bool q0) ∧ w'.cell? ⟨K, 4, none⟩ = some (.bool q1) ∧ w'.cell? ⟨w2.heap.size, 0, none⟩ = some (.bool true) ∧ w'.cell? ⟨w2.heap.size, 1, none⟩ = some (.bool false) ∧ w'.cell? ⟨w2.heap.size, 2, none⟩ = some (.int .i64 0) ∧ w'.cell? ⟨w2.heap.size, 3, none⟩ = some (.int .i64 k) ∧ w'.cell? ⟨w2.heap.size, 4, none⟩ = some (.int .i64 a) ∧ w'.cell? ⟨w2.heap.size, 5, none⟩ = some (.int .i64 b) ∧ w'.cell? ⟨w2.heap.size, 6, none⟩ = some (.int .i64 n) ∧ (∀ W : World, W.heap[K]? = w'.heap[K]? → (ldH (.pointer (some ⟨K, 6, none⟩))).run Tryz.prog W = .ok (.agg (cellsH X F).toArray) W)) (first | with_reducible exact S3.out | with_reducible exact S4.out | with_reducible exact keepT_wr hn1 hn2 S4.out | go_keep) (first
      | (go_at_call 92; refine (told_is X F I _ H4.out HF.out HX.out HI.out).mono ?_; rintro e w4 ⟨⟨ua, uc, fv, g, rfl, hgB, hgS, hgo, hgf⟩, b4⟩; obtain ⟨fo, fc, hfv⟩ := hgf.slice; subst hfv; have d4 : Below w3.heap.size w3 w4 := (Below.trans (by go_grown) (b4.mono (by first | omega | (simp; done) | (simp; omega)))); have c4 : Below w.heap.size w w4 := c3.trans (d4.mono c3.size); have s0_4 : w4.cell? ⟨w2.heap.size, 0, none⟩ = some (.bool true) := (by rw [b4.cell (by first | omega | (simp; done) | (simp; omega))]; go_cell); have s1_4 : w4.cell? ⟨w2.heap.size, 1, none⟩ = some (.bool false) := (by rw [b4.cell (by first | omega | (simp; done) | (simp; omega))]; go_cell); have s2_4 : w4.cell? ⟨w2.heap.size, 2, none⟩ = some (.int .i64 0) := (by rw [b4.cell (by first | omega | (simp; done) | (simp; omega))]; go_cell); have s3_4 : w4.cell? ⟨w2.heap.size, 3, none⟩ = some (.int .i64 k) := (by rw [b4.cell (by first | omega | (simp; done) | (simp; omega))]; go_cell); have s4_4 : w4.cell? ⟨w2.heap.size, 4, none⟩ = some (.int .i64 a) := (by rw [b4.cell (by first | omega | (simp; done) | (simp; omega))]; go_cell); have s5_4 : w4.cell? ⟨w2.heap.size, 5, none⟩ = some (.int .i64 b) := (by rw [b4.cell (by first | omega | (simp; done) | (simp; omega))]; go_cell); have s6_4 : w4.cell? ⟨w2.heap.size, 6, none⟩ = some (.int .i64 n) := (by rw [b4.cell (by first | omega | (simp; done) | (simp; omega))]; go_cell); have sl_4 : w2.heap.size < w4.heap.size := (by have := b4.size; first | omega | (revert this; simp; done) | (revert this; simp; omega)); have r0_4 : w4.cell? ⟨w.heap.size, 0, none⟩ = some (.int .i64 0) := (by rw [b4.cell (by first | omega | (simp; done) | (simp; omega))]; go_cell); have rf0_4 : w4.frozen? ⟨w.heap.size, 0, none⟩ = false := (by rw [b4.frozen (by first | omega | (simp; done) | (simp; omega))]; (first | go_cell | (simp [World.frozen?, World.alloc]; done) | rfl)); have r1_4 : w4.cell? ⟨w.heap.size, 1, none⟩ = some (.int .i64 0) := (by rw [b4.cell (by first | omega | (simp; done) | (simp; omega))]; go_cell); have rf1_4 : w4.frozen? ⟨w.heap.size, 1, none⟩ = false := (by rw [b4.frozen (by first | omega | (simp; done) | (simp; omega))]; (first | go_cell | (simp [World.frozen?, World.alloc]; done) | rfl)); have r2_4 : w4.cell? ⟨w.heap.size, 2, none⟩ = some (.int .i64 0) := (by rw [b4.cell (by first | omega | (simp; done) | (simp; omega))]; go_cell); have rf2_4 : w4.frozen? ⟨w.heap.size, 2, none⟩ = false := (by rw [b4.frozen (by first | omega | (simp; done) | (simp; omega))]; (first | go_cell | (simp [World.frozen?, World.alloc]; done) | rfl)); have r3_4 : w4.cell? ⟨w.heap.size, 3, none⟩ = some (.bool false) := (by rw [b4.cell (by first | omega | (simp; done) | (simp; omega))]; go_cell); have rf3_4 : w4.frozen? ⟨w.heap.size, 3, none⟩ = false := (by rw [b4.frozen (by first | omega | (simp; done) | (simp; omega))]; (first | go_cell | (simp [World.frozen?, World.alloc]; done) | rfl)); have r4_4 : w4.cell? ⟨w.heap.size, 4, none⟩ = some (.bool false) := (by rw [b4.cell (by first | omega | (simp; done) | (simp; omega))]; go_cell); have rf4_4 : w4.frozen? ⟨w.heap.size, 4, none⟩ = false := (by rw [b4.frozen (by first | omega | (simp; done) | (simp; omega))]; (first | go_cell | (simp [World.frozen?, World.alloc]; done) | rfl)); have r5_4 : w4.cell? ⟨w.heap.size, 5, none⟩ = some (.bool false) := (by rw [b4.cell (by first | omega | (simp; done) | (simp; omega))]; go_cell); have rf5_4 : w4.frozen? ⟨w.heap.size, 5, none⟩ = false := (by rw [b4.frozen (by first | omega | (simp; done) | (simp; omega))]; (first | go_cell | (simp [World.frozen?, World.alloc]; done) | rfl)); have r6_4 : w4.cell? ⟨w.heap.size, 6, none⟩ = some (.bool false) := (by rw [b4.cell (by first | omega | (simp; done) | (simp; omega))]; go_cell); have rf6_4 : w4.frozen? ⟨w.heap.size, 6, none⟩ = false := (by rw [b4.frozen (by first | omega | (simp; done) | (simp; omega))]; (first | go_cell | (simp [World.frozen?, World.alloc]; done) | rfl)); have r7_4 : w4.cell? ⟨w.heap.size, 7, none⟩ = some (.int .i64 0) := (by rw [b4.cell (by first | omega | (simp; done) | (simp; omega))]; go_cell); have rf7_4 : w4.frozen? ⟨w.heap.size, 7, none⟩ = false := (by rw [b4.frozen (by first | omega | (simp; done) | (simp; omega))]; (first | go_cell | (simp [World.frozen?, World.alloc]; done) | rfl)); have r8_4 : w4.cell? ⟨w.heap.size, 8, none⟩ = some (.int .i64 0) := (by rw [b4.cell (by first | omega | (simp; done) | (simp; omega))]; go_cell); have rf8_4 : w4.frozen? ⟨w.heap.size, 8, none⟩ = false := (by rw [b4.frozen (by first | omega | (simp; done) | (simp; omega))]; (first | go_cell | (simp [World.frozen?, World.alloc]; done) | rfl)); have r9_4 : w4.cell? ⟨w.heap.size, 9, none⟩ = some (.int .i64 0) := (by rw [b4.cell (by first | omega | (simp; done) | (simp; omega))]; go_cell); have rf9_4 : w4.frozen? ⟨w.heap.size, 9, none⟩ = false := (by rw [b4.frozen (by first | omega | (simp; done) | (simp; omega))]; (first | go_cell | (simp [World.frozen?, World.alloc]; done) | rfl)); have r10_4 : w4.cell? ⟨w.heap.size, 10, none⟩ = some (.int .i64 0) := (by rw [b4.cell (by first | omega | (simp; done) | (simp; omega))]; go_cell); have rf10_4 : w4.frozen? ⟨w.heap.size, 10, none⟩ = false := (by rw [b4.frozen (by first | omega | (simp; done) | (simp; omega))]; (first | go_cell | (simp [World.frozen?, World.alloc]; done) | rfl)); have r11_4 : w4.cell? ⟨w.heap.size, 11, none⟩ = some (.int .i64 0) := (by rw [b4.cell (by first | omega | (simp; done) | (simp; omega))]; go_cell); have rf11_4 : w4.frozen? ⟨w.heap.size, 11, none⟩ = false := (by rw [b4.frozen (by first | omega | (simp; done) | (simp; omega))]; (first | go_cell | (simp [World.frozen?, World.alloc]; done) | rfl)); have r12_4 : w4.cell? ⟨w.heap.size, 12, none⟩ = some (.slice none 0 0) := (by rw [b4.cell (by first | omega | (simp; done) | (simp; omega))]; go_cell); have rf12_4 : w4.frozen? ⟨w.heap.size, 12, none⟩ = false := (by rw [b4.frozen (by first | omega | (simp; done) | (simp; omega))]; (first | go_cell | (simp [World.frozen?, World.alloc]; done) | rfl)); have r13_4 : w4.cell? ⟨w.heap.size, 13, none⟩ = some (.slice none 0 0) := (by rw [b4.cell (by first | omega | (simp; done) | (simp; omega))]; go_cell); have rf13_4 : w4.frozen? ⟨w.heap.size, 13, none⟩ = false := (by rw [b4.frozen (by first | omega | (simp; done) | (simp; omega))]; (first | go_cell | (simp [World.frozen?, World.alloc]; done) | rfl)); have rl_4 : w.heap.size < w4.heap.size := (by have := b4.size; first | omega | (revert this; simp; done) | (revert this; simp; omega)); clear s0_3 s1_3 s2_3 s3_3 s4_3 s5_3 s6_3 sl_3 r0_3 rf0_3 r1_3 rf1_3 r2_3 rf2_3 r3_3 rf3_3 r4_3 rf4_3 r5_3 rf5_3 r6_3 rf6_3 r7_3 rf7_3 r8_3 rf8_3 r9_3 rf9_3 r10_3 rf10_3 r11_3 rf11_3 r12_3 rf12_3 r13_3 rf13_3 rl_3; have HO4 := hid hgo; have HF4 := hid hgf; have HG4 := hid (And.intro hgB hgS); have V4 := hid (V3.out.later d4); have HGR := hid (show w.heap.size < g from Nat.lt_of_lt_of_le HW3.out hgB); have P4 := hid (HS3.out.later d4); have hK4 := P4.out.lt; have p0_4 := P4.out.pre 0 _ rfl; have p1_4 := P4.out.pre 1 _ rfl; have p2_4 := P4.out.pre 2 _ rfl; have p3_4 := P4.out.pre 3 _ rfl; have p4_4 := P4.out.pre 4 _ rfl; have hl4 : (∀ W : World, W.heap[K]? = w4.heap[K]? → (ldH (.pointer (some ⟨K, 6, none⟩))).run Tryz.prog W = .ok (.agg (cellsH X F).toArray) W) := fun W hW => ldH_fr (P4.out.agree hW); have S4 : Hid (w4.cell? ⟨K, 0, none⟩ = some (.int .i64 i0) ∧ w4.cell? ⟨K, 1, none⟩ = some (.int .i64 i1) ∧ w4.cell? ⟨K, 2, none⟩ = some (.int .i64 i2) ∧ w4.cell? ⟨K, 3, none⟩ = some (.bool q0) ∧ w4.cell? ⟨K, 4, none⟩ = some (.bool q1) ∧ w4.cell? ⟨w2.heap.size, 0, none⟩ = some (.bool true) ∧ w4.cell? ⟨w2.heap.size, 1, none⟩ = some (.bool false) ∧ w4.cell? ⟨w2.heap.size, 2, none⟩ = some (.int .i64 0) ∧ w4.cell? ⟨w2.heap.size, 3, none⟩ = some (.int .i64 k) ∧ w4.cell? ⟨w2.heap.size, 4, none⟩ = some (.int .i64 a) ∧ w4.cell? ⟨w2.heap.size, 5, none⟩ = some (.int .i64 b) ∧ w4.cell? ⟨w2.heap.size, 6, none⟩ = some (.int .i64 n) ∧ (∀ W : World, W.heap[K]? = w4.heap[K]? → (ldH (.pointer (some ⟨K, 6, none⟩))).run Tryz.prog W = .ok (.agg (cellsH X F).toArray) W)) := hid ⟨p0_4, p1_4, p2_4, p3_4, p4_4, s0_4, s1_4, s2_4, s3_4, s4_4, s5_4, s6_4, hl4⟩; clear b4 hgo hgf hgB hgS))
    all_goals
      go_wp2_with fail
      go_meet
      have HC := (cutT_store HGR.out 13 (by simp) (.slice fo F.length fc) (cutT_store HGR.out 12 (by simp) (.slice ua I.length uc) (cutT_store HGR.out 11 (by simp) (.int .i64 n) (cutT_store HGR.out 10 (by simp) (.int .i64 b) (cutT_store HGR.out 9 (by simp) (.int .i64 a) (cutT_store HGR.out 8 (by simp) (.int .i64 k) (cutT_store HGR.out 7 (by simp) (.int .i64 0) (cutT_store HGR.out 6 (by simp) (.bool false) (cutT_store HGR.out 5 (by simp) (.bool true) (cutT_store HGR.out 4 (by simp) (.bool q1) (cutT_store HGR.out 3 (by simp) (.bool q0) (cutT_store HGR.out 2 (by simp) (.int .i64 i2) (cutT_store HGR.out 1 (by simp) (.int .i64 i1) (cutT_store HGR.out 0 (by simp) (.int .i64 i0) ⟨V4.out, HG4.out.2, HO4.out, HF4.out, c4⟩))))))))))))))
      exact ⟨ua, uc, fo, fc, g, HC.1, Nat.le_of_lt HGR.out, HC.2.1, HC.2.2.1, HC.2.2.2.1, HC.2.2.2.2⟩
  case rest =>
    obtain ⟨ua, uc, fo, fc, g, hv, hg0, hg1, ho, hf, hb⟩ := hcut
    have e0 := hv.c 0 rfl
    have e1 := hv.c 1 rfl
    have e2 := hv.c 2 rfl
    have e3 := hv.c 3 rfl
    have e4 := hv.c 4 rfl
    have e5 := hv.c 5 rfl
    have e6 := hv.c 6 rfl
    have e7 := hv.c 7 rfl
    have e8 := hv.c 8 rfl
    have e9 := hv.c 9 rfl
    have e10 := hv.c 10 rfl
    have e11 := hv.c 11 rfl
    have e12 := hv.c 12 rfl
    have e13 := hv.c 13 rfl
    have HO := hid ho
    have HFF := hid hf
    have HB := hid hb
    have HGG := hid (And.intro hg0 hg1)
    clear ho hf hb hv hg0 hg1
    go_wp2
    exact bodyPost_ret (v := .agg #[.int .i64 i0, .int .i64 i1, .int .i64 i2, .bool q0, .bool q1, .bool true, .bool false, .int .i64 0, .int .i64 k, .int .i64 a, .int .i64 b, .int .i64 n, .slice ua I.length uc, .slice fo F.length fc]) (by simp [results, Tryz.results74, go_sem, e0, e1, e2, e3, e4, e5, e6, e7, e8, e9, e10, e11, e12, e13]) rfl ⟨⟨ua, uc, fo, fc, g, rfl, HGG.out.1, HGG.out.2, HO.out, HFF.out⟩, HB.out⟩
theorem keepT_no {w4 : World} {R K s : Nat} {i0 i1 i2 : Int} {q0 q1 : Bool}  {X : List (Option KD)} {F : List KD} {v0 v1 v2 v3 v4 v5 v6 v7 v8 v9 v10 v11 v12 v13 : Value} (hK : ¬ K = R) (hs : ¬ s = R) (h : w4.cell? ⟨K, 0, none⟩ = some (.int .i64 i0) ∧ w4.cell? ⟨K, 1, none⟩ = some (.int .i64 i1) ∧ w4.cell? ⟨K, 2, none⟩ = some (.int .i64 i2) ∧ w4.cell? ⟨K, 3, none⟩ = some (.bool q0) ∧ w4.cell? ⟨K, 4, none⟩ = some (.bool q1) ∧ w4.cell? ⟨s, 0, none⟩ = some (.bool false) ∧ w4.cell? ⟨s, 1, none⟩ = some (.bool false) ∧ w4.cell? ⟨s, 2, none⟩ = some (.int .i64 0) ∧ w4.cell? ⟨s, 3, none⟩ = some (.int .i64 0) ∧ w4.cell? ⟨s, 4, none⟩ = some (.int .i64 0) ∧ w4.cell? ⟨s, 5, none⟩ = some (.int .i64 0) ∧ w4.cell? ⟨s, 6, none⟩ = some (.int .i64 0) ∧ (∀ W : World, W.heap[K]? = w4.heap[K]? → (ldH (.pointer (some ⟨K, 6, none⟩))).run Tryz.prog W = .ok (.agg (cellsH X F).toArray) W)) : ((((((((((((((w4.setCell ⟨R, 0, none⟩ v0).setCell ⟨R, 1, none⟩ v1).setCell ⟨R, 2, none⟩ v2).setCell ⟨R, 3, none⟩ v3).setCell ⟨R, 4, none⟩ v4).setCell ⟨R, 5, none⟩ v5).setCell ⟨R, 6, none⟩ v6).setCell ⟨R, 7, none⟩ v7).setCell ⟨R, 8, none⟩ v8).setCell ⟨R, 9, none⟩ v9).setCell ⟨R, 10, none⟩ v10).setCell ⟨R, 11, none⟩ v11).setCell ⟨R, 12, none⟩ v12).setCell ⟨R, 13, none⟩ v13).cell? ⟨K, 0, none⟩ = some (.int .i64 i0) ∧ ((((((((((((((w4.setCell ⟨R, 0, none⟩ v0).setCell ⟨R, 1, none⟩ v1).setCell ⟨R, 2, none⟩ v2).setCell ⟨R, 3, none⟩ v3).setCell ⟨R, 4, none⟩ v4).setCell ⟨R, 5, none⟩ v5).setCell ⟨R, 6, none⟩ v6).setCell ⟨R, 7, none⟩ v7).setCell ⟨R, 8, none⟩ v8).setCell ⟨R, 9, none⟩ v9).setCell ⟨R, 10, none⟩ v10).setCell ⟨R, 11, none⟩ v11).setCell ⟨R, 12, none⟩ v12).setCell ⟨R, 13, none⟩ v13).cell? ⟨K, 1, none⟩ = some (.int .i64 i1) ∧ ((((((((((((((w4.setCell ⟨R, 0, none⟩ v0).setCell ⟨R, 1, none⟩ v1).setCell ⟨R, 2, none⟩ v2).setCell ⟨R, 3, none⟩ v3).setCell ⟨R, 4, none⟩ v4).setCell ⟨R, 5, none⟩ v5).setCell ⟨R, 6, none⟩ v6).setCell ⟨R, 7, none⟩ v7).setCell ⟨R, 8, none⟩ v8).setCell ⟨R, 9, none⟩ v9).setCell ⟨R, 10, none⟩ v10).setCell ⟨R, 11, none⟩ v11).setCell ⟨R, 12, none⟩ v12).setCell ⟨R, 13, none⟩ v13).cell? ⟨K, 2, none⟩ = some (.int .i64 i2) ∧ ((((((((((((((w4.setCell ⟨R, 0, none⟩ v0).setCell ⟨R, 1, none⟩ v1).setCell ⟨R, 2, none⟩ v2).setCell ⟨R, 3, none⟩ v3).setCell ⟨R, 4, none⟩ v4).setCell ⟨R, 5, none⟩ v5).setCell ⟨R, 6, none⟩ v6).setCell ⟨R, 7, none⟩ v7).setCell ⟨R, 8, none⟩ v8).setCell ⟨R, 9, none⟩ v9).setCell ⟨R, 10, none⟩ v10).setCell ⟨R, 11, none⟩ v11).setCell ⟨R, 12, none⟩ v12).setCell ⟨R, 13, none⟩ v13).cell? ⟨K, 3, none⟩ = some (.bool q0) ∧ ((((((((((((((w4.setCell ⟨R, 0, none⟩ v0).setCell ⟨R, 1, none⟩ v1).setCell ⟨R, 2, none⟩ v2).setCell ⟨R, 3, none⟩ v3).setCell ⟨R, 4, none⟩ v4).setCell ⟨R, 5, none⟩ v5).setCell ⟨R, 6, none⟩ v6).setCell ⟨R, 7, none⟩ v7).setCell ⟨R, 8, none⟩ v8).setCell ⟨R, 9, none⟩ v9).setCell ⟨R, 10, none⟩ v10).setCell ⟨R, 11, none⟩ v11).setCell ⟨R, 12, none⟩ v12).setCell ⟨R, 13, none⟩ v13).cell? ⟨K, 4, none⟩ = some (.bool q1) ∧ ((((((((((((((w4.setCell ⟨R, 0, none⟩ v0).setCell ⟨R, 1, none⟩ v1).setCell ⟨R, 2, none⟩ v2).setCell ⟨R, 3, none⟩ v3).setCell ⟨R, 4, none⟩ v4).setCell ⟨R, 5, none⟩ v5).setCell ⟨R, 6, none⟩ v6).setCell ⟨R, 7, none⟩ v7).setCell ⟨R, 8, none⟩ v8).setCell ⟨R, 9, none⟩ v9).setCell ⟨R, 10, none⟩ v10).setCell ⟨R, 11, none⟩ v11).setCell ⟨R, 12, none⟩ v12).setCell ⟨R, 13, none⟩ v13).cell? ⟨s, 0, none⟩ = some (.bool false) ∧ ((((((((((((((w4.setCell ⟨R, 0, none⟩ v0).setCell ⟨R, 1, none⟩ v1).setCell ⟨R, 2, none⟩ v2).setCell ⟨R, 3, none⟩ v3).setCell ⟨R, 4, none⟩ v4).setCell ⟨R, 5, none⟩ v5).setCell ⟨R, 6, none⟩ v6).setCell ⟨R, 7, none⟩ v7).setCell ⟨R, 8, none⟩ v8).setCell ⟨R, 9, none⟩ v9).setCell ⟨R, 10, none⟩ v10).setCell ⟨R, 11, none⟩ v11).setCell ⟨R, 12, none⟩ v12).setCell ⟨R, 13, none⟩ v13).cell? ⟨s, 1, none⟩ = some (.bool false) ∧ ((((((((((((((w4.setCell ⟨R, 0, none⟩ v0).setCell ⟨R, 1, none⟩ v1).setCell ⟨R, 2, none⟩ v2).setCell ⟨R, 3, none⟩ v3).setCell ⟨R, 4, none⟩ v4).setCell ⟨R, 5, none⟩ v5).setCell ⟨R, 6, none⟩ v6).setCell ⟨R, 7, none⟩ v7).setCell ⟨R, 8, none⟩ v8).setCell ⟨R, 9, none⟩ v9).setCell ⟨R, 10, none⟩ v10).setCell ⟨R, 11, none⟩ v11).setCell ⟨R, 12, none⟩ v12).setCell ⟨R, 13, none⟩ v13).cell? ⟨s, 2, none⟩ = some (.int .i64 0) ∧ ((((((((((((((w4.setCell ⟨R, 0, none⟩ v0).setCell ⟨R, 1, none⟩ v1).setCell ⟨R, 2, none⟩ v2).setCell ⟨R, 3, none⟩ v3).setCell ⟨R, 4, none⟩ v4).setCell ⟨R, 5, none⟩ v5).setCell ⟨R, 6, none⟩ v6).setCell ⟨R, 7, none⟩ v7).setCell ⟨R, 8, none⟩ v8).setCell ⟨R, 9, none⟩ v9).setCell ⟨R, 10, none⟩ v10).setCell ⟨R, 11, none⟩ v11).setCell ⟨R, 12, none⟩ v12).setCell ⟨R, 13, none⟩ v13).cell? ⟨s, 3, none⟩ = some (.int .i64 0) ∧ ((((((((((((((w4.setCell ⟨R, 0, none⟩ v0).setCell ⟨R, 1, none⟩ v1).setCell ⟨R, 2, none⟩ v2).setCell ⟨R, 3, none⟩ v3).setCell ⟨R, 4, none⟩ v4).setCell ⟨R, 5, none⟩ v5).setCell ⟨R, 6, none⟩ v6).setCell ⟨R, 7, none⟩ v7).setCell ⟨R, 8, none⟩ v8).setCell ⟨R, 9, none⟩ v9).setCell ⟨R, 10, none⟩ v10).setCell ⟨R, 11, none⟩ v11).setCell ⟨R, 12, none⟩ v12).setCell ⟨R, 13, none⟩ v13).cell? ⟨s, 4, none⟩ = some (.int .i64 0) ∧ ((((((((((((((w4.setCell ⟨R, 0, none⟩ v0).setCell ⟨R, 1, none⟩ v1).setCell ⟨R, 2, none⟩ v2).setCell ⟨R, 3, none⟩ v3).setCell ⟨R, 4, none⟩ v4).setCell ⟨R, 5, none⟩ v5).setCell ⟨R, 6, none⟩ v6).setCell ⟨R, 7, none⟩ v7).setCell ⟨R, 8, none⟩ v8).setCell ⟨R, 9, none⟩ v9).setCell ⟨R, 10, none⟩ v10).setCell ⟨R, 11, none⟩ v11).setCell ⟨R, 12, none⟩ v12).setCell ⟨R, 13, none⟩ v13).cell? ⟨s, 5, none⟩ = some (.int .i64 0) ∧ ((((((((((((((w4.setCell ⟨R, 0, none⟩ v0).setCell ⟨R, 1, none⟩ v1).setCell ⟨R, 2, none⟩ v2).setCell ⟨R, 3, none⟩ v3).setCell ⟨R, 4, none⟩ v4).setCell ⟨R, 5, none⟩ v5).setCell ⟨R, 6, none⟩ v6).setCell ⟨R, 7, none⟩ v7).setCell ⟨R, 8, none⟩ v8).setCell ⟨R, 9, none⟩ v9).setCell ⟨R, 10, none⟩ v10).setCell ⟨R, 11, none⟩ v11).setCell ⟨R, 12, none⟩ v12).setCell ⟨R, 13, none⟩ v13).cell? ⟨s, 6, none⟩ = some (.int .i64 0) ∧ (∀ W : World, W.heap[K]? = ((((((((((((((w4.setCell ⟨R, 0, none⟩ v0).setCell ⟨R, 1, none⟩ v1).setCell ⟨R, 2, none⟩ v2).setCell ⟨R, 3, none⟩ v3).setCell ⟨R, 4, none⟩ v4).setCell ⟨R, 5, none⟩ v5).setCell ⟨R, 6, none⟩ v6).setCell ⟨R, 7, none⟩ v7).setCell ⟨R, 8, none⟩ v8).setCell ⟨R, 9, none⟩ v9).setCell ⟨R, 10, none⟩ v10).setCell ⟨R, 11, none⟩ v11).setCell ⟨R, 12, none⟩ v12).setCell ⟨R, 13, none⟩ v13).heap[K]? → (ldH (.pointer (some ⟨K, 6, none⟩))).run Tryz.prog W = .ok (.agg (cellsH X F).toArray) W) := by
  have hl : ∀ k, ¬ k = R → ((((((((((((((w4.setCell ⟨R, 0, none⟩ v0).setCell ⟨R, 1, none⟩ v1).setCell ⟨R, 2, none⟩ v2).setCell ⟨R, 3, none⟩ v3).setCell ⟨R, 4, none⟩ v4).setCell ⟨R, 5, none⟩ v5).setCell ⟨R, 6, none⟩ v6).setCell ⟨R, 7, none⟩ v7).setCell ⟨R, 8, none⟩ v8).setCell ⟨R, 9, none⟩ v9).setCell ⟨R, 10, none⟩ v10).setCell ⟨R, 11, none⟩ v11).setCell ⟨R, 12, none⟩ v12).setCell ⟨R, 13, none⟩ v13).heap[k]? = w4.heap[k]? := fun k hk => by simp only [Below.heap_setCell _ _ _ _ (show k ≠ (Addr.mk R _ none).block from hk)]
  obtain ⟨h0, h1, h2, h3, h4, h5, h6, h7, h8, h9, h10, h11, hsh⟩ := h
  exact ⟨(World.cell?_of_block (a := ⟨K, 0, none⟩) (hl K hK)).trans h0, (World.cell?_of_block (a := ⟨K, 1, none⟩) (hl K hK)).trans h1, (World.cell?_of_block (a := ⟨K, 2, none⟩) (hl K hK)).trans h2, (World.cell?_of_block (a := ⟨K, 3, none⟩) (hl K hK)).trans h3, (World.cell?_of_block (a := ⟨K, 4, none⟩) (hl K hK)).trans h4,
    (World.cell?_of_block (a := ⟨s, 0, none⟩) (hl s hs)).trans h5, (World.cell?_of_block (a := ⟨s, 1, none⟩) (hl s hs)).trans h6, (World.cell?_of_block (a := ⟨s, 2, none⟩) (hl s hs)).trans h7, (World.cell?_of_block (a := ⟨s, 3, none⟩) (hl s hs)).trans h8, (World.cell?_of_block (a := ⟨s, 4, none⟩) (hl s hs)).trans h9, (World.cell?_of_block (a := ⟨s, 5, none⟩) (hl s hs)).trans h10, (World.cell?_of_block (a := ⟨s, 6, none⟩) (hl s hs)).trans h11, fun W hW => hsh W (hW.trans (hl K hK))⟩
set_option maxRecDepth 100000 in
set_option maxHeartbeats 8000000 in
theorem keeperTier_no (i0 i1 i2 : Int) (q0 q1 : Bool)  (sv tv : Value) (X : List (Option KD)) (F I : List KD) (K : Nat) (w : World) (h : ShAt w K (frK i0 i1 i2 q0 q1 (idleW) sv tv) X F) (hF : FloF F)
    (hx : ∀ x ∈ X.filterMap id, x.1.length = 3 ∧ x.2.length ≤ 8) (hI : X.filterMap id = I) :
    Calls Tryz.prog 74 #[.pointer (some ⟨K, 0, none⟩)] w fun e w' => EndT w.heap.size w' [.int .i64 i0, .int .i64 i1, .int .i64 i2, .bool q0, .bool q1, .bool false, .bool false, .int .i64 0, .int .i64 0, .int .i64 0, .int .i64 0, .int .i64 0] I F e ∧ Below w.heap.size w w' := by
  have HS := hid h
  have H4 := hid h.x4
  have HF := hid hF
  have HX := hid hx
  have HI := hid hI
  have hK := h.lt
  have p5 := h.pre 5 _ rfl
  have hm := method_noAsked
  clear h hF hx hI
  go_enter Tryz.func74, Tryz.ntmps74
  go_wp2_with fail
  generalize hW1 : (w.alloc (.cells #[.int .i64 0, .int .i64 0, .int .i64 0, .bool false, .bool false, .bool false, .bool false, .int .i64 0, .int .i64 0, .int .i64 0, .int .i64 0, .int .i64 0, .slice none 0 0, .slice none 0 0] 38)) = w1
  have r0_1 : w1.cell? ⟨w.heap.size, 0, none⟩ = some (.int .i64 0) := by subst hW1; go_cell
  have rf0_1 : w1.frozen? ⟨w.heap.size, 0, none⟩ = false := by subst hW1; (first | go_cell | (simp [World.frozen?, World.alloc]; done) | rfl)
  have r1_1 : w1.cell? ⟨w.heap.size, 1, none⟩ = some (.int .i64 0) := by subst hW1; go_cell
  have rf1_1 : w1.frozen? ⟨w.heap.size, 1, none⟩ = false := by subst hW1; (first | go_cell | (simp [World.frozen?, World.alloc]; done) | rfl)
  have r2_1 : w1.cell? ⟨w.heap.size, 2, none⟩ = some (.int .i64 0) := by subst hW1; go_cell
  have rf2_1 : w1.frozen? ⟨w.heap.size, 2, none⟩ = false := by subst hW1; (first | go_cell | (simp [World.frozen?, World.alloc]; done) | rfl)
  have r3_1 : w1.cell? ⟨w.heap.size, 3, none⟩ = some (.bool false) := by subst hW1; go_cell
  have rf3_1 : w1.frozen? ⟨w.heap.size, 3, none⟩ = false := by subst hW1; (first | go_cell | (simp [World.frozen?, World.alloc]; done) | rfl)
  have r4_1 : w1.cell? ⟨w.heap.size, 4, none⟩ = some (.bool false) := by subst hW1; go_cell
  have rf4_1 : w1.frozen? ⟨w.heap.size, 4, none⟩ = false := by subst hW1; (first | go_cell | (simp [World.frozen?, World.alloc]; done) | rfl)
  have r5_1 : w1.cell? ⟨w.heap.size, 5, none⟩ = some (.bool false) := by subst hW1; go_cell
  have rf5_1 : w1.frozen? ⟨w.heap.size, 5, none⟩ = false := by subst hW1; (first | go_cell | (simp [World.frozen?, World.alloc]; done) | rfl)
  have r6_1 : w1.cell? ⟨w.heap.size, 6, none⟩ = some (.bool false) := by subst hW1; go_cell
  have rf6_1 : w1.frozen? ⟨w.heap.size, 6, none⟩ = false := by subst hW1; (first | go_cell | (simp [World.frozen?, World.alloc]; done) | rfl)
  have r7_1 : w1.cell? ⟨w.heap.size, 7, none⟩ = some (.int .i64 0) := by subst hW1; go_cell
  have rf7_1 : w1.frozen? ⟨w.heap.size, 7, none⟩ = false := by subst hW1; (first | go_cell | (simp [World.frozen?, World.alloc]; done) | rfl)
  have r8_1 : w1.cell? ⟨w.heap.size, 8, none⟩ = some (.int .i64 0) := by subst hW1; go_cell
  have rf8_1 : w1.frozen? ⟨w.heap.size, 8, none⟩ = false := by subst hW1; (first | go_cell | (simp [World.frozen?, World.alloc]; done) | rfl)
  have r9_1 : w1.cell? ⟨w.heap.size, 9, none⟩ = some (.int .i64 0) := by subst hW1; go_cell
  have rf9_1 : w1.frozen? ⟨w.heap.size, 9, none⟩ = false := by subst hW1; (first | go_cell | (simp [World.frozen?, World.alloc]; done) | rfl)
  have r10_1 : w1.cell? ⟨w.heap.size, 10, none⟩ = some (.int .i64 0) := by subst hW1; go_cell
  have rf10_1 : w1.frozen? ⟨w.heap.size, 10, none⟩ = false := by subst hW1; (first | go_cell | (simp [World.frozen?, World.alloc]; done) | rfl)
  have r11_1 : w1.cell? ⟨w.heap.size, 11, none⟩ = some (.int .i64 0) := by subst hW1; go_cell
  have rf11_1 : w1.frozen? ⟨w.heap.size, 11, none⟩ = false := by subst hW1; (first | go_cell | (simp [World.frozen?, World.alloc]; done) | rfl)
  have r12_1 : w1.cell? ⟨w.heap.size, 12, none⟩ = some (.slice none 0 0) := by subst hW1; go_cell
  have rf12_1 : w1.frozen? ⟨w.heap.size, 12, none⟩ = false := by subst hW1; (first | go_cell | (simp [World.frozen?, World.alloc]; done) | rfl)
  have r13_1 : w1.cell? ⟨w.heap.size, 13, none⟩ = some (.slice none 0 0) := by subst hW1; go_cell
  have rf13_1 : w1.frozen? ⟨w.heap.size, 13, none⟩ = false := by subst hW1; (first | go_cell | (simp [World.frozen?, World.alloc]; done) | rfl)
  have rl_1 : w.heap.size < w1.heap.size := by subst hW1; first | (simp; done) | (simp; omega)
  have c1 : Below w.heap.size w w1 := by subst hW1; go_grown
  have s1 : w1.heap.size = w.heap.size + 1 := by subst hW1; simp
  clear hW1
  have qr0_1 := cell_regrown r0_1
  have qr1_1 := cell_regrown r1_1
  have qr2_1 := cell_regrown r2_1
  have qr3_1 := cell_regrown r3_1
  have qr4_1 := cell_regrown r4_1
  have qr5_1 := cell_regrown r5_1
  have qr6_1 := cell_regrown r6_1
  have qr7_1 := cell_regrown r7_1
  have qr8_1 := cell_regrown r8_1
  have qr9_1 := cell_regrown r9_1
  have qr10_1 := cell_regrown r10_1
  have qr11_1 := cell_regrown r11_1
  have qr12_1 := cell_regrown r12_1
  have qr13_1 := cell_regrown r13_1
  have HS1 := hid (HS.out.later c1)
  refine (noAsked_any _).mono ?_
  rintro e w2 ⟨rfl, b2⟩
  have d2 : Below w1.heap.size w1 w2 := (Below.trans (by go_grown) (b2.mono (by first | omega | (simp; done) | (simp; omega))))
  have c2 : Below w.heap.size w w2 := c1.trans (d2.mono c1.size)
  have r0_2 : w2.cell? ⟨w.heap.size, 0, none⟩ = some (.int .i64 0) := (by rw [b2.cell (by first | omega | (simp; done) | (simp; omega))]; go_cell)
  have rf0_2 : w2.frozen? ⟨w.heap.size, 0, none⟩ = false := (by rw [b2.frozen (by first | omega | (simp; done) | (simp; omega))]; (first | go_cell | (simp [World.frozen?, World.alloc]; done) | rfl))
  have r1_2 : w2.cell? ⟨w.heap.size, 1, none⟩ = some (.int .i64 0) := (by rw [b2.cell (by first | omega | (simp; done) | (simp; omega))]; go_cell)
  have rf1_2 : w2.frozen? ⟨w.heap.size, 1, none⟩ = false := (by rw [b2.frozen (by first | omega | (simp; done) | (simp; omega))]; (first | go_cell | (simp [World.frozen?, World.alloc]; done) | rfl))
  have r2_2 : w2.cell? ⟨w.heap.size, 2, none⟩ = some (.int .i64 0) := (by rw [b2.cell (by first | omega | (simp; done) | (simp; omega))]; go_cell)
  have rf2_2 : w2.frozen? ⟨w.heap.size, 2, none⟩ = false := (by rw [b2.frozen (by first | omega | (simp; done) | (simp; omega))]; (first | go_cell | (simp [World.frozen?, World.alloc]; done) | rfl))
  have r3_2 : w2.cell? ⟨w.heap.size, 3, none⟩ = some (.bool false) := (by rw [b2.cell (by first | omega | (simp; done) | (simp; omega))]; go_cell)
  have rf3_2 : w2.frozen? ⟨w.heap.size, 3, none⟩ = false := (by rw [b2.frozen (by first | omega | (simp; done) | (simp; omega))]; (first | go_cell | (simp [World.frozen?, World.alloc]; done) | rfl))
  have r4_2 : w2.cell? ⟨w.heap.size, 4, none⟩ = some (.bool false) := (by rw [b2.cell (by first | omega | (simp; done) | (simp; omega))]; go_cell)
  have rf4_2 : w2.frozen? ⟨w.heap.size, 4, none⟩ = false := (by rw [b2.frozen (by first | omega | (simp; done) | (simp; omega))]; (first | go_cell | (simp [World.frozen?, World.alloc]; done) | rfl))
  have r5_2 : w2.cell? ⟨w.heap.size, 5, none⟩ = some (.bool false) := (by rw [b2.cell (by first | omega | (simp; done) | (simp; omega))]; go_cell)
  have rf5_2 : w2.frozen? ⟨w.heap.size, 5, none⟩ = false := (by rw [b2.frozen (by first | omega | (simp; done) | (simp; omega))]; (first | go_cell | (simp [World.frozen?, World.alloc]; done) | rfl))
  have r6_2 : w2.cell? ⟨w.heap.size, 6, none⟩ = some (.bool false) := (by rw [b2.cell (by first | omega | (simp; done) | (simp; omega))]; go_cell)
  have rf6_2 : w2.frozen? ⟨w.heap.size, 6, none⟩ = false := (by rw [b2.frozen (by first | omega | (simp; done) | (simp; omega))]; (first | go_cell | (simp [World.frozen?, World.alloc]; done) | rfl))
  have r7_2 : w2.cell? ⟨w.heap.size, 7, none⟩ = some (.int .i64 0) := (by rw [b2.cell (by first | omega | (simp; done) | (simp; omega))]; go_cell)
  have rf7_2 : w2.frozen? ⟨w.heap.size, 7, none⟩ = false := (by rw [b2.frozen (by first | omega | (simp; done) | (simp; omega))]; (first | go_cell | (simp [World.frozen?, World.alloc]; done) | rfl))
  have r8_2 : w2.cell? ⟨w.heap.size, 8, none⟩ = some (.int .i64 0) := (by rw [b2.cell (by first | omega | (simp; done) | (simp; omega))]; go_cell)
  have rf8_2 : w2.frozen? ⟨w.heap.size, 8, none⟩ = false := (by rw [b2.frozen (by first | omega | (simp; done) | (simp; omega))]; (first | go_cell | (simp [World.frozen?, World.alloc]; done) | rfl))
  have r9_2 : w2.cell? ⟨w.heap.size, 9, none⟩ = some (.int .i64 0) := (by rw [b2.cell (by first | omega | (simp; done) | (simp; omega))]; go_cell)
  have rf9_2 : w2.frozen? ⟨w.heap.size, 9, none⟩ = false := (by rw [b2.frozen (by first | omega | (simp; done) | (simp; omega))]; (first | go_cell | (simp [World.frozen?, World.alloc]; done) | rfl))
  have r10_2 : w2.cell? ⟨w.heap.size, 10, none⟩ = some (.int .i64 0) := (by rw [b2.cell (by first | omega | (simp; done) | (simp; omega))]; go_cell)
  have rf10_2 : w2.frozen? ⟨w.heap.size, 10, none⟩ = false := (by rw [b2.frozen (by first | omega | (simp; done) | (simp; omega))]; (first | go_cell | (simp [World.frozen?, World.alloc]; done) | rfl))
  have r11_2 : w2.cell? ⟨w.heap.size, 11, none⟩ = some (.int .i64 0) := (by rw [b2.cell (by first | omega | (simp; done) | (simp; omega))]; go_cell)
  have rf11_2 : w2.frozen? ⟨w.heap.size, 11, none⟩ = false := (by rw [b2.frozen (by first | omega | (simp; done) | (simp; omega))]; (first | go_cell | (simp [World.frozen?, World.alloc]; done) | rfl))
  have r12_2 : w2.cell? ⟨w.heap.size, 12, none⟩ = some (.slice none 0 0) := (by rw [b2.cell (by first | omega | (simp; done) | (simp; omega))]; go_cell)
  have rf12_2 : w2.frozen? ⟨w.heap.size, 12, none⟩ = false := (by rw [b2.frozen (by first | omega | (simp; done) | (simp; omega))]; (first | go_cell | (simp [World.frozen?, World.alloc]; done) | rfl))
  have r13_2 : w2.cell? ⟨w.heap.size, 13, none⟩ = some (.slice none 0 0) := (by rw [b2.cell (by first | omega | (simp; done) | (simp; omega))]; go_cell)
  have rf13_2 : w2.frozen? ⟨w.heap.size, 13, none⟩ = false := (by rw [b2.frozen (by first | omega | (simp; done) | (simp; omega))]; (first | go_cell | (simp [World.frozen?, World.alloc]; done) | rfl))
  have rl_2 : w.heap.size < w2.heap.size := (by have := b2.size; first | omega | (revert this; simp; done) | (revert this; simp; omega))
  clear r0_1 rf0_1 r1_1 rf1_1 r2_1 rf2_1 r3_1 rf3_1 r4_1 rf4_1 r5_1 rf5_1 r6_1 rf6_1 r7_1 rf7_1 r8_1 rf8_1 r9_1 rf9_1 r10_1 rf10_1 r11_1 rf11_1 r12_1 rf12_1 r13_1 rf13_1 rl_1
  have HS2 := hid (HS1.out.later d2)
  have rl_w : w.heap.size < w2.heap.size := rl_2
  clear b2 d2 HS1 p5
  go_upto_region 2 with fail
  generalize hW3 : (w2.alloc (.cells #[.bool false, .bool false, .int .i64 0, .int .i64 0, .int .i64 0, .int .i64 0, .int .i64 0] 69)) = w3
  have s0_3 : w3.cell? ⟨w2.heap.size, 0, none⟩ = some (.bool false) := by subst hW3; go_cell
  have s1_3 : w3.cell? ⟨w2.heap.size, 1, none⟩ = some (.bool false) := by subst hW3; go_cell
  have s2_3 : w3.cell? ⟨w2.heap.size, 2, none⟩ = some (.int .i64 0) := by subst hW3; go_cell
  have s3_3 : w3.cell? ⟨w2.heap.size, 3, none⟩ = some (.int .i64 0) := by subst hW3; go_cell
  have s4_3 : w3.cell? ⟨w2.heap.size, 4, none⟩ = some (.int .i64 0) := by subst hW3; go_cell
  have s5_3 : w3.cell? ⟨w2.heap.size, 5, none⟩ = some (.int .i64 0) := by subst hW3; go_cell
  have s6_3 : w3.cell? ⟨w2.heap.size, 6, none⟩ = some (.int .i64 0) := by subst hW3; go_cell
  have sl_3 : w2.heap.size < w3.heap.size := by subst hW3; simp
  have d3 : Below w2.heap.size w2 w3 := by subst hW3; go_grown
  clear hW3
  have c3 : Below w.heap.size w w3 := c2.trans (d3.mono c2.size)
  have r0_3 : w3.cell? ⟨w.heap.size, 0, none⟩ = some (.int .i64 0) := (by rw [d3.cell (by first | omega | (simp; done) | (simp; omega))]; go_cell)
  have rf0_3 : w3.frozen? ⟨w.heap.size, 0, none⟩ = false := (by rw [d3.frozen (by first | omega | (simp; done) | (simp; omega))]; (first | go_cell | (simp [World.frozen?, World.alloc]; done) | rfl))
  have r1_3 : w3.cell? ⟨w.heap.size, 1, none⟩ = some (.int .i64 0) := (by rw [d3.cell (by first | omega | (simp; done) | (simp; omega))]; go_cell)
  have rf1_3 : w3.frozen? ⟨w.heap.size, 1, none⟩ = false := (by rw [d3.frozen (by first | omega | (simp; done) | (simp; omega))]; (first | go_cell | (simp [World.frozen?, World.alloc]; done) | rfl))
  have r2_3 : w3.cell? ⟨w.heap.size, 2, none⟩ = some (.int .i64 0) := (by rw [d3.cell (by first | omega | (simp; done) | (simp; omega))]; go_cell)
  have rf2_3 : w3.frozen? ⟨w.heap.size, 2, none⟩ = false := (by rw [d3.frozen (by first | omega | (simp; done) | (simp; omega))]; (first | go_cell | (simp [World.frozen?, World.alloc]; done) | rfl))
  have r3_3 : w3.cell? ⟨w.heap.size, 3, none⟩ = some (.bool false) := (by rw [d3.cell (by first | omega | (simp; done) | (simp; omega))]; go_cell)
  have rf3_3 : w3.frozen? ⟨w.heap.size, 3, none⟩ = false := (by rw [d3.frozen (by first | omega | (simp; done) | (simp; omega))]; (first | go_cell | (simp [World.frozen?, World.alloc]; done) | rfl))
  have r4_3 : w3.cell? ⟨w.heap.size, 4, none⟩ = some (.bool false) := (by rw [d3.cell (by first | omega | (simp; done) | (simp; omega))]; go_cell)
  have rf4_3 : w3.frozen? ⟨w.heap.size, 4, none⟩ = false := (by rw [d3.frozen (by first | omega | (simp; done) | (simp; omega))]; (first | go_cell | (simp [World.frozen?, World.alloc]; done) | rfl))
  have r5_3 : w3.cell? ⟨w.heap.size, 5, none⟩ = some (.bool false) := (by rw [d3.cell (by first | omega | (simp; done) | (simp; omega))]; go_cell)
  have rf5_3 : w3.frozen? ⟨w.heap.size, 5, none⟩ = false := (by rw [d3.frozen (by first | omega | (simp; done) | (simp; omega))]; (first | go_cell | (simp [World.frozen?, World.alloc]; done) | rfl))
  have r6_3 : w3.cell? ⟨w.heap.size, 6, none⟩ = some (.bool false) := (by rw [d3.cell (by first | omega | (simp; done) | (simp; omega))]; go_cell)
  have rf6_3 : w3.frozen? ⟨w.heap.size, 6, none⟩ = false := (by rw [d3.frozen (by first | omega | (simp; done) | (simp; omega))]; (first | go_cell | (simp [World.frozen?, World.alloc]; done) | rfl))
  have r7_3 : w3.cell? ⟨w.heap.size, 7, none⟩ = some (.int .i64 0) := (by rw [d3.cell (by first | omega | (simp; done) | (simp; omega))]; go_cell)
  have rf7_3 : w3.frozen? ⟨w.heap.size, 7, none⟩ = false := (by rw [d3.frozen (by first | omega | (simp; done) | (simp; omega))]; (first | go_cell | (simp [World.frozen?, World.alloc]; done) | rfl))
  have r8_3 : w3.cell? ⟨w.heap.size, 8, none⟩ = some (.int .i64 0) := (by rw [d3.cell (by first | omega | (simp; done) | (simp; omega))]; go_cell)
  have rf8_3 : w3.frozen? ⟨w.heap.size, 8, none⟩ = false := (by rw [d3.frozen (by first | omega | (simp; done) | (simp; omega))]; (first | go_cell | (simp [World.frozen?, World.alloc]; done) | rfl))
  have r9_3 : w3.cell? ⟨w.heap.size, 9, none⟩ = some (.int .i64 0) := (by rw [d3.cell (by first | omega | (simp; done) | (simp; omega))]; go_cell)
  have rf9_3 : w3.frozen? ⟨w.heap.size, 9, none⟩ = false := (by rw [d3.frozen (by first | omega | (simp; done) | (simp; omega))]; (first | go_cell | (simp [World.frozen?, World.alloc]; done) | rfl))
  have r10_3 : w3.cell? ⟨w.heap.size, 10, none⟩ = some (.int .i64 0) := (by rw [d3.cell (by first | omega | (simp; done) | (simp; omega))]; go_cell)
  have rf10_3 : w3.frozen? ⟨w.heap.size, 10, none⟩ = false := (by rw [d3.frozen (by first | omega | (simp; done) | (simp; omega))]; (first | go_cell | (simp [World.frozen?, World.alloc]; done) | rfl))
  have r11_3 : w3.cell? ⟨w.heap.size, 11, none⟩ = some (.int .i64 0) := (by rw [d3.cell (by first | omega | (simp; done) | (simp; omega))]; go_cell)
  have rf11_3 : w3.frozen? ⟨w.heap.size, 11, none⟩ = false := (by rw [d3.frozen (by first | omega | (simp; done) | (simp; omega))]; (first | go_cell | (simp [World.frozen?, World.alloc]; done) | rfl))
  have r12_3 : w3.cell? ⟨w.heap.size, 12, none⟩ = some (.slice none 0 0) := (by rw [d3.cell (by first | omega | (simp; done) | (simp; omega))]; go_cell)
  have rf12_3 : w3.frozen? ⟨w.heap.size, 12, none⟩ = false := (by rw [d3.frozen (by first | omega | (simp; done) | (simp; omega))]; (first | go_cell | (simp [World.frozen?, World.alloc]; done) | rfl))
  have r13_3 : w3.cell? ⟨w.heap.size, 13, none⟩ = some (.slice none 0 0) := (by rw [d3.cell (by first | omega | (simp; done) | (simp; omega))]; go_cell)
  have rf13_3 : w3.frozen? ⟨w.heap.size, 13, none⟩ = false := (by rw [d3.frozen (by first | omega | (simp; done) | (simp; omega))]; (first | go_cell | (simp [World.frozen?, World.alloc]; done) | rfl))
  have rl_3 : w.heap.size < w3.heap.size := (by have := d3.size; omega)
  clear r0_2 rf0_2 r1_2 rf1_2 r2_2 rf2_2 r3_2 rf3_2 r4_2 rf4_2 r5_2 rf5_2 r6_2 rf6_2 r7_2 rf7_2 r8_2 rf8_2 r9_2 rf9_2 r10_2 rf10_2 r11_2 rf11_2 r12_2 rf12_2 r13_2 rf13_2 rl_2
  have HS3 := hid (HS2.out.later d3)
  have hK3 : K < w3.heap.size := HS3.out.lt
  have p0 := HS3.out.pre 0 _ rfl
  have p1 := HS3.out.pre 1 _ rfl
  have p2 := HS3.out.pre 2 _ rfl
  have p3 := HS3.out.pre 3 _ rfl
  have p4 := HS3.out.pre 4 _ rfl
  have hl : (∀ W : World, W.heap[K]? = w3.heap[K]? → (ldH (.pointer (some ⟨K, 6, none⟩))).run Tryz.prog W = .ok (.agg (cellsH X F).toArray) W) := fun W hW => ldH_fr (HS3.out.agree hW)
  have hl' : (∀ W : World, W.heap[K]? = w3.drew.heap[K]? → (ldH (.pointer (some ⟨K, 6, none⟩))).run Tryz.prog W = .ok (.agg (cellsH X F).toArray) W) := fun W hW => ldH_fr (HS3.out.agree hW)
  have V3 : Hid (VarAt w3 w.heap.size [.int .i64 0, .int .i64 0, .int .i64 0, .bool false, .bool false, .bool false, .bool false, .int .i64 0, .int .i64 0, .int .i64 0, .int .i64 0, .int .i64 0, .slice none 0 0, .slice none 0 0]) := hid ⟨rl_3, fun i v hv => by
    match i, hv with
    | 0, hv => cases hv; exact ⟨r0_3, rf0_3⟩
    | 1, hv => cases hv; exact ⟨r1_3, rf1_3⟩
    | 2, hv => cases hv; exact ⟨r2_3, rf2_3⟩
    | 3, hv => cases hv; exact ⟨r3_3, rf3_3⟩
    | 4, hv => cases hv; exact ⟨r4_3, rf4_3⟩
    | 5, hv => cases hv; exact ⟨r5_3, rf5_3⟩
    | 6, hv => cases hv; exact ⟨r6_3, rf6_3⟩
    | 7, hv => cases hv; exact ⟨r7_3, rf7_3⟩
    | 8, hv => cases hv; exact ⟨r8_3, rf8_3⟩
    | 9, hv => cases hv; exact ⟨r9_3, rf9_3⟩
    | 10, hv => cases hv; exact ⟨r10_3, rf10_3⟩
    | 11, hv => cases hv; exact ⟨r11_3, rf11_3⟩
    | 12, hv => cases hv; exact ⟨r12_3, rf12_3⟩
    | 13, hv => cases hv; exact ⟨r13_3, rf13_3⟩⟩
  have HW3 := hid (show w.heap.size < w3.heap.size from rl_3)
  clear d3 HS2
  go_cut [3] from 3 (fun _ wx => CutT w [.int .i64 i0, .int .i64 i1, .int .i64 i2, .bool q0, .bool q1, .bool false, .bool false, .int .i64 0, .int .i64 0, .int .i64 0, .int .i64 0, .int .i64 0] I F wx)
  case first =>
    have hn1 : ¬ K = w.heap.size := by omega
    have hn2 : ¬ w2.heap.size = w.heap.size := by omega
    have S3 : Hid (w3.drew.cell? ⟨K, 0, none⟩ = some (.int .i64 i0) ∧ w3.drew.cell? ⟨K, 1, none⟩ = some (.int .i64 i1) ∧ w3.drew.cell? ⟨K, 2, none⟩ = some (.int .i64 i2) ∧ w3.drew.cell? ⟨K, 3, none⟩ = some (.bool q0) ∧ w3.drew.cell? ⟨K, 4, none⟩ = some (.bool q1) ∧ w3.drew.cell? ⟨w2.heap.size, 0, none⟩ = some (.bool false) ∧ w3.drew.cell? ⟨w2.heap.size, 1, none⟩ = some (.bool false) ∧ w3.drew.cell? ⟨w2.heap.size, 2, none⟩ = some (.int .i64 0) ∧ w3.drew.cell? ⟨w2.heap.size, 3, none⟩ = some (.int .i64 0) ∧ w3.drew.cell? ⟨w2.heap.size, 4, none⟩ = some (.int .i64 0) ∧ w3.drew.cell? ⟨w2.heap.size, 5, none⟩ = some (.int .i64 0) ∧ w3.drew.cell? ⟨w2.heap.size, 6, none⟩ = some (.int .i64 0) ∧ (∀ W : World, W.heap[K]? = w3.drew.heap[K]? → (ldH (.pointer (some ⟨K, 6, none⟩))).run Tryz.prog W = .ok (.agg (cellsH X F).toArray) W)) := hid ⟨p0, p1, p2, p3, p4, s0_3, s1_3, s2_3, s3_3, s4_3, s5_3, s6_3, hl'⟩
    clear hl'
    go_region_held3 (fun w' => w'.cell? ⟨K, 0, none⟩ = some (.int .i64 i0) ∧ w'.cell? ⟨K, 1, none⟩ = some (.int .i64 i1) ∧ w'.cell? ⟨K, 2, none⟩ = some (.int .i64 i2) ∧ w'.cell? ⟨K, 3, none⟩ = some (.bool q0) ∧ w'.cell? ⟨K, 4, none⟩ = some (.bool q1) ∧ w'.cell? ⟨w2.heap.size, 0, none⟩ = some (.bool false) ∧ w'.cell? ⟨w2.heap.size, 1, none⟩ = some (.bool false) ∧ w'.cell? ⟨w2.heap.size, 2, none⟩ = some (.int .i64 0) ∧ w'.cell? ⟨w2.heap.size, 3, none⟩ = some (.int .i64 0) ∧ w'.cell? ⟨w2.heap.size, 4, none⟩ = some (.int .i64 0) ∧ w'.cell? ⟨w2.heap.size, 5, none⟩ = some (.int .i64 0) ∧ w'.cell? ⟨w2.heap.size, 6, none⟩ = some (.int .i64 0) ∧ (∀ W : World, W.heap[K]? = w'.heap[K]? → (ldH (.pointer (some ⟨K, 6, none⟩))).run Tryz.prog W = .ok (.agg (cellsH X F).toArray) W)) (first | with_reducible exact S3.out | with_reducible exact S4.out | with_reducible exact keepT_no hn1 hn2 S4.out | go_keep) (first
      | (go_at_call 92; refine (told_is X F I _ H4.out HF.out HX.out HI.out).mono ?_; rintro e w4 ⟨⟨ua, uc, fv, g, rfl, hgB, hgS, hgo, hgf⟩, b4⟩; obtain ⟨fo, fc, hfv⟩ := hgf.slice; subst hfv; have d4 : Below w3.heap.size w3 w4 := (Below.trans (by go_grown) (b4.mono (by first | omega | (simp; done) | (simp; omega)))); have c4 : Below w.heap.size w w4 := c3.trans (d4.mono c3.size); have s0_4 : w4.cell? ⟨w2.heap.size, 0, none⟩ = some (.bool false) := (by rw [b4.cell (by first | omega | (simp; done) | (simp; omega))]; go_cell); have s1_4 : w4.cell? ⟨w2.heap.size, 1, none⟩ = some (.bool false) := (by rw [b4.cell (by first | omega | (simp; done) | (simp; omega))]; go_cell); have s2_4 : w4.cell? ⟨w2.heap.size, 2, none⟩ = some (.int .i64 0) := (by rw [b4.cell (by first | omega | (simp; done) | (simp; omega))]; go_cell); have s3_4 : w4.cell? ⟨w2.heap.size, 3, none⟩ = some (.int .i64 0) := (by rw [b4.cell (by first | omega | (simp; done) | (simp; omega))]; go_cell); have s4_4 : w4.cell? ⟨w2.heap.size, 4, none⟩ = some (.int .i64 0) := (by rw [b4.cell (by first | omega | (simp; done) | (simp; omega))]; go_cell); have s5_4 : w4.cell? ⟨w2.heap.size, 5, none⟩ = some (.int .i64 0) := (by rw [b4.cell (by first | omega | (simp; done) | (simp; omega))]; go_cell); have s6_4 : w4.cell? ⟨w2.heap.size, 6, none⟩ = some (.int .i64 0) := (by rw [b4.cell (by first | omega | (simp; done) | (simp; omega))]; go_cell); have sl_4 : w2.heap.size < w4.heap.size := (by have := b4.size; first | omega | (revert this; simp; done) | (revert this; simp; omega)); have r0_4 : w4.cell? ⟨w.heap.size, 0, none⟩ = some (.int .i64 0) := (by rw [b4.cell (by first | omega | (simp; done) | (simp; omega))]; go_cell); have rf0_4 : w4.frozen? ⟨w.heap.size, 0, none⟩ = false := (by rw [b4.frozen (by first | omega | (simp; done) | (simp; omega))]; (first | go_cell | (simp [World.frozen?, World.alloc]; done) | rfl)); have r1_4 : w4.cell? ⟨w.heap.size, 1, none⟩ = some (.int .i64 0) := (by rw [b4.cell (by first | omega | (simp; done) | (simp; omega))]; go_cell); have rf1_4 : w4.frozen? ⟨w.heap.size, 1, none⟩ = false := (by rw [b4.frozen (by first | omega | (simp; done) | (simp; omega))]; (first | go_cell | (simp [World.frozen?, World.alloc]; done) | rfl)); have r2_4 : w4.cell? ⟨w.heap.size, 2, none⟩ = some (.int .i64 0) := (by rw [b4.cell (by first | omega | (simp; done) | (simp; omega))]; go_cell); have rf2_4 : w4.frozen? ⟨w.heap.size, 2, none⟩ = false := (by rw [b4.frozen (by first | omega | (simp; done) | (simp; omega))]; (first | go_cell | (simp [World.frozen?, World.alloc]; done) | rfl)); have r3_4 : w4.cell? ⟨w.heap.size, 3, none⟩ = some (.bool false) := (by rw [b4.cell (by first | omega | (simp; done) | (simp; omega))]; go_cell); have rf3_4 : w4.frozen? ⟨w.heap.size, 3, none⟩ = false := (by rw [b4.frozen (by first | omega | (simp; done) | (simp; omega))]; (first | go_cell | (simp [World.frozen?, World.alloc]; done) | rfl)); have r4_4 : w4.cell? ⟨w.heap.size, 4, none⟩ = some (.bool false) := (by rw [b4.cell (by first | omega | (simp; done) | (simp; omega))]; go_cell); have rf4_4 : w4.frozen? ⟨w.heap.size, 4, none⟩ = false := (by rw [b4.frozen (by first | omega | (simp; done) | (simp; omega))]; (first | go_cell | (simp [World.frozen?, World.alloc]; done) | rfl)); have r5_4 : w4.cell? ⟨w.heap.size, 5, none⟩ = some (.bool false) := (by rw [b4.cell (by first | omega | (simp; done) | (simp; omega))]; go_cell); have rf5_4 : w4.frozen? ⟨w.heap.size, 5, none⟩ = false := (by rw [b4.frozen (by first | omega | (simp; done) | (simp; omega))]; (first | go_cell | (simp [World.frozen?, World.alloc]; done) | rfl)); have r6_4 : w4.cell? ⟨w.heap.size, 6, none⟩ = some (.bool false) := (by rw [b4.cell (by first | omega | (simp; done) | (simp; omega))]; go_cell); have rf6_4 : w4.frozen? ⟨w.heap.size, 6, none⟩ = false := (by rw [b4.frozen (by first | omega | (simp; done) | (simp; omega))]; (first | go_cell | (simp [World.frozen?, World.alloc]; done) | rfl)); have r7_4 : w4.cell? ⟨w.heap.size, 7, none⟩ = some (.int .i64 0) := (by rw [b4.cell (by first | omega | (simp; done) | (simp; omega))]; go_cell); have rf7_4 : w4.frozen? ⟨w.heap.size, 7, none⟩ = false := (by rw [b4.frozen (by first | omega | (simp; done) | (simp; omega))]; (first | go_cell | (simp [World.frozen?, World.alloc]; done) | rfl)); have r8_4 : w4.cell? ⟨w.heap.size, 8, none⟩ = some (.int .i64 0) := (by rw [b4.cell (by first | omega | (simp; done) | (simp; omega))]; go_cell); have rf8_4 : w4.frozen? ⟨w.heap.size, 8, none⟩ = false := (by rw [b4.frozen (by first | omega | (simp; done) | (simp; omega))]; (first | go_cell | (simp [World.frozen?, World.alloc]; done) | rfl)); have r9_4 : w4.cell? ⟨w.heap.size, 9, none⟩ = some (.int .i64 0) := (by rw [b4.cell (by first | omega | (simp; done) | (simp; omega))]; go_cell); have rf9_4 : w4.frozen? ⟨w.heap.size, 9, none⟩ = false := (by rw [b4.frozen (by first | omega | (simp; done) | (simp; omega))]; (first | go_cell | (simp [World.frozen?, World.alloc]; done) | rfl)); have r10_4 : w4.cell? ⟨w.heap.size, 10, none⟩ = some (.int .i64 0) := (by rw [b4.cell (by first | omega | (simp; done) | (simp; omega))]; go_cell); have rf10_4 : w4.frozen? ⟨w.heap.size, 10, none⟩ = false := (by rw [b4.frozen (by first | omega | (simp; done) | (simp; omega))]; (first | go_cell | (simp [World.frozen?, World.alloc]; done) | rfl)); have r11_4 : w4.cell? ⟨w.heap.size, 11, none⟩ = some (.int .i64 0) := (by rw [b4.cell (by first | omega | (simp; done) | (simp; omega))]; go_cell); have rf11_4 : w4.frozen? ⟨w.heap.size, 11, none⟩ = false := (by rw [b4.frozen (by first | omega | (simp; done) | (simp; omega))]; (first | go_cell | (simp [World.frozen?, World.alloc]; done) | rfl)); have r12_4 : w4.cell? ⟨w.heap.size, 12, none⟩ = some (.slice none 0 0) := (by rw [b4.cell (by first | omega | (simp; done) | (simp; omega))]; go_cell); have rf12_4 : w4.frozen? ⟨w.heap.size, 12, none⟩ = false := (by rw [b4.frozen (by first | omega | (simp; done) | (simp; omega))]; (first | go_cell | (simp [World.frozen?, World.alloc]; done) | rfl)); have r13_4 : w4.cell? ⟨w.heap.size, 13, none⟩ = some (.slice none 0 0) := (by rw [b4.cell (by first | omega | (simp; done) | (simp; omega))]; go_cell); have rf13_4 : w4.frozen? ⟨w.heap.size, 13, none⟩ = false := (by rw [b4.frozen (by first | omega | (simp; done) | (simp; omega))]; (first | go_cell | (simp [World.frozen?, World.alloc]; done) | rfl)); have rl_4 : w.heap.size < w4.heap.size := (by have := b4.size; first | omega | (revert this; simp; done) | (revert this; simp; omega)); clear s0_3 s1_3 s2_3 s3_3 s4_3 s5_3 s6_3 sl_3 r0_3 rf0_3 r1_3 rf1_3 r2_3 rf2_3 r3_3 rf3_3 r4_3 rf4_3 r5_3 rf5_3 r6_3 rf6_3 r7_3 rf7_3 r8_3 rf8_3 r9_3 rf9_3 r10_3 rf10_3 r11_3 rf11_3 r12_3 rf12_3 r13_3 rf13_3 rl_3; have HO4 := hid hgo; have HF4 := hid hgf; have HG4 := hid (And.intro hgB hgS); have V4 := hid (V3.out.later d4); have HGR := hid (show w.heap.size < g from Nat.lt_of_lt_of_le HW3.out hgB); have P4 := hid (HS3.out.later d4); have hK4 := P4.out.lt; have p0_4 := P4.out.pre 0 _ rfl; have p1_4 := P4.out.pre 1 _ rfl; have p2_4 := P4.out.pre 2 _ rfl; have p3_4 := P4.out.pre 3 _ rfl; have p4_4 := P4.out.pre 4 _ rfl; have hl4 : (∀ W : World, W.heap[K]? = w4.heap[K]? → (ldH (.pointer (some ⟨K, 6, none⟩))).run Tryz.prog W = .ok (.agg (cellsH X F).toArray) W) := fun W hW => ldH_fr (P4.out.agree hW); have S4 : Hid (w4.cell? ⟨K, 0, none⟩ = some (.int .i64 i0) ∧ w4.cell? ⟨K, 1, none⟩ = some (.int .i64 i1) ∧ w4.cell? ⟨K, 2, none⟩ = some (.int .i64 i2) ∧ w4.cell? ⟨K, 3, none⟩ = some (.bool q0) ∧ w4.cell? ⟨K, 4, none⟩ = some (.bool q1) ∧ w4.cell? ⟨w2.heap.size, 0, none⟩ = some (.bool false) ∧ w4.cell? ⟨w2.heap.size, 1, none⟩ = some (.bool false) ∧ w4.cell? ⟨w2.heap.size, 2, none⟩ = some (.int .i64 0) ∧ w4.cell? ⟨w2.heap.size, 3, none⟩ = some (.int .i64 0) ∧ w4.cell? ⟨w2.heap.size, 4, none⟩ = some (.int .i64 0) ∧ w4.cell? ⟨w2.heap.size, 5, none⟩ = some (.int .i64 0) ∧ w4.cell? ⟨w2.heap.size, 6, none⟩ = some (.int .i64 0) ∧ (∀ W : World, W.heap[K]? = w4.heap[K]? → (ldH (.pointer (some ⟨K, 6, none⟩))).run Tryz.prog W = .ok (.agg (cellsH X F).toArray) W)) := hid ⟨p0_4, p1_4, p2_4, p3_4, p4_4, s0_4, s1_4, s2_4, s3_4, s4_4, s5_4, s6_4, hl4⟩; clear b4 hgo hgf hgB hgS))
    all_goals
      go_wp2_with fail
      go_meet
      have HC := (cutT_store HGR.out 13 (by simp) (.slice fo F.length fc) (cutT_store HGR.out 12 (by simp) (.slice ua I.length uc) (cutT_store HGR.out 11 (by simp) (.int .i64 0) (cutT_store HGR.out 10 (by simp) (.int .i64 0) (cutT_store HGR.out 9 (by simp) (.int .i64 0) (cutT_store HGR.out 8 (by simp) (.int .i64 0) (cutT_store HGR.out 7 (by simp) (.int .i64 0) (cutT_store HGR.out 6 (by simp) (.bool false) (cutT_store HGR.out 5 (by simp) (.bool false) (cutT_store HGR.out 4 (by simp) (.bool q1) (cutT_store HGR.out 3 (by simp) (.bool q0) (cutT_store HGR.out 2 (by simp) (.int .i64 i2) (cutT_store HGR.out 1 (by simp) (.int .i64 i1) (cutT_store HGR.out 0 (by simp) (.int .i64 i0) ⟨V4.out, HG4.out.2, HO4.out, HF4.out, c4⟩))))))))))))))
      exact ⟨ua, uc, fo, fc, g, HC.1, Nat.le_of_lt HGR.out, HC.2.1, HC.2.2.1, HC.2.2.2.1, HC.2.2.2.2⟩
  case rest =>
    obtain ⟨ua, uc, fo, fc, g, hv, hg0, hg1, ho, hf, hb⟩ := hcut
    have e0 := hv.c 0 rfl
    have e1 := hv.c 1 rfl
    have e2 := hv.c 2 rfl
    have e3 := hv.c 3 rfl
    have e4 := hv.c 4 rfl
    have e5 := hv.c 5 rfl
    have e6 := hv.c 6 rfl
    have e7 := hv.c 7 rfl
    have e8 := hv.c 8 rfl
    have e9 := hv.c 9 rfl
    have e10 := hv.c 10 rfl
    have e11 := hv.c 11 rfl
    have e12 := hv.c 12 rfl
    have e13 := hv.c 13 rfl
    have HO := hid ho
    have HFF := hid hf
    have HB := hid hb
    have HGG := hid (And.intro hg0 hg1)
    clear ho hf hb hv hg0 hg1
    go_wp2
    exact bodyPost_ret (v := .agg #[.int .i64 i0, .int .i64 i1, .int .i64 i2, .bool q0, .bool q1, .bool false, .bool false, .int .i64 0, .int .i64 0, .int .i64 0, .int .i64 0, .int .i64 0, .slice ua I.length uc, .slice fo F.length fc]) (by simp [results, Tryz.results74, go_sem, e0, e1, e2, e3, e4, e5, e6, e7, e8, e9, e10, e11, e12, e13]) rfl ⟨⟨ua, uc, fo, fc, g, rfl, HGG.out.1, HGG.out.2, HO.out, HFF.out⟩, HB.out⟩
end Go.Proofs.YtddpoheoecafjaaGreat
