/- Proved here: FnExactCacheGet returns true for every cache and every key (no condition); what it was handed reads as before. -/
import Derived.Test.YtnenlnadmdlcfaaXl
import Derived.Test.YtnenlnadmdlcfaaXm
import Derived.Laws.ResultCell
import Derived.Test.YtnenlnadmdlcfaaBc
import Derived.Test.YtnenlnadmdlcfaaCd
import Derived.Test.YtnenlnadmdlcfaaVm
import Derived.Test.YtnenlnadmdlcfaaSCache
import Derived.Deep.Cut
import Derived.Test.YtnenlnadmdlcfaaPl
import Derived.ProofKit
import Derived.Lib.SmallJoins
import Derived.Test.YtnenlnadmdlcfaaFb
import Derived.Test.YtnenlnadmdlcfaaRows
import Derived.WalkKit
/- Part: impl.CacheGet: contract; what CacheGet answers, plainly. -/
namespace Go.Proofs.Ytnenlnadmdlcfaa
open Go.RowKit
attribute [local go_sem ↓] Go.wp_at_zero Go.wp_at_succ
attribute [local go_sem ↓] ldQ_open stQ_open ldH_open stH_open zeroH

/-- The item that CacheGet answers, if there is one; its parts. -/
def ansG (I F : List KD) (key : Int) : Option KD := if okC I F = true then I.find? (fun x => keyK x == key) else none
def gk : Option KD → Int
  | some x => keyK x
  | none => 0
def gv : Option KD → Int
  | some x => verK x
  | none => 0
def gn : Option KD → Int
  | some x => numK x
  | none => 0
def gl : Option KD → List (Int × Int)
  | some x => x.2
  | none => []
def gb : Option KD → Bool
  | some _ => true
  | none => false
theorem itemsX_get {I : List KD} (h : I.length ≤ 4) (k : Nat) (hk : k < 4) : (itemsX I).getD k none = I[k]? := by
  match I, h with
  | [], _ => obtain rfl | rfl | rfl | rfl : k = 0 ∨ k = 1 ∨ k = 2 ∨ k = 3 := by omega
             all_goals rfl
  | [a], _ => obtain rfl | rfl | rfl | rfl : k = 0 ∨ k = 1 ∨ k = 2 ∨ k = 3 := by omega
              all_goals rfl
  | [a, b], _ => obtain rfl | rfl | rfl | rfl : k = 0 ∨ k = 1 ∨ k = 2 ∨ k = 3 := by omega
                 all_goals rfl
  | [a, b, c], _ => obtain rfl | rfl | rfl | rfl : k = 0 ∨ k = 1 ∨ k = 2 ∨ k = 3 := by omega
                    all_goals rfl
  | [a, b, c, d], _ => obtain rfl | rfl | rfl | rfl : k = 0 ∨ k = 1 ∨ k = 2 ∨ k = 3 := by omega
                       all_goals rfl
theorem found_items {I : List KD} {key : Int} {k : Nat} (h : I.length ≤ 4) (hf : FoundX key (itemsX I) k) : ∃ x, (itemsX I).getD k none = some x ∧ x ∈ I ∧ I.find? (fun x => keyK x == key) = some x := by
  obtain ⟨h4, hk, hn⟩ := hf
  rw [itemsX_get h k h4] at hk ⊢
  cases hx : I[k]? with
  | none => rw [hx] at hk; cases hk
  | some x =>
    rw [hx] at hk
    obtain ⟨hlt, rfl⟩ := List.getElem?_eq_some_iff.1 hx
    refine ⟨_, rfl, List.getElem_mem hlt, List.find?_eq_some_iff_getElem.2 ⟨hk, k, hlt, rfl, fun j hj => ?_⟩⟩
    have := hn j hj
    rw [itemsX_get h j (by omega), List.getElem?_eq_getElem (by omega)] at this
    simpa [hasK] using this
theorem none_items {I : List KD} {key : Int} (h : I.length ≤ 4) (hf : NoneX key (itemsX I) 4) : I.find? (fun x => keyK x == key) = none := by
  rw [List.find?_eq_none]
  intro x hx
  obtain ⟨i, hi, rfl⟩ := List.getElem_of_mem hx
  have := hf i (by omega)
  rw [itemsX_get h i (by omega), List.getElem?_eq_getElem hi] at this
  simpa [hasK] using this
theorem okV_le {k n : Int} {l : List (Int × Int)} (h : okV k n l = true) : l.length ≤ 8 := by
  by_cases hk : 0 ≤ k ∧ k < 24
  · by_cases h8 : k / 8 = 0
    · by_cases hn : 0 ≤ n ∧ n ≤ 1000000
      · rw [okV_numD hk.1 hk.2 h8 hn.1 hn.2] at h
        have : (l.length : Int) = 0 := by simpa using h
        omega
      · rw [okV_numNo hk.1 hk.2 h8 hn] at h; cases h
    · rw [okV_kin hk.1 hk.2 h8, Bool.and_eq_true] at h
      exact okL_le h.2
  · rw [okV_out hk] at h; cases h
theorem okC_small {I F : List KD} (h : okC I F = true) : I.length ≤ 4 ∧ ∀ x ∈ I, x.2.length ≤ 8 := by
  have h := okC_iff.1 h
  refine ⟨h.2.1, fun x hx => ?_⟩
  obtain ⟨i, hi, rfl⟩ := List.getElem_of_mem hx
  have := (h.2.2.2 i hi).1
  rw [getD_at hi] at this
  unfold rightK itR at this
  rw [Bool.and_eq_true] at this
  exact okV_le this.2
set_option maxRecDepth 100000 in
set_option maxHeartbeats 4000000 in
theorem implGet_any (v0 v1 : Value) (I F : List KD) (key : Int) (w : World) (h0 : RdM 4 3 true w v0 I) (h1 : RdM 1 1 false w v1 F) {o : Option KD} (ho : ansG I F key = o) :
    Calls Try.prog 10 #[.agg #[v0, v1], .int .i64 key] w fun e w' =>
      (∃ (a : Option Addr) (c : Nat), e = .returned (.tuple #[.agg #[.int .i64 (gk o), .int .i64 (gv o), .int .i64 (gn o), .slice a (gl o).length c], .bool (gb o)]) ∧ Own w' w.heap.size (.slice a (gl o).length c) (gl o)) ∧ Below w.heap.size w w' := by
  have H0 := hid h0
  have H1 := hid h1
  obtain ⟨ai, ci, rfl, hq0, hq1⟩ := h0
  obtain ⟨af, cf, rfl, hq2, hq3⟩ := h1
  have HL3 : Hid (∀ x ∈ I, x.1.length = 3) := hid (fun x hx => by
    obtain ⟨i, hi, rfl⟩ := List.getElem_of_mem hx
    obtain ⟨_, _, _, _, hat⟩ := hq1 (by omega)
    have := (hat i hi).len
    rwa [getD_at hi] at this)
  clear hq0 hq1 hq2 hq3
  go_enter Try.func10, Try.ntmps10
  go_wp2_with fail
  have a0_1 : ((w.alloc (.cells #[.slice ai I.length ci, .slice af F.length cf] 36)).alloc (.cells #[.int .i64 0, .int .i64 0, .int .i64 0, .slice none 0 0] 31)).cell? ⟨w.heap.size, 0, none⟩ = some (.slice ai I.length ci) := by go_cell
  have a1_1 : ((w.alloc (.cells #[.slice ai I.length ci, .slice af F.length cf] 36)).alloc (.cells #[.int .i64 0, .int .i64 0, .int .i64 0, .slice none 0 0] 31)).cell? ⟨w.heap.size, 1, none⟩ = some (.slice af F.length cf) := by go_cell
  have al_1 : w.heap.size < ((w.alloc (.cells #[.slice ai I.length ci, .slice af F.length cf] 36)).alloc (.cells #[.int .i64 0, .int .i64 0, .int .i64 0, .slice none 0 0] 31)).heap.size := by first | (simp; done) | (simp; omega)
  have r0_1 : ((w.alloc (.cells #[.slice ai I.length ci, .slice af F.length cf] 36)).alloc (.cells #[.int .i64 0, .int .i64 0, .int .i64 0, .slice none 0 0] 31)).cell? ⟨w.heap.size + 1, 0, none⟩ = some (.int .i64 0) := by go_cell
  have rf0_1 : ((w.alloc (.cells #[.slice ai I.length ci, .slice af F.length cf] 36)).alloc (.cells #[.int .i64 0, .int .i64 0, .int .i64 0, .slice none 0 0] 31)).frozen? ⟨w.heap.size + 1, 0, none⟩ = false := by (first | go_cell | (simp [World.frozen?, World.alloc]; done) | rfl)
  have r1_1 : ((w.alloc (.cells #[.slice ai I.length ci, .slice af F.length cf] 36)).alloc (.cells #[.int .i64 0, .int .i64 0, .int .i64 0, .slice none 0 0] 31)).cell? ⟨w.heap.size + 1, 1, none⟩ = some (.int .i64 0) := by go_cell
  have rf1_1 : ((w.alloc (.cells #[.slice ai I.length ci, .slice af F.length cf] 36)).alloc (.cells #[.int .i64 0, .int .i64 0, .int .i64 0, .slice none 0 0] 31)).frozen? ⟨w.heap.size + 1, 1, none⟩ = false := by (first | go_cell | (simp [World.frozen?, World.alloc]; done) | rfl)
  have r2_1 : ((w.alloc (.cells #[.slice ai I.length ci, .slice af F.length cf] 36)).alloc (.cells #[.int .i64 0, .int .i64 0, .int .i64 0, .slice none 0 0] 31)).cell? ⟨w.heap.size + 1, 2, none⟩ = some (.int .i64 0) := by go_cell
  have rf2_1 : ((w.alloc (.cells #[.slice ai I.length ci, .slice af F.length cf] 36)).alloc (.cells #[.int .i64 0, .int .i64 0, .int .i64 0, .slice none 0 0] 31)).frozen? ⟨w.heap.size + 1, 2, none⟩ = false := by (first | go_cell | (simp [World.frozen?, World.alloc]; done) | rfl)
  have r3_1 : ((w.alloc (.cells #[.slice ai I.length ci, .slice af F.length cf] 36)).alloc (.cells #[.int .i64 0, .int .i64 0, .int .i64 0, .slice none 0 0] 31)).cell? ⟨w.heap.size + 1, 3, none⟩ = some (.slice none 0 0) := by go_cell
  have rf3_1 : ((w.alloc (.cells #[.slice ai I.length ci, .slice af F.length cf] 36)).alloc (.cells #[.int .i64 0, .int .i64 0, .int .i64 0, .slice none 0 0] 31)).frozen? ⟨w.heap.size + 1, 3, none⟩ = false := by (first | go_cell | (simp [World.frozen?, World.alloc]; done) | rfl)
  have rl_1 : w.heap.size + 1 < ((w.alloc (.cells #[.slice ai I.length ci, .slice af F.length cf] 36)).alloc (.cells #[.int .i64 0, .int .i64 0, .int .i64 0, .slice none 0 0] 31)).heap.size := by first | (simp; done) | (simp; omega)
  have c1 : Below w.heap.size w ((w.alloc (.cells #[.slice ai I.length ci, .slice af F.length cf] 36)).alloc (.cells #[.int .i64 0, .int .i64 0, .int .i64 0, .slice none 0 0] 31)) := by go_grown
  have s1 : ((w.alloc (.cells #[.slice ai I.length ci, .slice af F.length cf] 36)).alloc (.cells #[.int .i64 0, .int .i64 0, .int .i64 0, .slice none 0 0] 31)).heap.size = w.heap.size + 2 := by simp
  generalize ((w.alloc (.cells #[.slice ai I.length ci, .slice af F.length cf] 36)).alloc (.cells #[.int .i64 0, .int .i64 0, .int .i64 0, .slice none 0 0] 31)) = w1 at a0_1 a1_1 al_1 r0_1 rf0_1 r1_1 rf1_1 r2_1 rf2_1 r3_1 rf3_1 rl_1 c1 s1 ⊢
  have qa0_1 := cell_regrown a0_1
  have qa1_1 := cell_regrown a1_1
  have qr0_1 := cell_regrown r0_1
  have qr1_1 := cell_regrown r1_1
  have qr2_1 := cell_regrown r2_1
  have qr3_1 := cell_regrown r3_1
  refine (shelfOf_any _ _ I F _ (H0.out.later c1) (H1.out.later c1)).mono ?_
  rintro e w2 ⟨⟨X, G, hx, hg, rfl, hc⟩, b2⟩
  obtain ⟨w3, hst, h3, o3, s3⟩ := stH_at (shAt_of emptyX_length zeroF_length (heap_alloc_new w2 (.cells (cellsH emptyX zeroF).toArray 69))) hx hg
  have B3 : Below w1.heap.size w1 w3 := (b2.alloc b2.size (.cells (cellsH emptyX zeroF).toArray 69)).trans (o3.below (fun k hk => by have := b2.size; omega) (by have := b2.size; simp; omega))
  have H3 := hid h3
  clear h3 o3 s3 b2
  go_wp2_with fail
  clear hst
  refine (findX_any w2.heap.size fr0 X G key _ H3.out).mono ?_
  rintro e w4 ⟨he, b4⟩
  have H4 := hid (H3.out.later b4)
  have B4 := B3.trans (b4.mono B3.size)
  have r0_4 := (B4.cell (p := ⟨w.heap.size + 1, 0, none⟩) rl_1).trans r0_1
  have rf0_4 := (B4.frozen (p := ⟨w.heap.size + 1, 0, none⟩) rl_1).trans rf0_1
  have r1_4 := (B4.cell (p := ⟨w.heap.size + 1, 1, none⟩) rl_1).trans r1_1
  have rf1_4 := (B4.frozen (p := ⟨w.heap.size + 1, 1, none⟩) rl_1).trans rf1_1
  have r2_4 := (B4.cell (p := ⟨w.heap.size + 1, 2, none⟩) rl_1).trans r2_1
  have rf2_4 := (B4.frozen (p := ⟨w.heap.size + 1, 2, none⟩) rl_1).trans rf2_1
  have r3_4 := (B4.cell (p := ⟨w.heap.size + 1, 3, none⟩) rl_1).trans r3_1
  have rf3_4 := (B4.frozen (p := ⟨w.heap.size + 1, 3, none⟩) rl_1).trans rf3_1
  have rl_4 : w.heap.size + 1 < w4.heap.size := Nat.lt_of_lt_of_le rl_1 B4.size
  have C4 := hid (c1.trans (B4.mono c1.size))
  clear r0_1 r1_1 r2_1 r3_1 rf0_1 rf1_1 rf2_1 rf3_1 a0_1 a1_1 qa0_1 qa1_1 qr0_1 qr1_1 qr2_1 qr3_1 b4 B3 B4 c1 H3
  cases hok : okC I F with
  | false =>
    rcases he with ⟨k, rfl, _⟩ | ⟨rfl, _⟩
    · obtain rfl : o = none := by rw [← ho, ansG, hok]; rfl
      go_wp2_with fail
      have e0 : ((((w4.setCell ⟨w.heap.size + 1, 0, none⟩ (.int .i64 0)).setCell ⟨w.heap.size + 1, 1, none⟩ (.int .i64 0)).setCell ⟨w.heap.size + 1, 2, none⟩ (.int .i64 0)).setCell ⟨w.heap.size + 1, 3, none⟩ (.slice none 0 0)).cell? ⟨w.heap.size + 1, 0, none⟩ = some (.int .i64 0) := by go_cell
      have e1 : ((((w4.setCell ⟨w.heap.size + 1, 0, none⟩ (.int .i64 0)).setCell ⟨w.heap.size + 1, 1, none⟩ (.int .i64 0)).setCell ⟨w.heap.size + 1, 2, none⟩ (.int .i64 0)).setCell ⟨w.heap.size + 1, 3, none⟩ (.slice none 0 0)).cell? ⟨w.heap.size + 1, 1, none⟩ = some (.int .i64 0) := by go_cell
      have e2 : ((((w4.setCell ⟨w.heap.size + 1, 0, none⟩ (.int .i64 0)).setCell ⟨w.heap.size + 1, 1, none⟩ (.int .i64 0)).setCell ⟨w.heap.size + 1, 2, none⟩ (.int .i64 0)).setCell ⟨w.heap.size + 1, 3, none⟩ (.slice none 0 0)).cell? ⟨w.heap.size + 1, 2, none⟩ = some (.int .i64 0) := by go_cell
      have e3 : ((((w4.setCell ⟨w.heap.size + 1, 0, none⟩ (.int .i64 0)).setCell ⟨w.heap.size + 1, 1, none⟩ (.int .i64 0)).setCell ⟨w.heap.size + 1, 2, none⟩ (.int .i64 0)).setCell ⟨w.heap.size + 1, 3, none⟩ (.slice none 0 0)).cell? ⟨w.heap.size + 1, 3, none⟩ = some (.slice none 0 0) := by go_cell
      refine bodyPost_ret (v := .tuple #[.agg #[.int .i64 0, .int .i64 0, .int .i64 0, .slice none 0 0], .bool false]) ?_ rfl ⟨⟨none, 0, rfl, World.ownsRow_nil _ _ _ _⟩, ((((C4.out.setCell (p := ⟨w.heap.size + 1, 0, none⟩) (by show w.heap.size ≤ w.heap.size + 1; omega) (.int .i64 0)).setCell (p := ⟨w.heap.size + 1, 1, none⟩) (by show w.heap.size ≤ w.heap.size + 1; omega) (.int .i64 0)).setCell (p := ⟨w.heap.size + 1, 2, none⟩) (by show w.heap.size ≤ w.heap.size + 1; omega) (.int .i64 0)).setCell (p := ⟨w.heap.size + 1, 3, none⟩) (by show w.heap.size ≤ w.heap.size + 1; omega) (.slice none 0 0))⟩
      simp [results, Try.results10, go_sem, e0, e1, e2, e3]
    · obtain rfl : o = none := by rw [← ho, ansG, hok]; rfl
      go_wp2_with fail
      have e0 : ((((w4.setCell ⟨w.heap.size + 1, 0, none⟩ (.int .i64 0)).setCell ⟨w.heap.size + 1, 1, none⟩ (.int .i64 0)).setCell ⟨w.heap.size + 1, 2, none⟩ (.int .i64 0)).setCell ⟨w.heap.size + 1, 3, none⟩ (.slice none 0 0)).cell? ⟨w.heap.size + 1, 0, none⟩ = some (.int .i64 0) := by go_cell
      have e1 : ((((w4.setCell ⟨w.heap.size + 1, 0, none⟩ (.int .i64 0)).setCell ⟨w.heap.size + 1, 1, none⟩ (.int .i64 0)).setCell ⟨w.heap.size + 1, 2, none⟩ (.int .i64 0)).setCell ⟨w.heap.size + 1, 3, none⟩ (.slice none 0 0)).cell? ⟨w.heap.size + 1, 1, none⟩ = some (.int .i64 0) := by go_cell
      have e2 : ((((w4.setCell ⟨w.heap.size + 1, 0, none⟩ (.int .i64 0)).setCell ⟨w.heap.size + 1, 1, none⟩ (.int .i64 0)).setCell ⟨w.heap.size + 1, 2, none⟩ (.int .i64 0)).setCell ⟨w.heap.size + 1, 3, none⟩ (.slice none 0 0)).cell? ⟨w.heap.size + 1, 2, none⟩ = some (.int .i64 0) := by go_cell
      have e3 : ((((w4.setCell ⟨w.heap.size + 1, 0, none⟩ (.int .i64 0)).setCell ⟨w.heap.size + 1, 1, none⟩ (.int .i64 0)).setCell ⟨w.heap.size + 1, 2, none⟩ (.int .i64 0)).setCell ⟨w.heap.size + 1, 3, none⟩ (.slice none 0 0)).cell? ⟨w.heap.size + 1, 3, none⟩ = some (.slice none 0 0) := by go_cell
      refine bodyPost_ret (v := .tuple #[.agg #[.int .i64 0, .int .i64 0, .int .i64 0, .slice none 0 0], .bool false]) ?_ rfl ⟨⟨none, 0, rfl, World.ownsRow_nil _ _ _ _⟩, ((((C4.out.setCell (p := ⟨w.heap.size + 1, 0, none⟩) (by show w.heap.size ≤ w.heap.size + 1; omega) (.int .i64 0)).setCell (p := ⟨w.heap.size + 1, 1, none⟩) (by show w.heap.size ≤ w.heap.size + 1; omega) (.int .i64 0)).setCell (p := ⟨w.heap.size + 1, 2, none⟩) (by show w.heap.size ≤ w.heap.size + 1; omega) (.int .i64 0)).setCell (p := ⟨w.heap.size + 1, 3, none⟩) (by show w.heap.size ≤ w.heap.size + 1; omega) (.slice none 0 0))⟩
      simp [results, Try.results10, go_sem, e0, e1, e2, e3]
  | true =>
    obtain ⟨rfl, rfl⟩ := hc hok
    obtain ⟨hl4, hl8⟩ := okC_small hok
    rcases he with ⟨k, rfl, hf⟩ | ⟨rfl, hn⟩
    · obtain ⟨x, hx, hxI, hfi⟩ := found_items hl4 hf
      have HFI := hid hfi
      obtain rfl : o = some x := by rw [← ho, ansG, hok, if_pos rfl]; exact HFI.out
      have HL8 : Hid (x.2.length ≤ 8) := hid (hl8 x hxI)
      have HK3 := hid (kd3 (HL3.out x hxI))
      have hld := ldQ_at H4.out k hf.1
      rw [hx] at hld
      have hld' : (ldQ (.pointer (some ⟨w2.heap.size, k * 21, none⟩))).run Try.prog w4 = .ok (.agg (spotC true (keyK x) (verK x) (numK x) x.2).toArray) w4 := by
        rw [show (fr0 : Fr).pre.length + k * 21 = k * 21 from by simp] at hld
        exact hld
      have hk4 : k < 4 := hf.1
      have hki : (k : Int) < 4 := by omega
      clear hld hx hxI hf hfi ho hc hl8
      go_wp2_with fail
      refine (spotTold_any _ _ _ x.2 _ HL8.out).mono ?_
      rintro e w5 ⟨⟨a, c, rfl, ho5⟩, b5⟩
      have r0_5 := (b5.cell (p := ⟨w.heap.size + 1, 0, none⟩) rl_4).trans r0_4
      have rf0_5 := (b5.frozen (p := ⟨w.heap.size + 1, 0, none⟩) rl_4).trans rf0_4
      have r1_5 := (b5.cell (p := ⟨w.heap.size + 1, 1, none⟩) rl_4).trans r1_4
      have rf1_5 := (b5.frozen (p := ⟨w.heap.size + 1, 1, none⟩) rl_4).trans rf1_4
      have r2_5 := (b5.cell (p := ⟨w.heap.size + 1, 2, none⟩) rl_4).trans r2_4
      have rf2_5 := (b5.frozen (p := ⟨w.heap.size + 1, 2, none⟩) rl_4).trans rf2_4
      have r3_5 := (b5.cell (p := ⟨w.heap.size + 1, 3, none⟩) rl_4).trans r3_4
      have rf3_5 := (b5.frozen (p := ⟨w.heap.size + 1, 3, none⟩) rl_4).trans rf3_4
      have HO5 := hid ho5
      have C5 := hid (C4.out.trans (b5.mono C4.out.size))
      clear b5 ho5 hld'
      go_wp2_with fail
      have e0 : ((((w5.setCell ⟨w.heap.size + 1, 0, none⟩ (.int .i64 (keyK x))).setCell ⟨w.heap.size + 1, 1, none⟩ (.int .i64 (verK x))).setCell ⟨w.heap.size + 1, 2, none⟩ (.int .i64 (numK x))).setCell ⟨w.heap.size + 1, 3, none⟩ (.slice a x.2.length c)).cell? ⟨w.heap.size + 1, 0, none⟩ = some (.int .i64 (keyK x)) := by go_cell
      have e1 : ((((w5.setCell ⟨w.heap.size + 1, 0, none⟩ (.int .i64 (keyK x))).setCell ⟨w.heap.size + 1, 1, none⟩ (.int .i64 (verK x))).setCell ⟨w.heap.size + 1, 2, none⟩ (.int .i64 (numK x))).setCell ⟨w.heap.size + 1, 3, none⟩ (.slice a x.2.length c)).cell? ⟨w.heap.size + 1, 1, none⟩ = some (.int .i64 (verK x)) := by go_cell
      have e2 : ((((w5.setCell ⟨w.heap.size + 1, 0, none⟩ (.int .i64 (keyK x))).setCell ⟨w.heap.size + 1, 1, none⟩ (.int .i64 (verK x))).setCell ⟨w.heap.size + 1, 2, none⟩ (.int .i64 (numK x))).setCell ⟨w.heap.size + 1, 3, none⟩ (.slice a x.2.length c)).cell? ⟨w.heap.size + 1, 2, none⟩ = some (.int .i64 (numK x)) := by go_cell
      have e3 : ((((w5.setCell ⟨w.heap.size + 1, 0, none⟩ (.int .i64 (keyK x))).setCell ⟨w.heap.size + 1, 1, none⟩ (.int .i64 (verK x))).setCell ⟨w.heap.size + 1, 2, none⟩ (.int .i64 (numK x))).setCell ⟨w.heap.size + 1, 3, none⟩ (.slice a x.2.length c)).cell? ⟨w.heap.size + 1, 3, none⟩ = some (.slice a x.2.length c) := by go_cell
      have HF := hid (Own.mono ((((HO5.out.apartSet (p := ⟨w.heap.size + 1, 0, none⟩) (by show w.heap.size + 1 < w4.heap.size; omega) (.int .i64 (keyK x))).apartSet (p := ⟨w.heap.size + 1, 1, none⟩) (by show w.heap.size + 1 < w4.heap.size; omega) (.int .i64 (verK x))).apartSet (p := ⟨w.heap.size + 1, 2, none⟩) (by show w.heap.size + 1 < w4.heap.size; omega) (.int .i64 (numK x))).apartSet (p := ⟨w.heap.size + 1, 3, none⟩) (by show w.heap.size + 1 < w4.heap.size; omega) (.slice a x.2.length c)) (B' := w.heap.size) (by omega))
      have HB := hid ((((C5.out.setCell (p := ⟨w.heap.size + 1, 0, none⟩) (by show w.heap.size ≤ w.heap.size + 1; omega) (.int .i64 (keyK x))).setCell (p := ⟨w.heap.size + 1, 1, none⟩) (by show w.heap.size ≤ w.heap.size + 1; omega) (.int .i64 (verK x))).setCell (p := ⟨w.heap.size + 1, 2, none⟩) (by show w.heap.size ≤ w.heap.size + 1; omega) (.int .i64 (numK x))).setCell (p := ⟨w.heap.size + 1, 3, none⟩) (by show w.heap.size ≤ w.heap.size + 1; omega) (.slice a x.2.length c))
      refine bodyPost_ret (v := .tuple #[.agg #[.int .i64 (keyK x), .int .i64 (verK x), .int .i64 (numK x), .slice a x.2.length c], .bool true]) ?_ rfl ⟨⟨a, c, rfl, HF.out⟩, HB.out⟩
      simp [results, Try.results10, go_sem, e0, e1, e2, e3]
    · have HNI := hid (none_items hl4 hn)
      clear hl8 hn hc
      obtain rfl : o = none := by rw [← ho, ansG, hok, if_pos rfl]; exact HNI.out
      go_wp2_with fail
      have e0 : ((((w4.setCell ⟨w.heap.size + 1, 0, none⟩ (.int .i64 0)).setCell ⟨w.heap.size + 1, 1, none⟩ (.int .i64 0)).setCell ⟨w.heap.size + 1, 2, none⟩ (.int .i64 0)).setCell ⟨w.heap.size + 1, 3, none⟩ (.slice none 0 0)).cell? ⟨w.heap.size + 1, 0, none⟩ = some (.int .i64 0) := by go_cell
      have e1 : ((((w4.setCell ⟨w.heap.size + 1, 0, none⟩ (.int .i64 0)).setCell ⟨w.heap.size + 1, 1, none⟩ (.int .i64 0)).setCell ⟨w.heap.size + 1, 2, none⟩ (.int .i64 0)).setCell ⟨w.heap.size + 1, 3, none⟩ (.slice none 0 0)).cell? ⟨w.heap.size + 1, 1, none⟩ = some (.int .i64 0) := by go_cell
      have e2 : ((((w4.setCell ⟨w.heap.size + 1, 0, none⟩ (.int .i64 0)).setCell ⟨w.heap.size + 1, 1, none⟩ (.int .i64 0)).setCell ⟨w.heap.size + 1, 2, none⟩ (.int .i64 0)).setCell ⟨w.heap.size + 1, 3, none⟩ (.slice none 0 0)).cell? ⟨w.heap.size + 1, 2, none⟩ = some (.int .i64 0) := by go_cell
      have e3 : ((((w4.setCell ⟨w.heap.size + 1, 0, none⟩ (.int .i64 0)).setCell ⟨w.heap.size + 1, 1, none⟩ (.int .i64 0)).setCell ⟨w.heap.size + 1, 2, none⟩ (.int .i64 0)).setCell ⟨w.heap.size + 1, 3, none⟩ (.slice none 0 0)).cell? ⟨w.heap.size + 1, 3, none⟩ = some (.slice none 0 0) := by go_cell
      refine bodyPost_ret (v := .tuple #[.agg #[.int .i64 0, .int .i64 0, .int .i64 0, .slice none 0 0], .bool false]) ?_ rfl ⟨⟨none, 0, rfl, World.ownsRow_nil _ _ _ _⟩, ((((C4.out.setCell (p := ⟨w.heap.size + 1, 0, none⟩) (by show w.heap.size ≤ w.heap.size + 1; omega) (.int .i64 0)).setCell (p := ⟨w.heap.size + 1, 1, none⟩) (by show w.heap.size ≤ w.heap.size + 1; omega) (.int .i64 0)).setCell (p := ⟨w.heap.size + 1, 2, none⟩) (by show w.heap.size ≤ w.heap.size + 1; omega) (.int .i64 0)).setCell (p := ⟨w.heap.size + 1, 3, none⟩) (by show w.heap.size ≤ w.heap.size + 1; omega) (.slice none 0 0))⟩
      simp [results, Try.results10, go_sem, e0, e1, e2, e3]
end Go.Proofs.Ytnenlnadmdlcfaa

/- Part: spec.l5Copy, spec.l5Get, spec.CacheGet: contracts. -/
namespace Go.Proofs.Ytnenlnadmdlcfaa
open Go.RowKit
attribute [local go_sem ↓] Go.wp_at_zero Go.wp_at_succ

set_option maxRecDepth 100000 in
set_option maxHeartbeats 2000000 in
theorem l5Copy_any (p0 p1 p2 : Int) (v : Value) (l : List (Int × Int)) (w : World) (h : Rd w v l) (hl : l.length ≤ 1099511627776) :
    Calls Try.prog 54 #[.agg #[.int .i64 p0, .int .i64 p1, .int .i64 p2, v]] w fun e w' => (∃ (o : Option Addr) (c : Nat), e = .returned (.agg #[.int .i64 p0, .int .i64 p1, .int .i64 p2, .slice o l.length c]) ∧ Own w' w.heap.size (.slice o l.length c) l) ∧ Below w.heap.size w w' := by
  have HR := hid h
  obtain ⟨ao, cap, rfl, _, _⟩ := h
  go_enter Try.func54, Try.ntmps54
  go_wp2_with fail
  have a0_1 : ((w.alloc (.cells #[.int .i64 p0, .int .i64 p1, .int .i64 p2, .slice ao l.length cap] 31)).alloc (.cells #[.int .i64 0, .int .i64 0, .int .i64 0, .slice none 0 0] 31)).cell? ⟨w.heap.size, 0, none⟩ = some (.int .i64 p0) := by go_cell
  have a1_1 : ((w.alloc (.cells #[.int .i64 p0, .int .i64 p1, .int .i64 p2, .slice ao l.length cap] 31)).alloc (.cells #[.int .i64 0, .int .i64 0, .int .i64 0, .slice none 0 0] 31)).cell? ⟨w.heap.size, 1, none⟩ = some (.int .i64 p1) := by go_cell
  have a2_1 : ((w.alloc (.cells #[.int .i64 p0, .int .i64 p1, .int .i64 p2, .slice ao l.length cap] 31)).alloc (.cells #[.int .i64 0, .int .i64 0, .int .i64 0, .slice none 0 0] 31)).cell? ⟨w.heap.size, 2, none⟩ = some (.int .i64 p2) := by go_cell
  have a3_1 : ((w.alloc (.cells #[.int .i64 p0, .int .i64 p1, .int .i64 p2, .slice ao l.length cap] 31)).alloc (.cells #[.int .i64 0, .int .i64 0, .int .i64 0, .slice none 0 0] 31)).cell? ⟨w.heap.size, 3, none⟩ = some (.slice ao l.length cap) := by go_cell
  have al_1 : w.heap.size < ((w.alloc (.cells #[.int .i64 p0, .int .i64 p1, .int .i64 p2, .slice ao l.length cap] 31)).alloc (.cells #[.int .i64 0, .int .i64 0, .int .i64 0, .slice none 0 0] 31)).heap.size := by first | (simp; done) | (simp; omega)
  have r0_1 : ((w.alloc (.cells #[.int .i64 p0, .int .i64 p1, .int .i64 p2, .slice ao l.length cap] 31)).alloc (.cells #[.int .i64 0, .int .i64 0, .int .i64 0, .slice none 0 0] 31)).cell? ⟨w.heap.size + 1, 0, none⟩ = some (.int .i64 0) := by go_cell
  have rf0_1 : ((w.alloc (.cells #[.int .i64 p0, .int .i64 p1, .int .i64 p2, .slice ao l.length cap] 31)).alloc (.cells #[.int .i64 0, .int .i64 0, .int .i64 0, .slice none 0 0] 31)).frozen? ⟨w.heap.size + 1, 0, none⟩ = false := by (first | go_cell | (simp [World.frozen?, World.alloc]; done) | rfl)
  have r1_1 : ((w.alloc (.cells #[.int .i64 p0, .int .i64 p1, .int .i64 p2, .slice ao l.length cap] 31)).alloc (.cells #[.int .i64 0, .int .i64 0, .int .i64 0, .slice none 0 0] 31)).cell? ⟨w.heap.size + 1, 1, none⟩ = some (.int .i64 0) := by go_cell
  have rf1_1 : ((w.alloc (.cells #[.int .i64 p0, .int .i64 p1, .int .i64 p2, .slice ao l.length cap] 31)).alloc (.cells #[.int .i64 0, .int .i64 0, .int .i64 0, .slice none 0 0] 31)).frozen? ⟨w.heap.size + 1, 1, none⟩ = false := by (first | go_cell | (simp [World.frozen?, World.alloc]; done) | rfl)
  have r2_1 : ((w.alloc (.cells #[.int .i64 p0, .int .i64 p1, .int .i64 p2, .slice ao l.length cap] 31)).alloc (.cells #[.int .i64 0, .int .i64 0, .int .i64 0, .slice none 0 0] 31)).cell? ⟨w.heap.size + 1, 2, none⟩ = some (.int .i64 0) := by go_cell
  have rf2_1 : ((w.alloc (.cells #[.int .i64 p0, .int .i64 p1, .int .i64 p2, .slice ao l.length cap] 31)).alloc (.cells #[.int .i64 0, .int .i64 0, .int .i64 0, .slice none 0 0] 31)).frozen? ⟨w.heap.size + 1, 2, none⟩ = false := by (first | go_cell | (simp [World.frozen?, World.alloc]; done) | rfl)
  have r3_1 : ((w.alloc (.cells #[.int .i64 p0, .int .i64 p1, .int .i64 p2, .slice ao l.length cap] 31)).alloc (.cells #[.int .i64 0, .int .i64 0, .int .i64 0, .slice none 0 0] 31)).cell? ⟨w.heap.size + 1, 3, none⟩ = some (.slice none 0 0) := by go_cell
  have rf3_1 : ((w.alloc (.cells #[.int .i64 p0, .int .i64 p1, .int .i64 p2, .slice ao l.length cap] 31)).alloc (.cells #[.int .i64 0, .int .i64 0, .int .i64 0, .slice none 0 0] 31)).frozen? ⟨w.heap.size + 1, 3, none⟩ = false := by (first | go_cell | (simp [World.frozen?, World.alloc]; done) | rfl)
  have rl_1 : w.heap.size + 1 < ((w.alloc (.cells #[.int .i64 p0, .int .i64 p1, .int .i64 p2, .slice ao l.length cap] 31)).alloc (.cells #[.int .i64 0, .int .i64 0, .int .i64 0, .slice none 0 0] 31)).heap.size := by first | (simp; done) | (simp; omega)
  have c1 : Below w.heap.size w ((w.alloc (.cells #[.int .i64 p0, .int .i64 p1, .int .i64 p2, .slice ao l.length cap] 31)).alloc (.cells #[.int .i64 0, .int .i64 0, .int .i64 0, .slice none 0 0] 31)) := by go_grown
  have s1 : ((w.alloc (.cells #[.int .i64 p0, .int .i64 p1, .int .i64 p2, .slice ao l.length cap] 31)).alloc (.cells #[.int .i64 0, .int .i64 0, .int .i64 0, .slice none 0 0] 31)).heap.size = w.heap.size + 2 := by simp
  generalize ((w.alloc (.cells #[.int .i64 p0, .int .i64 p1, .int .i64 p2, .slice ao l.length cap] 31)).alloc (.cells #[.int .i64 0, .int .i64 0, .int .i64 0, .slice none 0 0] 31)) = w1 at a0_1 a1_1 a2_1 a3_1 al_1 r0_1 rf0_1 r1_1 rf1_1 r2_1 rf2_1 r3_1 rf3_1 rl_1 c1 s1 ⊢
  have qa0_1 := cell_regrown a0_1
  have qa1_1 := cell_regrown a1_1
  have qa2_1 := cell_regrown a2_1
  have qa3_1 := cell_regrown a3_1
  have qr0_1 := cell_regrown r0_1
  have qr1_1 := cell_regrown r1_1
  have qr2_1 := cell_regrown r2_1
  have qr3_1 := cell_regrown r3_1
  have HR1 := hid (HR.out.later c1)
  clear qa0_1 qa1_1 qa2_1 qa3_1 qr0_1 qr1_1 qr2_1 qr3_1
  go_region_held3 (fun w' => w'.cell? ⟨w.heap.size, 0, none⟩ = some (.int .i64 p0) ∧ w'.cell? ⟨w.heap.size, 1, none⟩ = some (.int .i64 p1) ∧ w'.cell? ⟨w.heap.size, 2, none⟩ = some (.int .i64 p2) ∧ w'.cell? ⟨w.heap.size, 3, none⟩ = some (.slice ao l.length cap)) (go_keep) (first | (go_at_call 69; refine (l2Copy_any p2 _ l _ (HR1.out.later (by go_grown)) hl).mono ?_; rintro e w2 ⟨v', rfl, ho, b2⟩; have d2 : Below w1.heap.size w1 w2 := (Below.trans (by go_grown) (b2.mono (by first | omega | (simp; done) | (simp; omega)))); have j0 := (d2.cell (p := ⟨w.heap.size, 0, none⟩) al_1).trans a0_1; have j1 := (d2.cell (p := ⟨w.heap.size, 1, none⟩) al_1).trans a1_1; have j2 := (d2.cell (p := ⟨w.heap.size, 2, none⟩) al_1).trans a2_1; have j3 := (d2.cell (p := ⟨w.heap.size, 3, none⟩) al_1).trans a3_1; have HO := hid (Own.mono ho (B' := w1.heap.size) (by show w1.heap.size ≤ w1.heap.size; omega)); clear ho; have r0_2 : w2.cell? ⟨w.heap.size + 1, 0, none⟩ = some (.int .i64 0) := (by rw [b2.cell (by first | omega | (simp; done) | (simp; omega))]; go_cell); have rf0_2 : w2.frozen? ⟨w.heap.size + 1, 0, none⟩ = false := (by rw [b2.frozen (by first | omega | (simp; done) | (simp; omega))]; (first | go_cell | (simp [World.frozen?, World.alloc]; done) | rfl)); have r1_2 : w2.cell? ⟨w.heap.size + 1, 1, none⟩ = some (.int .i64 0) := (by rw [b2.cell (by first | omega | (simp; done) | (simp; omega))]; go_cell); have rf1_2 : w2.frozen? ⟨w.heap.size + 1, 1, none⟩ = false := (by rw [b2.frozen (by first | omega | (simp; done) | (simp; omega))]; (first | go_cell | (simp [World.frozen?, World.alloc]; done) | rfl)); have r2_2 : w2.cell? ⟨w.heap.size + 1, 2, none⟩ = some (.int .i64 0) := (by rw [b2.cell (by first | omega | (simp; done) | (simp; omega))]; go_cell); have rf2_2 : w2.frozen? ⟨w.heap.size + 1, 2, none⟩ = false := (by rw [b2.frozen (by first | omega | (simp; done) | (simp; omega))]; (first | go_cell | (simp [World.frozen?, World.alloc]; done) | rfl)); have r3_2 : w2.cell? ⟨w.heap.size + 1, 3, none⟩ = some (.slice none 0 0) := (by rw [b2.cell (by first | omega | (simp; done) | (simp; omega))]; go_cell); have rf3_2 : w2.frozen? ⟨w.heap.size + 1, 3, none⟩ = false := (by rw [b2.frozen (by first | omega | (simp; done) | (simp; omega))]; (first | go_cell | (simp [World.frozen?, World.alloc]; done) | rfl)); have rl_2 : w.heap.size + 1 < w2.heap.size := (by have := b2.size; first | omega | (revert this; simp; done) | (revert this; simp; omega)); obtain ⟨uo, uc, huv, _⟩ := HO.out.rd; subst huv))
  all_goals
    have C2 := hid (c1.trans (d2.mono c1.size))
    clear d2 b2 c1
    go_wp2_with fail
    have e0 : ((((w2.setCell ⟨w.heap.size + 1, 0, none⟩ (.int .i64 p0)).setCell ⟨w.heap.size + 1, 1, none⟩ (.int .i64 p1)).setCell ⟨w.heap.size + 1, 2, none⟩ (.int .i64 p2)).setCell ⟨w.heap.size + 1, 3, none⟩ (.slice uo l.length uc)).cell? ⟨w.heap.size + 1, 0, none⟩ = some (.int .i64 p0) := by go_cell
    have e1 : ((((w2.setCell ⟨w.heap.size + 1, 0, none⟩ (.int .i64 p0)).setCell ⟨w.heap.size + 1, 1, none⟩ (.int .i64 p1)).setCell ⟨w.heap.size + 1, 2, none⟩ (.int .i64 p2)).setCell ⟨w.heap.size + 1, 3, none⟩ (.slice uo l.length uc)).cell? ⟨w.heap.size + 1, 1, none⟩ = some (.int .i64 p1) := by go_cell
    have e2 : ((((w2.setCell ⟨w.heap.size + 1, 0, none⟩ (.int .i64 p0)).setCell ⟨w.heap.size + 1, 1, none⟩ (.int .i64 p1)).setCell ⟨w.heap.size + 1, 2, none⟩ (.int .i64 p2)).setCell ⟨w.heap.size + 1, 3, none⟩ (.slice uo l.length uc)).cell? ⟨w.heap.size + 1, 2, none⟩ = some (.int .i64 p2) := by go_cell
    have e3 : ((((w2.setCell ⟨w.heap.size + 1, 0, none⟩ (.int .i64 p0)).setCell ⟨w.heap.size + 1, 1, none⟩ (.int .i64 p1)).setCell ⟨w.heap.size + 1, 2, none⟩ (.int .i64 p2)).setCell ⟨w.heap.size + 1, 3, none⟩ (.slice uo l.length uc)).cell? ⟨w.heap.size + 1, 3, none⟩ = some (.slice uo l.length uc) := by go_cell
    have HF := hid (Own.mono ((((HO.out.apartSet (p := ⟨w.heap.size + 1, 0, none⟩) (by show w.heap.size + 1 < w1.heap.size; omega) (.int .i64 p0)).apartSet (p := ⟨w.heap.size + 1, 1, none⟩) (by show w.heap.size + 1 < w1.heap.size; omega) (.int .i64 p1)).apartSet (p := ⟨w.heap.size + 1, 2, none⟩) (by show w.heap.size + 1 < w1.heap.size; omega) (.int .i64 p2)).apartSet (p := ⟨w.heap.size + 1, 3, none⟩) (by show w.heap.size + 1 < w1.heap.size; omega) (.slice uo l.length uc)) (B' := w.heap.size) (by omega))
    have HB := hid ((((C2.out.setCell (p := ⟨w.heap.size + 1, 0, none⟩) (by show w.heap.size ≤ w.heap.size + 1; omega) (.int .i64 p0)).setCell (p := ⟨w.heap.size + 1, 1, none⟩) (by show w.heap.size ≤ w.heap.size + 1; omega) (.int .i64 p1)).setCell (p := ⟨w.heap.size + 1, 2, none⟩) (by show w.heap.size ≤ w.heap.size + 1; omega) (.int .i64 p2)).setCell (p := ⟨w.heap.size + 1, 3, none⟩) (by show w.heap.size ≤ w.heap.size + 1; omega) (.slice uo l.length uc))
    exact bodyPost_ret (v := .agg #[.int .i64 p0, .int .i64 p1, .int .i64 p2, .slice uo l.length uc]) (by simp [results, Try.results54, go_sem, e0, e1, e2, e3]) rfl ⟨⟨uo, uc, rfl, HF.out⟩, HB.out⟩
/-- What a getter answers of an item, if there is one. -/
def EndG (w w' : World) (o : Option KD) (e : Ending) : Prop := ∃ (a : Option Addr) (c : Nat), e = .returned (.tuple #[.agg #[.int .i64 (gk o), .int .i64 (gv o), .int .i64 (gn o), .slice a (gl o).length c], .bool (gb o)]) ∧ Own w' w.heap.size (.slice a (gl o).length c) (gl o)
/-- None of the first k items is of that key. -/
def NoneK (I : List KD) (key : Int) (k : Nat) : Prop := ∀ j, j < k → keyK (I.getD j kd0) ≠ key
theorem find_none {I : List KD} {key : Int} (h : NoneK I key I.length) : I.find? (fun x => keyK x == key) = none := by
  rw [List.find?_eq_none]
  intro x hx
  obtain ⟨i, hi, rfl⟩ := List.getElem_of_mem hx
  have := h i hi
  rw [getD_at hi] at this
  simpa using this
theorem find_some {I : List KD} {key : Int} {k : Nat} (hk : k < I.length) (h : NoneK I key k) (he : keyK (I.getD k kd0) = key) : I.find? (fun x => keyK x == key) = some (I.getD k kd0) := by
  rw [getD_at hk] at he ⊢
  refine List.find?_eq_some_iff_getElem.2 ⟨by simpa using he, k, hk, rfl, fun j hj => ?_⟩
  have := h j hj
  rw [getD_at (by omega)] at this
  simpa using this
set_option maxRecDepth 100000 in
set_option maxHeartbeats 4000000 in
theorem l5Get_any (v0 v1 : Value) (I F : List KD) (key : Int) (w : World) (h0 : RdM 4 3 true w v0 I) (h1 : RdM 1 1 false w v1 F) (hl : ∀ i, i < I.length → (I.getD i kd0).2.length ≤ 1099511627776) :
    Calls Try.prog 28 #[.agg #[v0, v1], .int .i64 key] w fun e w' => EndG w w' (I.find? (fun x => keyK x == key)) e ∧ Below w.heap.size w w' := by
  have H0 := hid h0
  obtain ⟨ai, ci, rfl, hli, hci⟩ := h0
  obtain ⟨af, cf, rfl, hq2, hq3⟩ := h1
  have HC := hid hci
  have HL := hid hl
  clear hq2 hq3 hci hl
  unfold maxLen at hli
  go_enter Try.func28, Try.ntmps28
  go_wp2_with fail
  have a0_1 : ((w.alloc (.cells #[.slice ai I.length ci, .slice af F.length cf] 36)).alloc (.cells #[.int .i64 0, .int .i64 0, .int .i64 0, .slice none 0 0] 31)).cell? ⟨w.heap.size, 0, none⟩ = some (.slice ai I.length ci) := by go_cell
  have a1_1 : ((w.alloc (.cells #[.slice ai I.length ci, .slice af F.length cf] 36)).alloc (.cells #[.int .i64 0, .int .i64 0, .int .i64 0, .slice none 0 0] 31)).cell? ⟨w.heap.size, 1, none⟩ = some (.slice af F.length cf) := by go_cell
  have al_1 : w.heap.size < ((w.alloc (.cells #[.slice ai I.length ci, .slice af F.length cf] 36)).alloc (.cells #[.int .i64 0, .int .i64 0, .int .i64 0, .slice none 0 0] 31)).heap.size := by first | (simp; done) | (simp; omega)
  have r0_1 : ((w.alloc (.cells #[.slice ai I.length ci, .slice af F.length cf] 36)).alloc (.cells #[.int .i64 0, .int .i64 0, .int .i64 0, .slice none 0 0] 31)).cell? ⟨w.heap.size + 1, 0, none⟩ = some (.int .i64 0) := by go_cell
  have rf0_1 : ((w.alloc (.cells #[.slice ai I.length ci, .slice af F.length cf] 36)).alloc (.cells #[.int .i64 0, .int .i64 0, .int .i64 0, .slice none 0 0] 31)).frozen? ⟨w.heap.size + 1, 0, none⟩ = false := by (first | go_cell | (simp [World.frozen?, World.alloc]; done) | rfl)
  have r1_1 : ((w.alloc (.cells #[.slice ai I.length ci, .slice af F.length cf] 36)).alloc (.cells #[.int .i64 0, .int .i64 0, .int .i64 0, .slice none 0 0] 31)).cell? ⟨w.heap.size + 1, 1, none⟩ = some (.int .i64 0) := by go_cell
  have rf1_1 : ((w.alloc (.cells #[.slice ai I.length ci, .slice af F.length cf] 36)).alloc (.cells #[.int .i64 0, .int .i64 0, .int .i64 0, .slice none 0 0] 31)).frozen? ⟨w.heap.size + 1, 1, none⟩ = false := by (first | go_cell | (simp [World.frozen?, World.alloc]; done) | rfl)
  have r2_1 : ((w.alloc (.cells #[.slice ai I.length ci, .slice af F.length cf] 36)).alloc (.cells #[.int .i64 0, .int .i64 0, .int .i64 0, .slice none 0 0] 31)).cell? ⟨w.heap.size + 1, 2, none⟩ = some (.int .i64 0) := by go_cell
  have rf2_1 : ((w.alloc (.cells #[.slice ai I.length ci, .slice af F.length cf] 36)).alloc (.cells #[.int .i64 0, .int .i64 0, .int .i64 0, .slice none 0 0] 31)).frozen? ⟨w.heap.size + 1, 2, none⟩ = false := by (first | go_cell | (simp [World.frozen?, World.alloc]; done) | rfl)
  have r3_1 : ((w.alloc (.cells #[.slice ai I.length ci, .slice af F.length cf] 36)).alloc (.cells #[.int .i64 0, .int .i64 0, .int .i64 0, .slice none 0 0] 31)).cell? ⟨w.heap.size + 1, 3, none⟩ = some (.slice none 0 0) := by go_cell
  have rf3_1 : ((w.alloc (.cells #[.slice ai I.length ci, .slice af F.length cf] 36)).alloc (.cells #[.int .i64 0, .int .i64 0, .int .i64 0, .slice none 0 0] 31)).frozen? ⟨w.heap.size + 1, 3, none⟩ = false := by (first | go_cell | (simp [World.frozen?, World.alloc]; done) | rfl)
  have rl_1 : w.heap.size + 1 < ((w.alloc (.cells #[.slice ai I.length ci, .slice af F.length cf] 36)).alloc (.cells #[.int .i64 0, .int .i64 0, .int .i64 0, .slice none 0 0] 31)).heap.size := by first | (simp; done) | (simp; omega)
  have c1 : Below w.heap.size w ((w.alloc (.cells #[.slice ai I.length ci, .slice af F.length cf] 36)).alloc (.cells #[.int .i64 0, .int .i64 0, .int .i64 0, .slice none 0 0] 31)) := by go_grown
  have s1 : ((w.alloc (.cells #[.slice ai I.length ci, .slice af F.length cf] 36)).alloc (.cells #[.int .i64 0, .int .i64 0, .int .i64 0, .slice none 0 0] 31)).heap.size = w.heap.size + 2 := by simp
  generalize ((w.alloc (.cells #[.slice ai I.length ci, .slice af F.length cf] 36)).alloc (.cells #[.int .i64 0, .int .i64 0, .int .i64 0, .slice none 0 0] 31)) = w1 at a0_1 a1_1 al_1 r0_1 rf0_1 r1_1 rf1_1 r2_1 rf2_1 r3_1 rf3_1 rl_1 c1 s1 ⊢
  have qa0_1 := cell_regrown a0_1
  have qa1_1 := cell_regrown a1_1
  have qr0_1 := cell_regrown r0_1
  have qr1_1 := cell_regrown r1_1
  have qr2_1 := cell_regrown r2_1
  have qr3_1 := cell_regrown r3_1
  clear qa0_1 qa1_1 qr0_1 qr1_1 qr2_1 qr3_1
  go_loopw [6] (fun i wr => ∃ k : Nat, k ≤ I.length ∧ i = .int .i64 k ∧ Hid (NoneK I key k) ∧ Below w1.heap.size w1 wr) (fun i _ => I.length - (intOf i).toNat)
  case atStart => exact ⟨0, Nat.zero_le _, rfl, hid (fun j hj => absurd hj (Nat.not_lt_zero j)), Below.refl _ _⟩
  case round =>
    obtain ⟨k, hk, rfl, hpre, hbel1⟩ := hrel
    have hbel := c1.trans (hbel1.mono c1.size)
    have x0 := (hbel1.cell (p := ⟨w.heap.size, 0, none⟩) al_1).trans a0_1
    have r0_2 := (hbel1.cell (p := ⟨w.heap.size + 1, 0, none⟩) rl_1).trans r0_1
    have rf0_2 := (hbel1.frozen (p := ⟨w.heap.size + 1, 0, none⟩) rl_1).trans rf0_1
    have r1_2 := (hbel1.cell (p := ⟨w.heap.size + 1, 1, none⟩) rl_1).trans r1_1
    have rf1_2 := (hbel1.frozen (p := ⟨w.heap.size + 1, 1, none⟩) rl_1).trans rf1_1
    have r2_2 := (hbel1.cell (p := ⟨w.heap.size + 1, 2, none⟩) rl_1).trans r2_1
    have rf2_2 := (hbel1.frozen (p := ⟨w.heap.size + 1, 2, none⟩) rl_1).trans rf2_1
    have r3_2 := (hbel1.cell (p := ⟨w.heap.size + 1, 3, none⟩) rl_1).trans r3_1
    have rf3_2 := (hbel1.frozen (p := ⟨w.heap.size + 1, 3, none⟩) rl_1).trans rf3_1
    have hsz1 := hbel1.size
    by_cases hlt : k < I.length
    · have hki : (k : Int) < (I.length : Int) := by omega
      obtain ⟨b, o, rfl, hb, hcc⟩ := HC.out (by omega)
      obtain ⟨p0, p1, p2, lx, ux, hx, e0, e1, e2, e3, hux⟩ := atK_3k ((hcc k hlt).later hb hbel)
      have HX := hid hx
      have HU := hid hux
      obtain ⟨uo, uc, rfl, _, _⟩ := hux
      clear hcc hx
      by_cases hkk : p0 = key
      · subst hkk
        have HF := hid (find_some hlt hpre.out (by rw [HX.out]; rfl))
        rw [HX.out] at HF
        have HLX : Hid (lx.length ≤ 1099511627776) := hid (by have := HL.out k hlt; rw [HX.out] at this; exact this)
        go_wp2_with fail
        refine (l5Copy_any _ _ _ _ lx _ HU.out HLX.out).mono ?_
        rintro e w5 ⟨⟨a, c, rfl, ho5⟩, b5⟩
        have r0_5 := (b5.cell (p := ⟨w.heap.size + 1, 0, none⟩) (by show w.heap.size + 1 < wr.heap.size; omega)).trans r0_2
        have rf0_5 := (b5.frozen (p := ⟨w.heap.size + 1, 0, none⟩) (by show w.heap.size + 1 < wr.heap.size; omega)).trans rf0_2
        have r1_5 := (b5.cell (p := ⟨w.heap.size + 1, 1, none⟩) (by show w.heap.size + 1 < wr.heap.size; omega)).trans r1_2
        have rf1_5 := (b5.frozen (p := ⟨w.heap.size + 1, 1, none⟩) (by show w.heap.size + 1 < wr.heap.size; omega)).trans rf1_2
        have r2_5 := (b5.cell (p := ⟨w.heap.size + 1, 2, none⟩) (by show w.heap.size + 1 < wr.heap.size; omega)).trans r2_2
        have rf2_5 := (b5.frozen (p := ⟨w.heap.size + 1, 2, none⟩) (by show w.heap.size + 1 < wr.heap.size; omega)).trans rf2_2
        have r3_5 := (b5.cell (p := ⟨w.heap.size + 1, 3, none⟩) (by show w.heap.size + 1 < wr.heap.size; omega)).trans r3_2
        have rf3_5 := (b5.frozen (p := ⟨w.heap.size + 1, 3, none⟩) (by show w.heap.size + 1 < wr.heap.size; omega)).trans rf3_2
        have HO5 := hid ho5
        have C5 := hid (hbel.trans (b5.mono hbel.size))
        clear b5 ho5 e0 e1 e2 e3
        go_wp2_with fail
        have e0 : ((((w5.setCell ⟨w.heap.size + 1, 0, none⟩ (.int .i64 p0)).setCell ⟨w.heap.size + 1, 1, none⟩ (.int .i64 p1)).setCell ⟨w.heap.size + 1, 2, none⟩ (.int .i64 p2)).setCell ⟨w.heap.size + 1, 3, none⟩ (.slice a lx.length c)).cell? ⟨w.heap.size + 1, 0, none⟩ = some (.int .i64 p0) := by go_cell
        have e1 : ((((w5.setCell ⟨w.heap.size + 1, 0, none⟩ (.int .i64 p0)).setCell ⟨w.heap.size + 1, 1, none⟩ (.int .i64 p1)).setCell ⟨w.heap.size + 1, 2, none⟩ (.int .i64 p2)).setCell ⟨w.heap.size + 1, 3, none⟩ (.slice a lx.length c)).cell? ⟨w.heap.size + 1, 1, none⟩ = some (.int .i64 p1) := by go_cell
        have e2 : ((((w5.setCell ⟨w.heap.size + 1, 0, none⟩ (.int .i64 p0)).setCell ⟨w.heap.size + 1, 1, none⟩ (.int .i64 p1)).setCell ⟨w.heap.size + 1, 2, none⟩ (.int .i64 p2)).setCell ⟨w.heap.size + 1, 3, none⟩ (.slice a lx.length c)).cell? ⟨w.heap.size + 1, 2, none⟩ = some (.int .i64 p2) := by go_cell
        have e3 : ((((w5.setCell ⟨w.heap.size + 1, 0, none⟩ (.int .i64 p0)).setCell ⟨w.heap.size + 1, 1, none⟩ (.int .i64 p1)).setCell ⟨w.heap.size + 1, 2, none⟩ (.int .i64 p2)).setCell ⟨w.heap.size + 1, 3, none⟩ (.slice a lx.length c)).cell? ⟨w.heap.size + 1, 3, none⟩ = some (.slice a lx.length c) := by go_cell
        have HFO := hid (Own.mono ((((HO5.out.apartSet (p := ⟨w.heap.size + 1, 0, none⟩) (by show w.heap.size + 1 < wr.heap.size; omega) (.int .i64 p0)).apartSet (p := ⟨w.heap.size + 1, 1, none⟩) (by show w.heap.size + 1 < wr.heap.size; omega) (.int .i64 p1)).apartSet (p := ⟨w.heap.size + 1, 2, none⟩) (by show w.heap.size + 1 < wr.heap.size; omega) (.int .i64 p2)).apartSet (p := ⟨w.heap.size + 1, 3, none⟩) (by show w.heap.size + 1 < wr.heap.size; omega) (.slice a lx.length c)) (B' := w.heap.size) (by omega))
        have HB := hid ((((C5.out.setCell (p := ⟨w.heap.size + 1, 0, none⟩) (by show w.heap.size ≤ w.heap.size + 1; omega) (.int .i64 p0)).setCell (p := ⟨w.heap.size + 1, 1, none⟩) (by show w.heap.size ≤ w.heap.size + 1; omega) (.int .i64 p1)).setCell (p := ⟨w.heap.size + 1, 2, none⟩) (by show w.heap.size ≤ w.heap.size + 1; omega) (.int .i64 p2)).setCell (p := ⟨w.heap.size + 1, 3, none⟩) (by show w.heap.size ≤ w.heap.size + 1; omega) (.slice a lx.length c))
        refine bodyPost_ret (v := .tuple #[.agg #[.int .i64 p0, .int .i64 p1, .int .i64 p2, .slice a lx.length c], .bool true]) ?_ rfl ⟨by rw [HF.out]; exact ⟨a, c, rfl, HFO.out⟩, HB.out⟩
        simp [results, Try.results28, go_sem, e0, e1, e2, e3]
      · have hne : (p0 == key) = false := by simpa using hkk
        have HN : Hid (NoneK I key (k + 1)) := hid (fun j hj => by
          by_cases e : j = k
          · rw [e, HX.out]; exact hkk
          · exact hpre.out j (by omega))
        go_wp2_with fail
        go_roundw
        case rel => exact ⟨k + 1, by omega, by go_num, HN, hbel1⟩
        case measure => simp [intOf]; omega
    · have hki : ¬ (k : Int) < (I.length : Int) := by omega
      have hkn : k = I.length := by omega
      subst hkn
      have HF := hid (find_none hpre.out)
      have HBEL := hid hbel
      go_wp2_with fail
      have e0 : ((((wr.setCell ⟨w.heap.size + 1, 0, none⟩ (.int .i64 0)).setCell ⟨w.heap.size + 1, 1, none⟩ (.int .i64 0)).setCell ⟨w.heap.size + 1, 2, none⟩ (.int .i64 0)).setCell ⟨w.heap.size + 1, 3, none⟩ (.slice none 0 0)).cell? ⟨w.heap.size + 1, 0, none⟩ = some (.int .i64 0) := by go_cell
      have e1 : ((((wr.setCell ⟨w.heap.size + 1, 0, none⟩ (.int .i64 0)).setCell ⟨w.heap.size + 1, 1, none⟩ (.int .i64 0)).setCell ⟨w.heap.size + 1, 2, none⟩ (.int .i64 0)).setCell ⟨w.heap.size + 1, 3, none⟩ (.slice none 0 0)).cell? ⟨w.heap.size + 1, 1, none⟩ = some (.int .i64 0) := by go_cell
      have e2 : ((((wr.setCell ⟨w.heap.size + 1, 0, none⟩ (.int .i64 0)).setCell ⟨w.heap.size + 1, 1, none⟩ (.int .i64 0)).setCell ⟨w.heap.size + 1, 2, none⟩ (.int .i64 0)).setCell ⟨w.heap.size + 1, 3, none⟩ (.slice none 0 0)).cell? ⟨w.heap.size + 1, 2, none⟩ = some (.int .i64 0) := by go_cell
      have e3 : ((((wr.setCell ⟨w.heap.size + 1, 0, none⟩ (.int .i64 0)).setCell ⟨w.heap.size + 1, 1, none⟩ (.int .i64 0)).setCell ⟨w.heap.size + 1, 2, none⟩ (.int .i64 0)).setCell ⟨w.heap.size + 1, 3, none⟩ (.slice none 0 0)).cell? ⟨w.heap.size + 1, 3, none⟩ = some (.slice none 0 0) := by go_cell
      refine bodyPost_ret (v := .tuple #[.agg #[.int .i64 0, .int .i64 0, .int .i64 0, .slice none 0 0], .bool false]) ?_ rfl ⟨by rw [HF.out]; exact ⟨none, 0, rfl, World.ownsRow_nil _ _ _ _⟩, ((((HBEL.out.setCell (p := ⟨w.heap.size + 1, 0, none⟩) (by show w.heap.size ≤ w.heap.size + 1; omega) (.int .i64 0)).setCell (p := ⟨w.heap.size + 1, 1, none⟩) (by show w.heap.size ≤ w.heap.size + 1; omega) (.int .i64 0)).setCell (p := ⟨w.heap.size + 1, 2, none⟩) (by show w.heap.size ≤ w.heap.size + 1; omega) (.int .i64 0)).setCell (p := ⟨w.heap.size + 1, 3, none⟩) (by show w.heap.size ≤ w.heap.size + 1; omega) (.slice none 0 0))⟩
      simp [results, Try.results28, go_sem, e0, e1, e2, e3]
set_option maxRecDepth 100000 in
set_option maxHeartbeats 4000000 in
theorem specGet_any (v0 v1 : Value) (I F : List KD) (key : Int) (w : World) (h0 : RdM 4 3 true w v0 I) (h1 : RdM 1 1 false w v1 F) {o : Option KD} (ho : ansG I F key = o) :
    Calls Try.prog 8 #[.agg #[v0, v1], .int .i64 key] w fun e w' => EndG w w' o e ∧ Below w.heap.size w w' := by
  have H0 := hid h0
  have H1 := hid h1
  obtain ⟨ai, ci, rfl, hq0, hq1⟩ := h0
  obtain ⟨af, cf, rfl, hq2, hq3⟩ := h1
  clear hq0 hq1 hq2 hq3
  have hco := fun (W : World) (a : RdM 4 3 true W (.slice ai I.length ci) I) (b : RdM 1 1 false W (.slice af F.length cf) F) => specCOk_any _ _ I F W a b
  cases hok : okC I F with
  | false =>
    rw [hok] at hco
    obtain rfl : o = none := by rw [← ho, ansG, hok]; rfl
    go_enter Try.func8, Try.ntmps8
    go_wp2_with fail
    have a0_1 : ((w.alloc (.cells #[.slice ai I.length ci, .slice af F.length cf] 36)).alloc (.cells #[.int .i64 0, .int .i64 0, .int .i64 0, .slice none 0 0] 31)).cell? ⟨w.heap.size, 0, none⟩ = some (.slice ai I.length ci) := by go_cell
    have a1_1 : ((w.alloc (.cells #[.slice ai I.length ci, .slice af F.length cf] 36)).alloc (.cells #[.int .i64 0, .int .i64 0, .int .i64 0, .slice none 0 0] 31)).cell? ⟨w.heap.size, 1, none⟩ = some (.slice af F.length cf) := by go_cell
    have al_1 : w.heap.size < ((w.alloc (.cells #[.slice ai I.length ci, .slice af F.length cf] 36)).alloc (.cells #[.int .i64 0, .int .i64 0, .int .i64 0, .slice none 0 0] 31)).heap.size := by first | (simp; done) | (simp; omega)
    have r0_1 : ((w.alloc (.cells #[.slice ai I.length ci, .slice af F.length cf] 36)).alloc (.cells #[.int .i64 0, .int .i64 0, .int .i64 0, .slice none 0 0] 31)).cell? ⟨w.heap.size + 1, 0, none⟩ = some (.int .i64 0) := by go_cell
    have rf0_1 : ((w.alloc (.cells #[.slice ai I.length ci, .slice af F.length cf] 36)).alloc (.cells #[.int .i64 0, .int .i64 0, .int .i64 0, .slice none 0 0] 31)).frozen? ⟨w.heap.size + 1, 0, none⟩ = false := by (first | go_cell | (simp [World.frozen?, World.alloc]; done) | rfl)
    have r1_1 : ((w.alloc (.cells #[.slice ai I.length ci, .slice af F.length cf] 36)).alloc (.cells #[.int .i64 0, .int .i64 0, .int .i64 0, .slice none 0 0] 31)).cell? ⟨w.heap.size + 1, 1, none⟩ = some (.int .i64 0) := by go_cell
    have rf1_1 : ((w.alloc (.cells #[.slice ai I.length ci, .slice af F.length cf] 36)).alloc (.cells #[.int .i64 0, .int .i64 0, .int .i64 0, .slice none 0 0] 31)).frozen? ⟨w.heap.size + 1, 1, none⟩ = false := by (first | go_cell | (simp [World.frozen?, World.alloc]; done) | rfl)
    have r2_1 : ((w.alloc (.cells #[.slice ai I.length ci, .slice af F.length cf] 36)).alloc (.cells #[.int .i64 0, .int .i64 0, .int .i64 0, .slice none 0 0] 31)).cell? ⟨w.heap.size + 1, 2, none⟩ = some (.int .i64 0) := by go_cell
    have rf2_1 : ((w.alloc (.cells #[.slice ai I.length ci, .slice af F.length cf] 36)).alloc (.cells #[.int .i64 0, .int .i64 0, .int .i64 0, .slice none 0 0] 31)).frozen? ⟨w.heap.size + 1, 2, none⟩ = false := by (first | go_cell | (simp [World.frozen?, World.alloc]; done) | rfl)
    have r3_1 : ((w.alloc (.cells #[.slice ai I.length ci, .slice af F.length cf] 36)).alloc (.cells #[.int .i64 0, .int .i64 0, .int .i64 0, .slice none 0 0] 31)).cell? ⟨w.heap.size + 1, 3, none⟩ = some (.slice none 0 0) := by go_cell
    have rf3_1 : ((w.alloc (.cells #[.slice ai I.length ci, .slice af F.length cf] 36)).alloc (.cells #[.int .i64 0, .int .i64 0, .int .i64 0, .slice none 0 0] 31)).frozen? ⟨w.heap.size + 1, 3, none⟩ = false := by (first | go_cell | (simp [World.frozen?, World.alloc]; done) | rfl)
    have rl_1 : w.heap.size + 1 < ((w.alloc (.cells #[.slice ai I.length ci, .slice af F.length cf] 36)).alloc (.cells #[.int .i64 0, .int .i64 0, .int .i64 0, .slice none 0 0] 31)).heap.size := by first | (simp; done) | (simp; omega)
    have c1 : Below w.heap.size w ((w.alloc (.cells #[.slice ai I.length ci, .slice af F.length cf] 36)).alloc (.cells #[.int .i64 0, .int .i64 0, .int .i64 0, .slice none 0 0] 31)) := by go_grown
    have s1 : ((w.alloc (.cells #[.slice ai I.length ci, .slice af F.length cf] 36)).alloc (.cells #[.int .i64 0, .int .i64 0, .int .i64 0, .slice none 0 0] 31)).heap.size = w.heap.size + 2 := by simp
    generalize ((w.alloc (.cells #[.slice ai I.length ci, .slice af F.length cf] 36)).alloc (.cells #[.int .i64 0, .int .i64 0, .int .i64 0, .slice none 0 0] 31)) = w1 at a0_1 a1_1 al_1 r0_1 rf0_1 r1_1 rf1_1 r2_1 rf2_1 r3_1 rf3_1 rl_1 c1 s1 ⊢
    have qa0_1 := cell_regrown a0_1
    have qa1_1 := cell_regrown a1_1
    have qr0_1 := cell_regrown r0_1
    have qr1_1 := cell_regrown r1_1
    have qr2_1 := cell_regrown r2_1
    have qr3_1 := cell_regrown r3_1
    clear qa0_1 qa1_1 qr0_1 qr1_1 qr2_1 qr3_1
    refine (hco _ (H0.out.later c1) (H1.out.later c1)).mono ?_
    rintro e w2 ⟨rfl, b2⟩
    have r0_2 := (b2.cell (p := ⟨w.heap.size + 1, 0, none⟩) rl_1).trans r0_1
    have rf0_2 := (b2.frozen (p := ⟨w.heap.size + 1, 0, none⟩) rl_1).trans rf0_1
    have r1_2 := (b2.cell (p := ⟨w.heap.size + 1, 1, none⟩) rl_1).trans r1_1
    have rf1_2 := (b2.frozen (p := ⟨w.heap.size + 1, 1, none⟩) rl_1).trans rf1_1
    have r2_2 := (b2.cell (p := ⟨w.heap.size + 1, 2, none⟩) rl_1).trans r2_1
    have rf2_2 := (b2.frozen (p := ⟨w.heap.size + 1, 2, none⟩) rl_1).trans rf2_1
    have r3_2 := (b2.cell (p := ⟨w.heap.size + 1, 3, none⟩) rl_1).trans r3_1
    have rf3_2 := (b2.frozen (p := ⟨w.heap.size + 1, 3, none⟩) rl_1).trans rf3_1
    have C2 := hid (c1.trans (b2.mono c1.size))
    clear b2 c1
    go_wp2_with fail
    have e0 : ((((w2.setCell ⟨w.heap.size + 1, 0, none⟩ (.int .i64 0)).setCell ⟨w.heap.size + 1, 1, none⟩ (.int .i64 0)).setCell ⟨w.heap.size + 1, 2, none⟩ (.int .i64 0)).setCell ⟨w.heap.size + 1, 3, none⟩ (.slice none 0 0)).cell? ⟨w.heap.size + 1, 0, none⟩ = some (.int .i64 0) := by go_cell
    have e1 : ((((w2.setCell ⟨w.heap.size + 1, 0, none⟩ (.int .i64 0)).setCell ⟨w.heap.size + 1, 1, none⟩ (.int .i64 0)).setCell ⟨w.heap.size + 1, 2, none⟩ (.int .i64 0)).setCell ⟨w.heap.size + 1, 3, none⟩ (.slice none 0 0)).cell? ⟨w.heap.size + 1, 1, none⟩ = some (.int .i64 0) := by go_cell
    have e2 : ((((w2.setCell ⟨w.heap.size + 1, 0, none⟩ (.int .i64 0)).setCell ⟨w.heap.size + 1, 1, none⟩ (.int .i64 0)).setCell ⟨w.heap.size + 1, 2, none⟩ (.int .i64 0)).setCell ⟨w.heap.size + 1, 3, none⟩ (.slice none 0 0)).cell? ⟨w.heap.size + 1, 2, none⟩ = some (.int .i64 0) := by go_cell
    have e3 : ((((w2.setCell ⟨w.heap.size + 1, 0, none⟩ (.int .i64 0)).setCell ⟨w.heap.size + 1, 1, none⟩ (.int .i64 0)).setCell ⟨w.heap.size + 1, 2, none⟩ (.int .i64 0)).setCell ⟨w.heap.size + 1, 3, none⟩ (.slice none 0 0)).cell? ⟨w.heap.size + 1, 3, none⟩ = some (.slice none 0 0) := by go_cell
    refine bodyPost_ret (v := .tuple #[.agg #[.int .i64 0, .int .i64 0, .int .i64 0, .slice none 0 0], .bool false]) ?_ rfl ⟨⟨none, 0, rfl, World.ownsRow_nil _ _ _ _⟩, ((((C2.out.setCell (p := ⟨w.heap.size + 1, 0, none⟩) (by show w.heap.size ≤ w.heap.size + 1; omega) (.int .i64 0)).setCell (p := ⟨w.heap.size + 1, 1, none⟩) (by show w.heap.size ≤ w.heap.size + 1; omega) (.int .i64 0)).setCell (p := ⟨w.heap.size + 1, 2, none⟩) (by show w.heap.size ≤ w.heap.size + 1; omega) (.int .i64 0)).setCell (p := ⟨w.heap.size + 1, 3, none⟩) (by show w.heap.size ≤ w.heap.size + 1; omega) (.slice none 0 0))⟩
    simp [results, Try.results8, go_sem, e0, e1, e2, e3]
  | true =>
    rw [hok] at hco
    have hfo : I.find? (fun x => keyK x == key) = o := by rw [← ho, ansG, hok, if_pos rfl]
    have HL : Hid (∀ i, i < I.length → (I.getD i kd0).2.length ≤ 1099511627776) := hid (fun i hi => by
      have := (okC_small hok).2 _ (List.getElem_mem hi)
      rw [getD_at hi]
      omega)
    go_enter Try.func8, Try.ntmps8
    go_wp2_with fail
    have a0_1 : ((w.alloc (.cells #[.slice ai I.length ci, .slice af F.length cf] 36)).alloc (.cells #[.int .i64 0, .int .i64 0, .int .i64 0, .slice none 0 0] 31)).cell? ⟨w.heap.size, 0, none⟩ = some (.slice ai I.length ci) := by go_cell
    have a1_1 : ((w.alloc (.cells #[.slice ai I.length ci, .slice af F.length cf] 36)).alloc (.cells #[.int .i64 0, .int .i64 0, .int .i64 0, .slice none 0 0] 31)).cell? ⟨w.heap.size, 1, none⟩ = some (.slice af F.length cf) := by go_cell
    have al_1 : w.heap.size < ((w.alloc (.cells #[.slice ai I.length ci, .slice af F.length cf] 36)).alloc (.cells #[.int .i64 0, .int .i64 0, .int .i64 0, .slice none 0 0] 31)).heap.size := by first | (simp; done) | (simp; omega)
    have r0_1 : ((w.alloc (.cells #[.slice ai I.length ci, .slice af F.length cf] 36)).alloc (.cells #[.int .i64 0, .int .i64 0, .int .i64 0, .slice none 0 0] 31)).cell? ⟨w.heap.size + 1, 0, none⟩ = some (.int .i64 0) := by go_cell
    have rf0_1 : ((w.alloc (.cells #[.slice ai I.length ci, .slice af F.length cf] 36)).alloc (.cells #[.int .i64 0, .int .i64 0, .int .i64 0, .slice none 0 0] 31)).frozen? ⟨w.heap.size + 1, 0, none⟩ = false := by (first | go_cell | (simp [World.frozen?, World.alloc]; done) | rfl)
    have r1_1 : ((w.alloc (.cells #[.slice ai I.length ci, .slice af F.length cf] 36)).alloc (.cells #[.int .i64 0, .int .i64 0, .int .i64 0, .slice none 0 0] 31)).cell? ⟨w.heap.size + 1, 1, none⟩ = some (.int .i64 0) := by go_cell
    have rf1_1 : ((w.alloc (.cells #[.slice ai I.length ci, .slice af F.length cf] 36)).alloc (.cells #[.int .i64 0, .int .i64 0, .int .i64 0, .slice none 0 0] 31)).frozen? ⟨w.heap.size + 1, 1, none⟩ = false := by (first | go_cell | (simp [World.frozen?, World.alloc]; done) | rfl)
    have r2_1 : ((w.alloc (.cells #[.slice ai I.length ci, .slice af F.length cf] 36)).alloc (.cells #[.int .i64 0, .int .i64 0, .int .i64 0, .slice none 0 0] 31)).cell? ⟨w.heap.size + 1, 2, none⟩ = some (.int .i64 0) := by go_cell
    have rf2_1 : ((w.alloc (.cells #[.slice ai I.length ci, .slice af F.length cf] 36)).alloc (.cells #[.int .i64 0, .int .i64 0, .int .i64 0, .slice none 0 0] 31)).frozen? ⟨w.heap.size + 1, 2, none⟩ = false := by (first | go_cell | (simp [World.frozen?, World.alloc]; done) | rfl)
    have r3_1 : ((w.alloc (.cells #[.slice ai I.length ci, .slice af F.length cf] 36)).alloc (.cells #[.int .i64 0, .int .i64 0, .int .i64 0, .slice none 0 0] 31)).cell? ⟨w.heap.size + 1, 3, none⟩ = some (.slice none 0 0) := by go_cell
    have rf3_1 : ((w.alloc (.cells #[.slice ai I.length ci, .slice af F.length cf] 36)).alloc (.cells #[.int .i64 0, .int .i64 0, .int .i64 0, .slice none 0 0] 31)).frozen? ⟨w.heap.size + 1, 3, none⟩ = false := by (first | go_cell | (simp [World.frozen?, World.alloc]; done) | rfl)
    have rl_1 : w.heap.size + 1 < ((w.alloc (.cells #[.slice ai I.length ci, .slice af F.length cf] 36)).alloc (.cells #[.int .i64 0, .int .i64 0, .int .i64 0, .slice none 0 0] 31)).heap.size := by first | (simp; done) | (simp; omega)
    have c1 : Below w.heap.size w ((w.alloc (.cells #[.slice ai I.length ci, .slice af F.length cf] 36)).alloc (.cells #[.int .i64 0, .int .i64 0, .int .i64 0, .slice none 0 0] 31)) := by go_grown
    have s1 : ((w.alloc (.cells #[.slice ai I.length ci, .slice af F.length cf] 36)).alloc (.cells #[.int .i64 0, .int .i64 0, .int .i64 0, .slice none 0 0] 31)).heap.size = w.heap.size + 2 := by simp
    generalize ((w.alloc (.cells #[.slice ai I.length ci, .slice af F.length cf] 36)).alloc (.cells #[.int .i64 0, .int .i64 0, .int .i64 0, .slice none 0 0] 31)) = w1 at a0_1 a1_1 al_1 r0_1 rf0_1 r1_1 rf1_1 r2_1 rf2_1 r3_1 rf3_1 rl_1 c1 s1 ⊢
    have qa0_1 := cell_regrown a0_1
    have qa1_1 := cell_regrown a1_1
    have qr0_1 := cell_regrown r0_1
    have qr1_1 := cell_regrown r1_1
    have qr2_1 := cell_regrown r2_1
    have qr3_1 := cell_regrown r3_1
    clear qa0_1 qa1_1 qr0_1 qr1_1 qr2_1 qr3_1
    refine (hco _ (H0.out.later c1) (H1.out.later c1)).mono ?_
    rintro e w2 ⟨rfl, b2⟩
    have a0_2 := (b2.cell (p := ⟨w.heap.size, 0, none⟩) al_1).trans a0_1
    have a1_2 := (b2.cell (p := ⟨w.heap.size, 1, none⟩) al_1).trans a1_1
    have r0_2 := (b2.cell (p := ⟨w.heap.size + 1, 0, none⟩) rl_1).trans r0_1
    have rf0_2 := (b2.frozen (p := ⟨w.heap.size + 1, 0, none⟩) rl_1).trans rf0_1
    have r1_2 := (b2.cell (p := ⟨w.heap.size + 1, 1, none⟩) rl_1).trans r1_1
    have rf1_2 := (b2.frozen (p := ⟨w.heap.size + 1, 1, none⟩) rl_1).trans rf1_1
    have r2_2 := (b2.cell (p := ⟨w.heap.size + 1, 2, none⟩) rl_1).trans r2_1
    have rf2_2 := (b2.frozen (p := ⟨w.heap.size + 1, 2, none⟩) rl_1).trans rf2_1
    have r3_2 := (b2.cell (p := ⟨w.heap.size + 1, 3, none⟩) rl_1).trans r3_1
    have rf3_2 := (b2.frozen (p := ⟨w.heap.size + 1, 3, none⟩) rl_1).trans rf3_1
    have C2 := hid (c1.trans (b2.mono c1.size))
    have rl_2 : w.heap.size + 1 < w2.heap.size := Nat.lt_of_lt_of_le rl_1 b2.size
    clear b2 c1
    go_wp2_with fail
    refine (l5Get_any _ _ I F key _ (H0.out.later C2.out) (H1.out.later C2.out) HL.out).mono ?_
    rw [hfo]
    rintro e w3 ⟨⟨a, c, rfl, ho3⟩, b3⟩
    have r0_3 := (b3.cell (p := ⟨w.heap.size + 1, 0, none⟩) rl_2).trans r0_2
    have rf0_3 := (b3.frozen (p := ⟨w.heap.size + 1, 0, none⟩) rl_2).trans rf0_2
    have r1_3 := (b3.cell (p := ⟨w.heap.size + 1, 1, none⟩) rl_2).trans r1_2
    have rf1_3 := (b3.frozen (p := ⟨w.heap.size + 1, 1, none⟩) rl_2).trans rf1_2
    have r2_3 := (b3.cell (p := ⟨w.heap.size + 1, 2, none⟩) rl_2).trans r2_2
    have rf2_3 := (b3.frozen (p := ⟨w.heap.size + 1, 2, none⟩) rl_2).trans rf2_2
    have r3_3 := (b3.cell (p := ⟨w.heap.size + 1, 3, none⟩) rl_2).trans r3_2
    have rf3_3 := (b3.frozen (p := ⟨w.heap.size + 1, 3, none⟩) rl_2).trans rf3_2
    have HO3 := hid ho3
    have C3 := hid (C2.out.trans (b3.mono C2.out.size))
    clear b3 ho3 hfo
    go_wp2_with fail
    have e0 : ((((w3.setCell ⟨w.heap.size + 1, 0, none⟩ (.int .i64 (gk o))).setCell ⟨w.heap.size + 1, 1, none⟩ (.int .i64 (gv o))).setCell ⟨w.heap.size + 1, 2, none⟩ (.int .i64 (gn o))).setCell ⟨w.heap.size + 1, 3, none⟩ (.slice a (gl o).length c)).cell? ⟨w.heap.size + 1, 0, none⟩ = some (.int .i64 (gk o)) := by go_cell
    have e1 : ((((w3.setCell ⟨w.heap.size + 1, 0, none⟩ (.int .i64 (gk o))).setCell ⟨w.heap.size + 1, 1, none⟩ (.int .i64 (gv o))).setCell ⟨w.heap.size + 1, 2, none⟩ (.int .i64 (gn o))).setCell ⟨w.heap.size + 1, 3, none⟩ (.slice a (gl o).length c)).cell? ⟨w.heap.size + 1, 1, none⟩ = some (.int .i64 (gv o)) := by go_cell
    have e2 : ((((w3.setCell ⟨w.heap.size + 1, 0, none⟩ (.int .i64 (gk o))).setCell ⟨w.heap.size + 1, 1, none⟩ (.int .i64 (gv o))).setCell ⟨w.heap.size + 1, 2, none⟩ (.int .i64 (gn o))).setCell ⟨w.heap.size + 1, 3, none⟩ (.slice a (gl o).length c)).cell? ⟨w.heap.size + 1, 2, none⟩ = some (.int .i64 (gn o)) := by go_cell
    have e3 : ((((w3.setCell ⟨w.heap.size + 1, 0, none⟩ (.int .i64 (gk o))).setCell ⟨w.heap.size + 1, 1, none⟩ (.int .i64 (gv o))).setCell ⟨w.heap.size + 1, 2, none⟩ (.int .i64 (gn o))).setCell ⟨w.heap.size + 1, 3, none⟩ (.slice a (gl o).length c)).cell? ⟨w.heap.size + 1, 3, none⟩ = some (.slice a (gl o).length c) := by go_cell
    have HFO := hid (Own.mono ((((HO3.out.apartSet (p := ⟨w.heap.size + 1, 0, none⟩) (by show w.heap.size + 1 < w2.heap.size; omega) (.int .i64 (gk o))).apartSet (p := ⟨w.heap.size + 1, 1, none⟩) (by show w.heap.size + 1 < w2.heap.size; omega) (.int .i64 (gv o))).apartSet (p := ⟨w.heap.size + 1, 2, none⟩) (by show w.heap.size + 1 < w2.heap.size; omega) (.int .i64 (gn o))).apartSet (p := ⟨w.heap.size + 1, 3, none⟩) (by show w.heap.size + 1 < w2.heap.size; omega) (.slice a (gl o).length c)) (B' := w.heap.size) (by omega))
    have HB := hid ((((C3.out.setCell (p := ⟨w.heap.size + 1, 0, none⟩) (by show w.heap.size ≤ w.heap.size + 1; omega) (.int .i64 (gk o))).setCell (p := ⟨w.heap.size + 1, 1, none⟩) (by show w.heap.size ≤ w.heap.size + 1; omega) (.int .i64 (gv o))).setCell (p := ⟨w.heap.size + 1, 2, none⟩) (by show w.heap.size ≤ w.heap.size + 1; omega) (.int .i64 (gn o))).setCell (p := ⟨w.heap.size + 1, 3, none⟩) (by show w.heap.size ≤ w.heap.size + 1; omega) (.slice a (gl o).length c))
    refine bodyPost_ret (v := .tuple #[.agg #[.int .i64 (gk o), .int .i64 (gv o), .int .i64 (gn o), .slice a (gl o).length c], .bool (gb o)]) ?_ rfl ⟨⟨a, c, rfl, HFO.out⟩, HB.out⟩
    simp [results, Try.results8, go_sem, e0, e1, e2, e3]
end Go.Proofs.Ytnenlnadmdlcfaa

/- Part: The law's own helpers markItem, heldItem: contracts; how many numbers a list of elements has. -/
namespace Go.Proofs.Ytnenlnadmdlcfaa
open Go.RowKit
attribute [local go_sem ↓] Go.wp_at_zero Go.wp_at_succ

set_option maxHeartbeats 1000000 in
theorem markItem_any (p0 p1 p2 : Int) (v : Value) (l : List (Int × Int)) (k : Int) (B : Nat) (w : World) (h : Own w B v l) (hk : 0 ≤ k) (hk2 : k ≤ 1099511627776) (hl : l.length ≤ 1099511627776) :
    Calls Try.prog 14 #[.agg #[.int .i64 p0, .int .i64 p1, .int .i64 p2, v], .int .i64 k] w fun e w' => e = .returned (.int .i64 (k + 2 * (l.length : Int))) ∧ Own w' B v (markL k l.length) ∧ w.grownBy w' v.ownBlock := by
  have HO := hid (row_later h (show Below w.heap.size w (w.alloc (.cells #[.int .i64 p0, .int .i64 p1, .int .i64 p2, v] 31)) from (Below.refl _ w).alloc (Nat.le_refl _) _))
  obtain ⟨ao, cap, hv, _⟩ := h.rd
  subst hv
  clear h
  go_enter Try.func14, Try.ntmps14
  go_wp2_with fail
  refine (markVal_any p2 _ l k B _ HO.out hk hk2 hl).mono ?_
  rintro e w1 ⟨rfl, ho, hg⟩
  have HF := hid ho
  have HG := hid (grown_two (World.grownBy_alloc w (.cells #[.int .i64 p0, .int .i64 p1, .int .i64 p2, .slice ao l.length cap] 31) (Value.slice ao l.length cap).ownBlock) hg)
  clear ho hg
  go_wp2
  go_ret
  exact ⟨by simp, HF.out, HG.out⟩
set_option maxHeartbeats 1000000 in
theorem heldItem_any (p0 p1 p2 : Int) (v : Value) (m : Nat) (k : Int) (w : World) (h : Rd w v (markL k m)) (hk : 0 ≤ k) (hk2 : k ≤ 1099511627776) (hl : m ≤ 1099511627776) :
    Calls Try.prog 15 #[.agg #[.int .i64 p0, .int .i64 p1, .int .i64 p2, v], .int .i64 k] w fun e w' => e = .returned (.int .i64 (k + 2 * (m : Int))) ∧ Below w.heap.size w w' := by
  have HO := hid (h.later (show Below w.heap.size w (w.alloc (.cells #[.int .i64 p0, .int .i64 p1, .int .i64 p2, v] 31)) from (Below.refl _ w).alloc (Nat.le_refl _) _))
  obtain ⟨ao, cap, hv, _⟩ := h
  subst hv
  have b0 : Below w.heap.size w (w.alloc (.cells #[.int .i64 p0, .int .i64 p1, .int .i64 p2, .slice ao (markL k m).length cap] 31)) := (Below.refl _ w).alloc (Nat.le_refl _) _
  go_enter Try.func15, Try.ntmps15
  go_wp2_with fail
  refine (heldVal_any p2 _ m k _ HO.out hk hk2 hl).mono ?_
  rintro e w1 ⟨rfl, b1⟩
  have B1 := hid (b0.trans (b1.mono b0.size))
  have hn : ¬ (k + 2 * (m : Int) < 0) := by omega
  clear b1 b0
  go_wp2
  go_ret
  exact ⟨by simp, B1.out⟩
theorem cntM_bulk (m : Nat) (L : List KD) : cntM m L = (m : Int) * (L.length : Int) + 2 * (bulkM L : Int) := by
  induction L with
  | nil => simp [cntM, bulkM]
  | cons x r ih =>
    rw [cntM_cons, ih]
    simp only [cntK, bulkM, List.map_cons, List.sum_cons, List.length_cons]
    push_cast
    rw [Int.mul_add]
    omega
theorem ansG_small (I F : List KD) (key : Int) : (gl (ansG I F key)).length ≤ 8 := by
  unfold ansG
  split
  · next h =>
    cases hf : I.find? (fun x => keyK x == key) with
    | none => exact Nat.zero_le _
    | some x => exact (okC_small h).2 x (List.mem_of_find?_eq_some hf)
  · exact Nat.zero_le _
end Go.Proofs.Ytnenlnadmdlcfaa

/- Part: The law FnExactCacheGet: its walk. Written by a program (gcget.py). -/
namespace Go.Proofs.Ytnenlnadmdlcfaa
open Go.RowKit
attribute [local go_sem ↓] Go.wp_at_zero Go.wp_at_succ

set_option maxRecDepth 100000 in
set_option maxHeartbeats 8000000 in
theorem lawCGet_any (va0 va1 : Value) (A0 A1 : List KD) (key : Int) (w : World) (ha : RSCache w va0 va1 A0 A1) :
    Calls Try.prog 3 #[.agg #[va0, va1], .int .i64 key] w fun e w' => e = .returned (.bool true) ∧ Below w.heap.size w w' := by
  have HA := hid ha
  obtain ⟨ao0, ao1, ac0, ac1, rfl, rfl⟩ := ha.open
  have SD := fun (v0 v1 : Value) (W : World) (h0 : RdM 4 3 true W v0 A0) (h1 : RdM 1 1 false W v1 A1) => specGet_any v0 v1 A0 A1 key W h0 h1 rfl
  have ID := fun (v0 v1 : Value) (W : World) (h0 : RdM 4 3 true W v0 A0) (h1 : RdM 1 1 false W v1 A1) => implGet_any v0 v1 A0 A1 key W h0 h1 rfl
  have hM := ansG_small A0 A1 key
  unfold EndG at SD
  generalize ansG A0 A1 key = ob at SD ID hM
  generalize gk ob = p0 at SD ID
  generalize gv ob = p1 at SD ID
  generalize gn ob = p2 at SD ID
  generalize gb ob = bo at SD ID
  generalize gl ob = lo at SD ID hM
  clear ob
  go_enter Try.func3, Try.ntmps3
  go_wp2_with fail
  have a0_1 : (w.alloc (.cells #[.slice ao0 A0.length ac0, .slice ao1 A1.length ac1] 25)).cell? ⟨w.heap.size, 0, none⟩ = some (.slice ao0 A0.length ac0) := by go_cell
  have a1_1 : (w.alloc (.cells #[.slice ao0 A0.length ac0, .slice ao1 A1.length ac1] 25)).cell? ⟨w.heap.size, 1, none⟩ = some (.slice ao1 A1.length ac1) := by go_cell
  have al_1 : w.heap.size < (w.alloc (.cells #[.slice ao0 A0.length ac0, .slice ao1 A1.length ac1] 25)).heap.size := by first | (simp; done) | (simp; omega)
  have c1 : Below w.heap.size w (w.alloc (.cells #[.slice ao0 A0.length ac0, .slice ao1 A1.length ac1] 25)) := by go_grown
  have s1 : (w.alloc (.cells #[.slice ao0 A0.length ac0, .slice ao1 A1.length ac1] 25)).heap.size = w.heap.size + 1 := by simp
  generalize (w.alloc (.cells #[.slice ao0 A0.length ac0, .slice ao1 A1.length ac1] 25)) = w1 at a0_1 a1_1 al_1 c1 s1 ⊢
  have qa0_1 := cell_regrown a0_1
  have qa1_1 := cell_regrown a1_1
  refine (szCache_rd _ _ A0 A1 _ _ (HA.out.later c1) (by omega) (by omega)).mono ?_
  rintro e w2 ⟨hs, b2⟩
  have d2 : Below w1.heap.size w1 w2 := (Below.trans (by go_grown) (b2.mono (by first | omega | (simp; done) | (simp; omega))))
  have c2 : Below w.heap.size w w2 := c1.trans (d2.mono c1.size)
  have a0_2 : w2.cell? ⟨w.heap.size, 0, none⟩ = some (.slice ao0 A0.length ac0) := (by rw [b2.cell (by first | omega | (simp; done) | (simp; omega))]; go_cell)
  have a1_2 : w2.cell? ⟨w.heap.size, 1, none⟩ = some (.slice ao1 A1.length ac1) := (by rw [b2.cell (by first | omega | (simp; done) | (simp; omega))]; go_cell)
  have al_2 : w.heap.size < w2.heap.size := (by have := b2.size; first | omega | (revert this; simp; done) | (revert this; simp; omega))
  clear a0_1 a1_1 al_1
  clear b2 d2
  rcases hs with ⟨r, rfl, hr0, hr1, hA⟩ | rfl
  · have HLA := hid hA
    have hr2 : ¬ (r < 0) := by omega
    have hb0 := hA A0 (by simp)
    have hb1 := hA A1 (by simp)
    have hk0 : ∀ i, i < A0.length → (A0.getD i kd0).2.length ≤ 1048576 := fun i hi => by have := bulkM_get A0 i hi; omega
    have hc0 := cntM_bulk 3 A0
    have hc1 := cntM_bulk 1 A1
    have hp0 := cntM_pos 3 A0
    have hp1 := cntM_pos 1 A1
    have HN := hid (show 1 + cntM 3 A0 + cntM 1 A1 ≤ 1099511627776 from by omega)
    have HK0 := hid hk0
    have HC := hid (And.intro hb0 hb1)
    have hl0 : lo.length ≤ 1099511627776 := by omega
    have HP := hid (And.intro hp0 hp1)
    clear hA hb0 hb1 hk0 hc0 hc1 hp0 hp1
    go_wp2_with fail
    refine (toCache_rd _ _ A0 A1 _ (HA.out.later c2) HLA.out).mono ?_
    rintro e w3 ⟨⟨zo0, zo1, zc0, zc1, rfl, oa⟩, b3⟩
    have RZ_3 := hid oa
    clear oa
    have d3 : Below w2.heap.size w2 w3 := (Below.trans (by go_grown) (b3.mono (by first | omega | (simp; done) | (simp; omega))))
    have c3 : Below w.heap.size w w3 := c2.trans (d3.mono c2.size)
    have a0_3 : w3.cell? ⟨w.heap.size, 0, none⟩ = some (.slice ao0 A0.length ac0) := (by rw [b3.cell (by first | omega | (simp; done) | (simp; omega))]; go_cell)
    have a1_3 : w3.cell? ⟨w.heap.size, 1, none⟩ = some (.slice ao1 A1.length ac1) := (by rw [b3.cell (by first | omega | (simp; done) | (simp; omega))]; go_cell)
    have al_3 : w.heap.size < w3.heap.size := (by have := b3.size; first | omega | (revert this; simp; done) | (revert this; simp; omega))
    clear a0_2 a1_2 al_2
    clear b3 d3
    go_wp2_with fail
    refine (SD _ _ _ RZ_3.out.h0 RZ_3.out.h1).mono ?_
    rintro e w4 ⟨⟨so, sc, rfl, hso⟩, b4⟩
    have d4 : Below w3.heap.size w3 w4 := (Below.trans (by go_grown) (b4.mono (by first | omega | (simp; done) | (simp; omega))))
    have c4 : Below w.heap.size w w4 := c3.trans (d4.mono c3.size)
    have a0_4 : w4.cell? ⟨w.heap.size, 0, none⟩ = some (.slice ao0 A0.length ac0) := (by rw [b4.cell (by first | omega | (simp; done) | (simp; omega))]; go_cell)
    have a1_4 : w4.cell? ⟨w.heap.size, 1, none⟩ = some (.slice ao1 A1.length ac1) := (by rw [b4.cell (by first | omega | (simp; done) | (simp; omega))]; go_cell)
    have al_4 : w.heap.size < w4.heap.size := (by have := b4.size; first | omega | (revert this; simp; done) | (revert this; simp; omega))
    clear a0_3 a1_3 al_3
    have RS_4 := hid hso.rd
    clear b4 d4 hso RZ_3
    go_wp2_with fail
    have s0_5 : (w4.alloc (.cells #[.int .i64 p0, .int .i64 p1, .int .i64 p2, .slice so lo.length sc] 31)).cell? ⟨w4.heap.size, 0, none⟩ = some (.int .i64 p0) := by go_cell
    have s1_5 : (w4.alloc (.cells #[.int .i64 p0, .int .i64 p1, .int .i64 p2, .slice so lo.length sc] 31)).cell? ⟨w4.heap.size, 1, none⟩ = some (.int .i64 p1) := by go_cell
    have s2_5 : (w4.alloc (.cells #[.int .i64 p0, .int .i64 p1, .int .i64 p2, .slice so lo.length sc] 31)).cell? ⟨w4.heap.size, 2, none⟩ = some (.int .i64 p2) := by go_cell
    have s3_5 : (w4.alloc (.cells #[.int .i64 p0, .int .i64 p1, .int .i64 p2, .slice so lo.length sc] 31)).cell? ⟨w4.heap.size, 3, none⟩ = some (.slice so lo.length sc) := by go_cell
    have sl_5 : w4.heap.size < (w4.alloc (.cells #[.int .i64 p0, .int .i64 p1, .int .i64 p2, .slice so lo.length sc] 31)).heap.size := by simp
    have d5 : Below w4.heap.size w4 (w4.alloc (.cells #[.int .i64 p0, .int .i64 p1, .int .i64 p2, .slice so lo.length sc] 31)) := by go_grown
    generalize (w4.alloc (.cells #[.int .i64 p0, .int .i64 p1, .int .i64 p2, .slice so lo.length sc] 31)) = w5 at s0_5 s1_5 s2_5 s3_5 sl_5 d5 ⊢
    have c5 : Below w.heap.size w w5 := c4.trans (d5.mono c4.size)
    have a0_5 : w5.cell? ⟨w.heap.size, 0, none⟩ = some (.slice ao0 A0.length ac0) := (by rw [d5.cell (by first | omega | (simp; done) | (simp; omega))]; go_cell)
    have a1_5 : w5.cell? ⟨w.heap.size, 1, none⟩ = some (.slice ao1 A1.length ac1) := (by rw [d5.cell (by first | omega | (simp; done) | (simp; omega))]; go_cell)
    have al_5 : w.heap.size < w5.heap.size := (by have := d5.size; omega)
    clear a0_4 a1_4 al_4
    have RS_5 := hid (RS_4.out.later d5)
    have HRS := hid RS_5.out
    clear d5 RS_4
    have E5_5 := Below.refl w5.heap.size w5
    have HSL := hid sl_5
    have HAL := hid al_5
    go_wp2_with fail
    refine (toCache_own _ _ A0 A1 _ (HA.out.later c5).h0 (HA.out.later c5).h1 (by have := HC.out.1; omega) (by have := HC.out.2; omega) HK0.out).mono ?_
    rintro e w6 ⟨⟨xv0, xv1, B1, rfl, ox0, ox1, hB1, hB2⟩, b6⟩
    obtain ⟨xo0, xc0, hv0, _⟩ := ox0.rd'
    obtain ⟨xo1, xc1, hv1, _⟩ := ox1.rd'
    subst hv0 hv1
    have OX0_6 := hid ox0
    have OX1_6 := hid ox1
    clear ox0 ox1
    have d6 : Below w5.heap.size w5 w6 := (Below.trans (by go_grown) (b6.mono (by first | omega | (simp; done) | (simp; omega))))
    have c6 : Below w.heap.size w w6 := c5.trans (d6.mono c5.size)
    have a0_6 : w6.cell? ⟨w.heap.size, 0, none⟩ = some (.slice ao0 A0.length ac0) := (by rw [b6.cell (by first | omega | (simp; done) | (simp; omega))]; go_cell)
    have a1_6 : w6.cell? ⟨w.heap.size, 1, none⟩ = some (.slice ao1 A1.length ac1) := (by rw [b6.cell (by first | omega | (simp; done) | (simp; omega))]; go_cell)
    have al_6 : w.heap.size < w6.heap.size := (by have := b6.size; first | omega | (revert this; simp; done) | (revert this; simp; omega))
    have s0_6 : w6.cell? ⟨w4.heap.size, 0, none⟩ = some (.int .i64 p0) := (by rw [b6.cell (by first | omega | (simp; done) | (simp; omega))]; go_cell)
    have s1_6 : w6.cell? ⟨w4.heap.size, 1, none⟩ = some (.int .i64 p1) := (by rw [b6.cell (by first | omega | (simp; done) | (simp; omega))]; go_cell)
    have s2_6 : w6.cell? ⟨w4.heap.size, 2, none⟩ = some (.int .i64 p2) := (by rw [b6.cell (by first | omega | (simp; done) | (simp; omega))]; go_cell)
    have s3_6 : w6.cell? ⟨w4.heap.size, 3, none⟩ = some (.slice so lo.length sc) := (by rw [b6.cell (by first | omega | (simp; done) | (simp; omega))]; go_cell)
    have sl_6 : w4.heap.size < w6.heap.size := (by have := b6.size; first | omega | (revert this; simp; done) | (revert this; simp; omega))
    clear a0_5 a1_5 al_5 s0_5 s1_5 s2_5 s3_5 sl_5
    have HB := hid (And.intro hB1 hB2)
    clear hB1 hB2
    have RS_6 := hid (RS_5.out.later d6)
    have E5_6 : Below w5.heap.size w5 w6 := E5_5.trans (d6.mono E5_5.size)
    clear d6 RS_5 E5_5
    clear b6
    go_wp2_with fail
    have x0_7 : (w6.alloc (.cells #[.slice xo0 A0.length xc0, .slice xo1 A1.length xc1] 36)).cell? ⟨w6.heap.size, 0, none⟩ = some (.slice xo0 A0.length xc0) := by go_cell
    have x1_7 : (w6.alloc (.cells #[.slice xo0 A0.length xc0, .slice xo1 A1.length xc1] 36)).cell? ⟨w6.heap.size, 1, none⟩ = some (.slice xo1 A1.length xc1) := by go_cell
    have xl_7 : w6.heap.size < (w6.alloc (.cells #[.slice xo0 A0.length xc0, .slice xo1 A1.length xc1] 36)).heap.size := by simp
    have d7 : Below w6.heap.size w6 (w6.alloc (.cells #[.slice xo0 A0.length xc0, .slice xo1 A1.length xc1] 36)) := by go_grown
    generalize (w6.alloc (.cells #[.slice xo0 A0.length xc0, .slice xo1 A1.length xc1] 36)) = w7 at x0_7 x1_7 xl_7 d7 ⊢
    have c7 : Below w.heap.size w w7 := c6.trans (d7.mono c6.size)
    have a0_7 : w7.cell? ⟨w.heap.size, 0, none⟩ = some (.slice ao0 A0.length ac0) := (by rw [d7.cell (by first | omega | (simp; done) | (simp; omega))]; go_cell)
    have a1_7 : w7.cell? ⟨w.heap.size, 1, none⟩ = some (.slice ao1 A1.length ac1) := (by rw [d7.cell (by first | omega | (simp; done) | (simp; omega))]; go_cell)
    have al_7 : w.heap.size < w7.heap.size := (by have := d7.size; omega)
    have s0_7 : w7.cell? ⟨w4.heap.size, 0, none⟩ = some (.int .i64 p0) := (by rw [d7.cell (by first | omega | (simp; done) | (simp; omega))]; go_cell)
    have s1_7 : w7.cell? ⟨w4.heap.size, 1, none⟩ = some (.int .i64 p1) := (by rw [d7.cell (by first | omega | (simp; done) | (simp; omega))]; go_cell)
    have s2_7 : w7.cell? ⟨w4.heap.size, 2, none⟩ = some (.int .i64 p2) := (by rw [d7.cell (by first | omega | (simp; done) | (simp; omega))]; go_cell)
    have s3_7 : w7.cell? ⟨w4.heap.size, 3, none⟩ = some (.slice so lo.length sc) := (by rw [d7.cell (by first | omega | (simp; done) | (simp; omega))]; go_cell)
    have sl_7 : w4.heap.size < w7.heap.size := (by have := d7.size; omega)
    clear a0_6 a1_6 al_6 s0_6 s1_6 s2_6 s3_6 sl_6
    have OX0_7 := hid (OX0_6.out.later d7)
    have OX1_7 := hid (OX1_6.out.later d7)
    clear OX0_6 OX1_6
    have RS_7 := hid (RS_6.out.later d7)
    have E5_7 : Below w5.heap.size w5 w7 := E5_6.trans (d7.mono E5_6.size)
    clear d7 RS_6 E5_6
    have HX7 := hid xl_7
    have HS67 := hid (show w6.heap.size ≤ w7.heap.size from by have := xl_7; omega)
    go_wp2_with fail
    refine (ID _ _ _ (OX0_7.out.rd (by decide) (by decide)) (OX1_7.out.rd (by decide) (by decide))).mono ?_
    rintro e w8 ⟨⟨go, gc, rfl, hgo⟩, b8⟩
    have d8 : Below w7.heap.size w7 w8 := (Below.trans (by go_grown) (b8.mono (by first | omega | (simp; done) | (simp; omega))))
    have c8 : Below w.heap.size w w8 := c7.trans (d8.mono c7.size)
    have a0_8 : w8.cell? ⟨w.heap.size, 0, none⟩ = some (.slice ao0 A0.length ac0) := (by rw [b8.cell (by first | omega | (simp; done) | (simp; omega))]; go_cell)
    have a1_8 : w8.cell? ⟨w.heap.size, 1, none⟩ = some (.slice ao1 A1.length ac1) := (by rw [b8.cell (by first | omega | (simp; done) | (simp; omega))]; go_cell)
    have al_8 : w.heap.size < w8.heap.size := (by have := b8.size; first | omega | (revert this; simp; done) | (revert this; simp; omega))
    have s0_8 : w8.cell? ⟨w4.heap.size, 0, none⟩ = some (.int .i64 p0) := (by rw [b8.cell (by first | omega | (simp; done) | (simp; omega))]; go_cell)
    have s1_8 : w8.cell? ⟨w4.heap.size, 1, none⟩ = some (.int .i64 p1) := (by rw [b8.cell (by first | omega | (simp; done) | (simp; omega))]; go_cell)
    have s2_8 : w8.cell? ⟨w4.heap.size, 2, none⟩ = some (.int .i64 p2) := (by rw [b8.cell (by first | omega | (simp; done) | (simp; omega))]; go_cell)
    have s3_8 : w8.cell? ⟨w4.heap.size, 3, none⟩ = some (.slice so lo.length sc) := (by rw [b8.cell (by first | omega | (simp; done) | (simp; omega))]; go_cell)
    have sl_8 : w4.heap.size < w8.heap.size := (by have := b8.size; first | omega | (revert this; simp; done) | (revert this; simp; omega))
    have x0_8 : w8.cell? ⟨w6.heap.size, 0, none⟩ = some (.slice xo0 A0.length xc0) := (by rw [b8.cell (by first | omega | (simp; done) | (simp; omega))]; go_cell)
    have x1_8 : w8.cell? ⟨w6.heap.size, 1, none⟩ = some (.slice xo1 A1.length xc1) := (by rw [b8.cell (by first | omega | (simp; done) | (simp; omega))]; go_cell)
    have xl_8 : w6.heap.size < w8.heap.size := (by have := b8.size; first | omega | (revert this; simp; done) | (revert this; simp; omega))
    clear a0_7 a1_7 al_7 s0_7 s1_7 s2_7 s3_7 sl_7 x0_7 x1_7 xl_7
    have OG_8 := hid hgo
    have HGN : Hid (some w8.heap.size ≠ (Value.slice go lo.length gc).ownBlock) := hid (fun e => by have := (hgo.block _ e.symm).2; omega)
    clear hgo b8
    have OX0_8 := hid (OX0_7.out.later d8)
    have OX1_8 := hid (OX1_7.out.later d8)
    clear OX0_7 OX1_7
    have HS78 := hid d8.size
    have RS_8 := hid (RS_7.out.later d8)
    have E5_8 : Below w5.heap.size w5 w8 := E5_7.trans (d8.mono E5_7.size)
    clear d8 RS_7 E5_7
    go_wp2_with fail
    have g0_9 : (w8.alloc (.cells #[.int .i64 p0, .int .i64 p1, .int .i64 p2, .slice go lo.length gc] 31)).cell? ⟨w8.heap.size, 0, none⟩ = some (.int .i64 p0) := by go_cell
    have g1_9 : (w8.alloc (.cells #[.int .i64 p0, .int .i64 p1, .int .i64 p2, .slice go lo.length gc] 31)).cell? ⟨w8.heap.size, 1, none⟩ = some (.int .i64 p1) := by go_cell
    have g2_9 : (w8.alloc (.cells #[.int .i64 p0, .int .i64 p1, .int .i64 p2, .slice go lo.length gc] 31)).cell? ⟨w8.heap.size, 2, none⟩ = some (.int .i64 p2) := by go_cell
    have g3_9 : (w8.alloc (.cells #[.int .i64 p0, .int .i64 p1, .int .i64 p2, .slice go lo.length gc] 31)).cell? ⟨w8.heap.size, 3, none⟩ = some (.slice go lo.length gc) := by go_cell
    have gl_9 : w8.heap.size < (w8.alloc (.cells #[.int .i64 p0, .int .i64 p1, .int .i64 p2, .slice go lo.length gc] 31)).heap.size := by simp
    have d9 : Below w8.heap.size w8 (w8.alloc (.cells #[.int .i64 p0, .int .i64 p1, .int .i64 p2, .slice go lo.length gc] 31)) := by go_grown
    generalize (w8.alloc (.cells #[.int .i64 p0, .int .i64 p1, .int .i64 p2, .slice go lo.length gc] 31)) = w9 at g0_9 g1_9 g2_9 g3_9 gl_9 d9 ⊢
    have c9 : Below w.heap.size w w9 := c8.trans (d9.mono c8.size)
    have a0_9 : w9.cell? ⟨w.heap.size, 0, none⟩ = some (.slice ao0 A0.length ac0) := (by rw [d9.cell (by first | omega | (simp; done) | (simp; omega))]; go_cell)
    have a1_9 : w9.cell? ⟨w.heap.size, 1, none⟩ = some (.slice ao1 A1.length ac1) := (by rw [d9.cell (by first | omega | (simp; done) | (simp; omega))]; go_cell)
    have al_9 : w.heap.size < w9.heap.size := (by have := d9.size; omega)
    have s0_9 : w9.cell? ⟨w4.heap.size, 0, none⟩ = some (.int .i64 p0) := (by rw [d9.cell (by first | omega | (simp; done) | (simp; omega))]; go_cell)
    have s1_9 : w9.cell? ⟨w4.heap.size, 1, none⟩ = some (.int .i64 p1) := (by rw [d9.cell (by first | omega | (simp; done) | (simp; omega))]; go_cell)
    have s2_9 : w9.cell? ⟨w4.heap.size, 2, none⟩ = some (.int .i64 p2) := (by rw [d9.cell (by first | omega | (simp; done) | (simp; omega))]; go_cell)
    have s3_9 : w9.cell? ⟨w4.heap.size, 3, none⟩ = some (.slice so lo.length sc) := (by rw [d9.cell (by first | omega | (simp; done) | (simp; omega))]; go_cell)
    have sl_9 : w4.heap.size < w9.heap.size := (by have := d9.size; omega)
    have x0_9 : w9.cell? ⟨w6.heap.size, 0, none⟩ = some (.slice xo0 A0.length xc0) := (by rw [d9.cell (by first | omega | (simp; done) | (simp; omega))]; go_cell)
    have x1_9 : w9.cell? ⟨w6.heap.size, 1, none⟩ = some (.slice xo1 A1.length xc1) := (by rw [d9.cell (by first | omega | (simp; done) | (simp; omega))]; go_cell)
    have xl_9 : w6.heap.size < w9.heap.size := (by have := d9.size; omega)
    clear a0_8 a1_8 al_8 s0_8 s1_8 s2_8 s3_8 sl_8 x0_8 x1_8 xl_8
    have OG_9 : Hid (Own w9 w7.heap.size (.slice go lo.length gc) lo) := hid (row_later OG_8.out d9)
    have OX0_9 := hid (OX0_8.out.later d9)
    have OX1_9 := hid (OX1_8.out.later d9)
    clear OX0_8 OX1_8 OG_8
    have RS_9 := hid (RS_8.out.later d9)
    have E5_9 : Below w5.heap.size w5 w9 := E5_8.trans (d9.mono E5_8.size)
    clear d9 RS_8 E5_8
    go_wp2_with fail
    refine (eqItem_any p0 p1 p2 p0 p1 p2 lo lo _ _ _ OG_9.out.rd RS_9.out).mono ?_
    rw [eqK_iff.2 (rfl : (([p0, p1, p2], lo) : KD) = ([p0, p1, p2], lo))]
    rintro e w10 ⟨rfl, b10⟩
    have d10 : Below w9.heap.size w9 w10 := (Below.trans (by go_grown) (b10.mono (by first | omega | (simp; done) | (simp; omega))))
    have c10 : Below w.heap.size w w10 := c9.trans (d10.mono c9.size)
    have a0_10 : w10.cell? ⟨w.heap.size, 0, none⟩ = some (.slice ao0 A0.length ac0) := (by rw [b10.cell (by first | omega | (simp; done) | (simp; omega))]; go_cell)
    have a1_10 : w10.cell? ⟨w.heap.size, 1, none⟩ = some (.slice ao1 A1.length ac1) := (by rw [b10.cell (by first | omega | (simp; done) | (simp; omega))]; go_cell)
    have al_10 : w.heap.size < w10.heap.size := (by have := b10.size; first | omega | (revert this; simp; done) | (revert this; simp; omega))
    have s0_10 : w10.cell? ⟨w4.heap.size, 0, none⟩ = some (.int .i64 p0) := (by rw [b10.cell (by first | omega | (simp; done) | (simp; omega))]; go_cell)
    have s1_10 : w10.cell? ⟨w4.heap.size, 1, none⟩ = some (.int .i64 p1) := (by rw [b10.cell (by first | omega | (simp; done) | (simp; omega))]; go_cell)
    have s2_10 : w10.cell? ⟨w4.heap.size, 2, none⟩ = some (.int .i64 p2) := (by rw [b10.cell (by first | omega | (simp; done) | (simp; omega))]; go_cell)
    have s3_10 : w10.cell? ⟨w4.heap.size, 3, none⟩ = some (.slice so lo.length sc) := (by rw [b10.cell (by first | omega | (simp; done) | (simp; omega))]; go_cell)
    have sl_10 : w4.heap.size < w10.heap.size := (by have := b10.size; first | omega | (revert this; simp; done) | (revert this; simp; omega))
    have x0_10 : w10.cell? ⟨w6.heap.size, 0, none⟩ = some (.slice xo0 A0.length xc0) := (by rw [b10.cell (by first | omega | (simp; done) | (simp; omega))]; go_cell)
    have x1_10 : w10.cell? ⟨w6.heap.size, 1, none⟩ = some (.slice xo1 A1.length xc1) := (by rw [b10.cell (by first | omega | (simp; done) | (simp; omega))]; go_cell)
    have xl_10 : w6.heap.size < w10.heap.size := (by have := b10.size; first | omega | (revert this; simp; done) | (revert this; simp; omega))
    have g0_10 : w10.cell? ⟨w8.heap.size, 0, none⟩ = some (.int .i64 p0) := (by rw [b10.cell (by first | omega | (simp; done) | (simp; omega))]; go_cell)
    have g1_10 : w10.cell? ⟨w8.heap.size, 1, none⟩ = some (.int .i64 p1) := (by rw [b10.cell (by first | omega | (simp; done) | (simp; omega))]; go_cell)
    have g2_10 : w10.cell? ⟨w8.heap.size, 2, none⟩ = some (.int .i64 p2) := (by rw [b10.cell (by first | omega | (simp; done) | (simp; omega))]; go_cell)
    have g3_10 : w10.cell? ⟨w8.heap.size, 3, none⟩ = some (.slice go lo.length gc) := (by rw [b10.cell (by first | omega | (simp; done) | (simp; omega))]; go_cell)
    have gl_10 : w8.heap.size < w10.heap.size := (by have := b10.size; first | omega | (revert this; simp; done) | (revert this; simp; omega))
    clear a0_9 a1_9 al_9 s0_9 s1_9 s2_9 s3_9 sl_9 x0_9 x1_9 xl_9 g0_9 g1_9 g2_9 g3_9 gl_9
    clear b10
    have OG_10 : Hid (Own w10 w7.heap.size (.slice go lo.length gc) lo) := hid (row_later OG_9.out d10)
    have OX0_10 := hid (OX0_9.out.later d10)
    have OX1_10 := hid (OX1_9.out.later d10)
    clear OX0_9 OX1_9 OG_9
    have RS_10 := hid (RS_9.out.later d10)
    have E5_10 : Below w5.heap.size w5 w10 := E5_9.trans (d10.mono E5_9.size)
    clear d10 RS_9 E5_9
    go_upto_region 10 with fail
    go_cut [49] from 45 (fun s wx => s = .bool false ∧ Below w10.heap.size w10 wx)
    case first =>
      go_region_with (first
        | (go_at_call 9; refine (toCache_rd (.slice ao0 A0.length ac0) (.slice ao1 A1.length ac1) A0 A1 _ (HA.out.later (c10.drew)) HLA.out).mono ?_; rintro e w50 ⟨⟨zo0, zo1, zc0, zc1, rfl, oa⟩, b50⟩; have OE50 := hid oa; clear oa; have d50 : Below w10.heap.size w10 w50 := (Below.trans (by go_grown) (b50.mono (by first | omega | (simp; done) | (simp; omega)))); have c50 : Below w.heap.size w w50 := c10.trans (d50.mono c10.size); have x0_50 : w50.cell? ⟨w6.heap.size, 0, none⟩ = some (.slice xo0 A0.length xc0) := (by rw [b50.cell (by first | omega | (simp; done) | (simp; omega))]; go_cell); have x1_50 : w50.cell? ⟨w6.heap.size, 1, none⟩ = some (.slice xo1 A1.length xc1) := (by rw [b50.cell (by first | omega | (simp; done) | (simp; omega))]; go_cell); have xl_50 : w6.heap.size < w50.heap.size := (by have := b50.size; first | omega | (revert this; simp; done) | (revert this; simp; omega)); clear x0_10 x1_10 xl_10)
        | (go_at_call 12; refine (eqCache_rd _ _ _ _ A0 A1 _ (RSCache.later ⟨OX0_10.out.rd (by decide) (by decide), OX1_10.out.rd (by decide) (by decide)⟩ d50) OE50.out).mono ?_; rintro e w51 ⟨rfl, b51⟩; have d51 : Below w50.heap.size w50 w51 := (Below.trans (by go_grown) (b51.mono (by first | omega | (simp; done) | (simp; omega)))); have c51 : Below w.heap.size w w51 := c50.trans (d51.mono c50.size)))
      all_goals
        go_wp2_with fail
        go_meet
        exact ⟨rfl, d50.trans (d51.mono d50.size)⟩
    case rest =>
      obtain ⟨rfl, b11⟩ := hcut
      obtain ⟨w11, hw11⟩ : ∃ y, y = wc := ⟨_, rfl⟩
      subst hw11
      have d11 : Below w10.heap.size w10 w11 := (Below.trans (by go_grown) (b11.mono (by first | omega | (simp; done) | (simp; omega))))
      have c11 : Below w.heap.size w w11 := c10.trans (d11.mono c10.size)
      have a0_11 : w11.cell? ⟨w.heap.size, 0, none⟩ = some (.slice ao0 A0.length ac0) := (by rw [b11.cell (by first | omega | (simp; done) | (simp; omega))]; go_cell)
      have a1_11 : w11.cell? ⟨w.heap.size, 1, none⟩ = some (.slice ao1 A1.length ac1) := (by rw [b11.cell (by first | omega | (simp; done) | (simp; omega))]; go_cell)
      have al_11 : w.heap.size < w11.heap.size := (by have := b11.size; first | omega | (revert this; simp; done) | (revert this; simp; omega))
      have s0_11 : w11.cell? ⟨w4.heap.size, 0, none⟩ = some (.int .i64 p0) := (by rw [b11.cell (by first | omega | (simp; done) | (simp; omega))]; go_cell)
      have s1_11 : w11.cell? ⟨w4.heap.size, 1, none⟩ = some (.int .i64 p1) := (by rw [b11.cell (by first | omega | (simp; done) | (simp; omega))]; go_cell)
      have s2_11 : w11.cell? ⟨w4.heap.size, 2, none⟩ = some (.int .i64 p2) := (by rw [b11.cell (by first | omega | (simp; done) | (simp; omega))]; go_cell)
      have s3_11 : w11.cell? ⟨w4.heap.size, 3, none⟩ = some (.slice so lo.length sc) := (by rw [b11.cell (by first | omega | (simp; done) | (simp; omega))]; go_cell)
      have sl_11 : w4.heap.size < w11.heap.size := (by have := b11.size; first | omega | (revert this; simp; done) | (revert this; simp; omega))
      have x0_11 : w11.cell? ⟨w6.heap.size, 0, none⟩ = some (.slice xo0 A0.length xc0) := (by rw [b11.cell (by first | omega | (simp; done) | (simp; omega))]; go_cell)
      have x1_11 : w11.cell? ⟨w6.heap.size, 1, none⟩ = some (.slice xo1 A1.length xc1) := (by rw [b11.cell (by first | omega | (simp; done) | (simp; omega))]; go_cell)
      have xl_11 : w6.heap.size < w11.heap.size := (by have := b11.size; first | omega | (revert this; simp; done) | (revert this; simp; omega))
      have g0_11 : w11.cell? ⟨w8.heap.size, 0, none⟩ = some (.int .i64 p0) := (by rw [b11.cell (by first | omega | (simp; done) | (simp; omega))]; go_cell)
      have g1_11 : w11.cell? ⟨w8.heap.size, 1, none⟩ = some (.int .i64 p1) := (by rw [b11.cell (by first | omega | (simp; done) | (simp; omega))]; go_cell)
      have g2_11 : w11.cell? ⟨w8.heap.size, 2, none⟩ = some (.int .i64 p2) := (by rw [b11.cell (by first | omega | (simp; done) | (simp; omega))]; go_cell)
      have g3_11 : w11.cell? ⟨w8.heap.size, 3, none⟩ = some (.slice go lo.length gc) := (by rw [b11.cell (by first | omega | (simp; done) | (simp; omega))]; go_cell)
      have gl_11 : w8.heap.size < w11.heap.size := (by have := b11.size; first | omega | (revert this; simp; done) | (revert this; simp; omega))
      clear a0_10 a1_10 al_10 s0_10 s1_10 s2_10 s3_10 sl_10 x0_10 x1_10 xl_10 g0_10 g1_10 g2_10 g3_10 gl_10
      have OG_11 : Hid (Own w11 w7.heap.size (.slice go lo.length gc) lo) := hid (row_later OG_10.out d11)
      have OX0_11 := hid (OX0_10.out.later d11)
      have OX1_11 := hid (OX1_10.out.later d11)
      clear OX0_10 OX1_10 OG_10
      have RS_11 := hid (RS_10.out.later d11)
      have E5_11 : Below w5.heap.size w5 w11 := E5_10.trans (d11.mono E5_10.size)
      clear d11 RS_10 E5_10
      clear b11
      go_wp2_with fail
      refine (markCache_all _ _ A0 A1 1 (Span w5.heap.size B1) (Span B1 w6.heap.size) _ OX0_11.out OX1_11.out (fun b h q => by have := h.2; have := q.1; omega) (fun b h q => by have := q.2; have := h.1; omega) (by omega) HN.out).mono ?_
      rintro e w12 ⟨rfl, _, _, hn⟩
      have hspan : ∀ b, (Span w5.heap.size B1 b ∨ Span B1 w6.heap.size b) → w5.heap.size ≤ b ∧ b < w6.heap.size := fun b h => by rcases h with h | h <;> (have := h.1; have := h.2; have := HB.out; omega)
      have c12 : Below w.heap.size w w12 := c11.trans (hn.below (fun b hb => by have := (hspan b hb).1; have := HSL.out; have := HAL.out; omega) (by have := c11.size; omega))
      have z12 := hn.size
      have h_a := hn.block (w.heap.size) (by have := al_11; omega) (fun q => by have := (hspan _ q).1; have := HAL.out; omega)
      have a0_12 := (World.cell?_of_block (a := ⟨w.heap.size, 0, none⟩) h_a).trans a0_11
      have a1_12 := (World.cell?_of_block (a := ⟨w.heap.size, 1, none⟩) h_a).trans a1_11
      have al_12 : w.heap.size < w12.heap.size := by have := al_11; omega
      clear h_a a0_11 a1_11 al_11
      have h_s := hn.block (w4.heap.size) (by have := sl_11; omega) (fun q => by have := (hspan _ q).1; have := HSL.out; omega)
      have s0_12 := (World.cell?_of_block (a := ⟨w4.heap.size, 0, none⟩) h_s).trans s0_11
      have s1_12 := (World.cell?_of_block (a := ⟨w4.heap.size, 1, none⟩) h_s).trans s1_11
      have s2_12 := (World.cell?_of_block (a := ⟨w4.heap.size, 2, none⟩) h_s).trans s2_11
      have s3_12 := (World.cell?_of_block (a := ⟨w4.heap.size, 3, none⟩) h_s).trans s3_11
      have sl_12 : w4.heap.size < w12.heap.size := by have := sl_11; omega
      clear h_s s0_11 s1_11 s2_11 s3_11 sl_11
      have h_x := hn.block (w6.heap.size) (by have := xl_11; omega) (fun q => by have := (hspan _ q).2; omega)
      have x0_12 := (World.cell?_of_block (a := ⟨w6.heap.size, 0, none⟩) h_x).trans x0_11
      have x1_12 := (World.cell?_of_block (a := ⟨w6.heap.size, 1, none⟩) h_x).trans x1_11
      have xl_12 : w6.heap.size < w12.heap.size := by have := xl_11; omega
      clear h_x x0_11 x1_11 xl_11
      have h_g := hn.block (w8.heap.size) (by have := gl_11; omega) (fun q => by have := (hspan _ q).2; have := HS67.out; have := HS78.out; omega)
      have g0_12 := (World.cell?_of_block (a := ⟨w8.heap.size, 0, none⟩) h_g).trans g0_11
      have g1_12 := (World.cell?_of_block (a := ⟨w8.heap.size, 1, none⟩) h_g).trans g1_11
      have g2_12 := (World.cell?_of_block (a := ⟨w8.heap.size, 2, none⟩) h_g).trans g2_11
      have g3_12 := (World.cell?_of_block (a := ⟨w8.heap.size, 3, none⟩) h_g).trans g3_11
      have gl_12 : w8.heap.size < w12.heap.size := by have := gl_11; omega
      clear h_g g0_11 g1_11 g2_11 g3_11 gl_11
      have E5_12 : Below w5.heap.size w5 w12 := E5_11.trans (hn.below (fun b hb => (hspan b hb).1) E5_11.size)
      have RS_12 := hid (HRS.out.later E5_12)
      have OG_12 : Hid (Own w12 w7.heap.size (.slice go lo.length gc) lo) := hid (OG_11.out.agree (fun k hk => hn.block k (OG_11.out.block k hk).2 (fun q => by have := (hspan _ q).2; have := (OG_11.out.block k hk).1; have := HS67.out; omega)))
      clear hn hspan OX0_11 OX1_11 RS_11 OG_11 E5_11 x0_12 x1_12 xl_12
      obtain ⟨kx, hkx⟩ : ∃ z : Int, 1 + cntM 3 A0 + cntM 1 A1 = z := ⟨_, rfl⟩
      have hkn : ¬ (kx < 0) := by have := HP.out.1; have := HP.out.2; omega
      rw [hkx]
      clear hkx
      go_wp2_with fail
      refine (eqItem_any p0 p1 p2 p0 p1 p2 lo lo _ _ _ OG_12.out.rd RS_12.out).mono ?_
      rw [eqK_iff.2 (rfl : (([p0, p1, p2], lo) : KD) = ([p0, p1, p2], lo))]
      rintro e w13 ⟨rfl, b13⟩
      have d13 : Below w12.heap.size w12 w13 := (Below.trans (by go_grown) (b13.mono (by first | omega | (simp; done) | (simp; omega))))
      have c13 : Below w.heap.size w w13 := c12.trans (d13.mono c12.size)
      have a0_13 : w13.cell? ⟨w.heap.size, 0, none⟩ = some (.slice ao0 A0.length ac0) := (by rw [b13.cell (by first | omega | (simp; done) | (simp; omega))]; go_cell)
      have a1_13 : w13.cell? ⟨w.heap.size, 1, none⟩ = some (.slice ao1 A1.length ac1) := (by rw [b13.cell (by first | omega | (simp; done) | (simp; omega))]; go_cell)
      have al_13 : w.heap.size < w13.heap.size := (by have := b13.size; first | omega | (revert this; simp; done) | (revert this; simp; omega))
      have s0_13 : w13.cell? ⟨w4.heap.size, 0, none⟩ = some (.int .i64 p0) := (by rw [b13.cell (by first | omega | (simp; done) | (simp; omega))]; go_cell)
      have s1_13 : w13.cell? ⟨w4.heap.size, 1, none⟩ = some (.int .i64 p1) := (by rw [b13.cell (by first | omega | (simp; done) | (simp; omega))]; go_cell)
      have s2_13 : w13.cell? ⟨w4.heap.size, 2, none⟩ = some (.int .i64 p2) := (by rw [b13.cell (by first | omega | (simp; done) | (simp; omega))]; go_cell)
      have s3_13 : w13.cell? ⟨w4.heap.size, 3, none⟩ = some (.slice so lo.length sc) := (by rw [b13.cell (by first | omega | (simp; done) | (simp; omega))]; go_cell)
      have sl_13 : w4.heap.size < w13.heap.size := (by have := b13.size; first | omega | (revert this; simp; done) | (revert this; simp; omega))
      have g0_13 : w13.cell? ⟨w8.heap.size, 0, none⟩ = some (.int .i64 p0) := (by rw [b13.cell (by first | omega | (simp; done) | (simp; omega))]; go_cell)
      have g1_13 : w13.cell? ⟨w8.heap.size, 1, none⟩ = some (.int .i64 p1) := (by rw [b13.cell (by first | omega | (simp; done) | (simp; omega))]; go_cell)
      have g2_13 : w13.cell? ⟨w8.heap.size, 2, none⟩ = some (.int .i64 p2) := (by rw [b13.cell (by first | omega | (simp; done) | (simp; omega))]; go_cell)
      have g3_13 : w13.cell? ⟨w8.heap.size, 3, none⟩ = some (.slice go lo.length gc) := (by rw [b13.cell (by first | omega | (simp; done) | (simp; omega))]; go_cell)
      have gl_13 : w8.heap.size < w13.heap.size := (by have := b13.size; first | omega | (revert this; simp; done) | (revert this; simp; omega))
      clear a0_12 a1_12 al_12 s0_12 s1_12 s2_12 s3_12 sl_12 g0_12 g1_12 g2_12 g3_12 gl_12
      clear b13
      have OG_13 : Hid (Own w13 w7.heap.size (.slice go lo.length gc) lo) := hid (row_later OG_12.out d13)
      clear OG_12
      have RS_13 := hid (RS_12.out.later d13)
      have E5_13 : Below w5.heap.size w5 w13 := E5_12.trans (d13.mono E5_12.size)
      clear d13 RS_12 E5_12
      go_wp2_with fail
      refine (markItem_any p0 p1 p2 _ lo 1 w7.heap.size _ OG_13.out (by omega) (by omega) hl0).mono ?_
      rintro e w14 ⟨rfl, hog, hgr⟩
      have hob : ∀ k, (Value.slice go lo.length gc).ownBlock = some k → w7.heap.size ≤ k ∧ k < w13.heap.size := OG_13.out.block
      have hne : ∀ k, k < w7.heap.size → some k ≠ (Value.slice go lo.length gc).ownBlock := fun k hk e => by have := (hob k e.symm).1; omega
      have c14 : Below w.heap.size w w14 := c13.grown hgr c13.size (fun j ej => by have := (hob j ej).1; have := HX7.out; have := HS67.out; have := HAL.out; have := HSL.out; have := HB.out; omega)
      have E5_14 : Below w5.heap.size w5 w14 := E5_13.grown hgr E5_13.size (fun j ej => by have := (hob j ej).1; have := HS67.out; have := HB.out; omega)
      have z14 := hgr.size
      have h_a := hgr.block (w.heap.size) (by have := al_13; omega) (hne _ (by have := HAL.out; have := HS67.out; have := HB.out; omega))
      have a0_14 := (World.cell?_of_block (a := ⟨w.heap.size, 0, none⟩) h_a).trans a0_13
      have a1_14 := (World.cell?_of_block (a := ⟨w.heap.size, 1, none⟩) h_a).trans a1_13
      have al_14 : w.heap.size < w14.heap.size := by have := al_13; omega
      clear h_a a0_13 a1_13 al_13
      have h_s := hgr.block (w4.heap.size) (by have := sl_13; omega) (hne _ (by have := HSL.out; have := HS67.out; have := HB.out; omega))
      have s0_14 := (World.cell?_of_block (a := ⟨w4.heap.size, 0, none⟩) h_s).trans s0_13
      have s1_14 := (World.cell?_of_block (a := ⟨w4.heap.size, 1, none⟩) h_s).trans s1_13
      have s2_14 := (World.cell?_of_block (a := ⟨w4.heap.size, 2, none⟩) h_s).trans s2_13
      have s3_14 := (World.cell?_of_block (a := ⟨w4.heap.size, 3, none⟩) h_s).trans s3_13
      have sl_14 : w4.heap.size < w14.heap.size := by have := sl_13; omega
      clear h_s s0_13 s1_13 s2_13 s3_13 sl_13
      have hge : some w8.heap.size ≠ (Value.slice go lo.length gc).ownBlock := HGN.out
      have h_g := hgr.block (w8.heap.size) (by have := gl_13; omega) (hge)
      have g0_14 := (World.cell?_of_block (a := ⟨w8.heap.size, 0, none⟩) h_g).trans g0_13
      have g1_14 := (World.cell?_of_block (a := ⟨w8.heap.size, 1, none⟩) h_g).trans g1_13
      have g2_14 := (World.cell?_of_block (a := ⟨w8.heap.size, 2, none⟩) h_g).trans g2_13
      have g3_14 := (World.cell?_of_block (a := ⟨w8.heap.size, 3, none⟩) h_g).trans g3_13
      have gl_14 : w8.heap.size < w14.heap.size := by have := gl_13; omega
      clear h_g g0_13 g1_13 g2_13 g3_13 gl_13
      have RS_14 := hid (HRS.out.later E5_14)
      have RM_14 := hid hog.rd
      clear hgr hob hne hge hog OG_13 RS_13 E5_13
      obtain ⟨km, hkm⟩ : ∃ z : Int, 1 + 2 * (lo.length : Int) = z := ⟨_, rfl⟩
      have hkp : ¬ (km < 0) := by omega
      have HG1 := fun (W : World) (v : Value) (h : Rd W v (markL 1 lo.length)) => heldItem_any p0 p1 p2 v lo.length 1 W h (by omega) (by omega) hl0
      rw [hkm] at HG1 ⊢
      clear hkm
      go_wp2_with fail
      refine (HG1 _ _ RM_14.out).mono ?_
      rintro e w15 ⟨rfl, b15⟩
      have d15 : Below w14.heap.size w14 w15 := (Below.trans (by go_grown) (b15.mono (by first | omega | (simp; done) | (simp; omega))))
      have c15 : Below w.heap.size w w15 := c14.trans (d15.mono c14.size)
      have a0_15 : w15.cell? ⟨w.heap.size, 0, none⟩ = some (.slice ao0 A0.length ac0) := (by rw [b15.cell (by first | omega | (simp; done) | (simp; omega))]; go_cell)
      have a1_15 : w15.cell? ⟨w.heap.size, 1, none⟩ = some (.slice ao1 A1.length ac1) := (by rw [b15.cell (by first | omega | (simp; done) | (simp; omega))]; go_cell)
      have al_15 : w.heap.size < w15.heap.size := (by have := b15.size; first | omega | (revert this; simp; done) | (revert this; simp; omega))
      have s0_15 : w15.cell? ⟨w4.heap.size, 0, none⟩ = some (.int .i64 p0) := (by rw [b15.cell (by first | omega | (simp; done) | (simp; omega))]; go_cell)
      have s1_15 : w15.cell? ⟨w4.heap.size, 1, none⟩ = some (.int .i64 p1) := (by rw [b15.cell (by first | omega | (simp; done) | (simp; omega))]; go_cell)
      have s2_15 : w15.cell? ⟨w4.heap.size, 2, none⟩ = some (.int .i64 p2) := (by rw [b15.cell (by first | omega | (simp; done) | (simp; omega))]; go_cell)
      have s3_15 : w15.cell? ⟨w4.heap.size, 3, none⟩ = some (.slice so lo.length sc) := (by rw [b15.cell (by first | omega | (simp; done) | (simp; omega))]; go_cell)
      have sl_15 : w4.heap.size < w15.heap.size := (by have := b15.size; first | omega | (revert this; simp; done) | (revert this; simp; omega))
      have g0_15 : w15.cell? ⟨w8.heap.size, 0, none⟩ = some (.int .i64 p0) := (by rw [b15.cell (by first | omega | (simp; done) | (simp; omega))]; go_cell)
      have g1_15 : w15.cell? ⟨w8.heap.size, 1, none⟩ = some (.int .i64 p1) := (by rw [b15.cell (by first | omega | (simp; done) | (simp; omega))]; go_cell)
      have g2_15 : w15.cell? ⟨w8.heap.size, 2, none⟩ = some (.int .i64 p2) := (by rw [b15.cell (by first | omega | (simp; done) | (simp; omega))]; go_cell)
      have g3_15 : w15.cell? ⟨w8.heap.size, 3, none⟩ = some (.slice go lo.length gc) := (by rw [b15.cell (by first | omega | (simp; done) | (simp; omega))]; go_cell)
      have gl_15 : w8.heap.size < w15.heap.size := (by have := b15.size; first | omega | (revert this; simp; done) | (revert this; simp; omega))
      clear a0_14 a1_14 al_14 s0_14 s1_14 s2_14 s3_14 sl_14 g0_14 g1_14 g2_14 g3_14 gl_14
      have RM_15 := hid (RM_14.out.later d15)
      clear RM_14 b15
      have RS_15 := hid (RS_14.out.later d15)
      have E5_15 : Below w5.heap.size w5 w15 := E5_14.trans (d15.mono E5_14.size)
      clear d15 RS_14 E5_14
      go_wp2_with fail
      refine (toCache_rd _ _ A0 A1 _ (HA.out.later c15) HLA.out).mono ?_
      rintro e w17 ⟨⟨yo0, yo1, yc0, yc1, rfl, oa⟩, b17⟩
      have RY_17 := hid oa
      clear oa
      have d17 : Below w15.heap.size w15 w17 := (Below.trans (by go_grown) (b17.mono (by first | omega | (simp; done) | (simp; omega))))
      have c17 : Below w.heap.size w w17 := c15.trans (d17.mono c15.size)
      have a0_17 : w17.cell? ⟨w.heap.size, 0, none⟩ = some (.slice ao0 A0.length ac0) := (by rw [b17.cell (by first | omega | (simp; done) | (simp; omega))]; go_cell)
      have a1_17 : w17.cell? ⟨w.heap.size, 1, none⟩ = some (.slice ao1 A1.length ac1) := (by rw [b17.cell (by first | omega | (simp; done) | (simp; omega))]; go_cell)
      have al_17 : w.heap.size < w17.heap.size := (by have := b17.size; first | omega | (revert this; simp; done) | (revert this; simp; omega))
      have s0_17 : w17.cell? ⟨w4.heap.size, 0, none⟩ = some (.int .i64 p0) := (by rw [b17.cell (by first | omega | (simp; done) | (simp; omega))]; go_cell)
      have s1_17 : w17.cell? ⟨w4.heap.size, 1, none⟩ = some (.int .i64 p1) := (by rw [b17.cell (by first | omega | (simp; done) | (simp; omega))]; go_cell)
      have s2_17 : w17.cell? ⟨w4.heap.size, 2, none⟩ = some (.int .i64 p2) := (by rw [b17.cell (by first | omega | (simp; done) | (simp; omega))]; go_cell)
      have s3_17 : w17.cell? ⟨w4.heap.size, 3, none⟩ = some (.slice so lo.length sc) := (by rw [b17.cell (by first | omega | (simp; done) | (simp; omega))]; go_cell)
      have sl_17 : w4.heap.size < w17.heap.size := (by have := b17.size; first | omega | (revert this; simp; done) | (revert this; simp; omega))
      have g0_17 : w17.cell? ⟨w8.heap.size, 0, none⟩ = some (.int .i64 p0) := (by rw [b17.cell (by first | omega | (simp; done) | (simp; omega))]; go_cell)
      have g1_17 : w17.cell? ⟨w8.heap.size, 1, none⟩ = some (.int .i64 p1) := (by rw [b17.cell (by first | omega | (simp; done) | (simp; omega))]; go_cell)
      have g2_17 : w17.cell? ⟨w8.heap.size, 2, none⟩ = some (.int .i64 p2) := (by rw [b17.cell (by first | omega | (simp; done) | (simp; omega))]; go_cell)
      have g3_17 : w17.cell? ⟨w8.heap.size, 3, none⟩ = some (.slice go lo.length gc) := (by rw [b17.cell (by first | omega | (simp; done) | (simp; omega))]; go_cell)
      have gl_17 : w8.heap.size < w17.heap.size := (by have := b17.size; first | omega | (revert this; simp; done) | (revert this; simp; omega))
      clear a0_15 a1_15 al_15 s0_15 s1_15 s2_15 s3_15 sl_15 g0_15 g1_15 g2_15 g3_15 gl_15
      have RM_17 := hid (RM_15.out.later d17)
      clear RM_15 b17
      have RS_17 := hid (RS_15.out.later d17)
      have E5_17 : Below w5.heap.size w5 w17 := E5_15.trans (d17.mono E5_15.size)
      clear d17 RS_15 E5_15
      go_wp2_with fail
      refine (ID _ _ _ RY_17.out.h0 RY_17.out.h1).mono ?_
      rintro e w18 ⟨⟨ho, hc, rfl, hho⟩, b18⟩
      have d18 : Below w17.heap.size w17 w18 := (Below.trans (by go_grown) (b18.mono (by first | omega | (simp; done) | (simp; omega))))
      have c18 : Below w.heap.size w w18 := c17.trans (d18.mono c17.size)
      have a0_18 : w18.cell? ⟨w.heap.size, 0, none⟩ = some (.slice ao0 A0.length ac0) := (by rw [b18.cell (by first | omega | (simp; done) | (simp; omega))]; go_cell)
      have a1_18 : w18.cell? ⟨w.heap.size, 1, none⟩ = some (.slice ao1 A1.length ac1) := (by rw [b18.cell (by first | omega | (simp; done) | (simp; omega))]; go_cell)
      have al_18 : w.heap.size < w18.heap.size := (by have := b18.size; first | omega | (revert this; simp; done) | (revert this; simp; omega))
      have s0_18 : w18.cell? ⟨w4.heap.size, 0, none⟩ = some (.int .i64 p0) := (by rw [b18.cell (by first | omega | (simp; done) | (simp; omega))]; go_cell)
      have s1_18 : w18.cell? ⟨w4.heap.size, 1, none⟩ = some (.int .i64 p1) := (by rw [b18.cell (by first | omega | (simp; done) | (simp; omega))]; go_cell)
      have s2_18 : w18.cell? ⟨w4.heap.size, 2, none⟩ = some (.int .i64 p2) := (by rw [b18.cell (by first | omega | (simp; done) | (simp; omega))]; go_cell)
      have s3_18 : w18.cell? ⟨w4.heap.size, 3, none⟩ = some (.slice so lo.length sc) := (by rw [b18.cell (by first | omega | (simp; done) | (simp; omega))]; go_cell)
      have sl_18 : w4.heap.size < w18.heap.size := (by have := b18.size; first | omega | (revert this; simp; done) | (revert this; simp; omega))
      have g0_18 : w18.cell? ⟨w8.heap.size, 0, none⟩ = some (.int .i64 p0) := (by rw [b18.cell (by first | omega | (simp; done) | (simp; omega))]; go_cell)
      have g1_18 : w18.cell? ⟨w8.heap.size, 1, none⟩ = some (.int .i64 p1) := (by rw [b18.cell (by first | omega | (simp; done) | (simp; omega))]; go_cell)
      have g2_18 : w18.cell? ⟨w8.heap.size, 2, none⟩ = some (.int .i64 p2) := (by rw [b18.cell (by first | omega | (simp; done) | (simp; omega))]; go_cell)
      have g3_18 : w18.cell? ⟨w8.heap.size, 3, none⟩ = some (.slice go lo.length gc) := (by rw [b18.cell (by first | omega | (simp; done) | (simp; omega))]; go_cell)
      have gl_18 : w8.heap.size < w18.heap.size := (by have := b18.size; first | omega | (revert this; simp; done) | (revert this; simp; omega))
      clear a0_17 a1_17 al_17 s0_17 s1_17 s2_17 s3_17 sl_17 g0_17 g1_17 g2_17 g3_17 gl_17
      have RM_18 := hid (RM_17.out.later d18)
      have RH_18 := hid hho.rd
      clear RM_17 RY_17 b18 hho
      have RS_18 := hid (RS_17.out.later d18)
      have E5_18 : Below w5.heap.size w5 w18 := E5_17.trans (d18.mono E5_17.size)
      clear d18 RS_17 E5_17
      go_wp2_with fail
      have h0_19 : (w18.alloc (.cells #[.int .i64 p0, .int .i64 p1, .int .i64 p2, .slice ho lo.length hc] 31)).cell? ⟨w18.heap.size, 0, none⟩ = some (.int .i64 p0) := by go_cell
      have h1_19 : (w18.alloc (.cells #[.int .i64 p0, .int .i64 p1, .int .i64 p2, .slice ho lo.length hc] 31)).cell? ⟨w18.heap.size, 1, none⟩ = some (.int .i64 p1) := by go_cell
      have h2_19 : (w18.alloc (.cells #[.int .i64 p0, .int .i64 p1, .int .i64 p2, .slice ho lo.length hc] 31)).cell? ⟨w18.heap.size, 2, none⟩ = some (.int .i64 p2) := by go_cell
      have h3_19 : (w18.alloc (.cells #[.int .i64 p0, .int .i64 p1, .int .i64 p2, .slice ho lo.length hc] 31)).cell? ⟨w18.heap.size, 3, none⟩ = some (.slice ho lo.length hc) := by go_cell
      have hl_19 : w18.heap.size < (w18.alloc (.cells #[.int .i64 p0, .int .i64 p1, .int .i64 p2, .slice ho lo.length hc] 31)).heap.size := by simp
      have d19 : Below w18.heap.size w18 (w18.alloc (.cells #[.int .i64 p0, .int .i64 p1, .int .i64 p2, .slice ho lo.length hc] 31)) := by go_grown
      generalize (w18.alloc (.cells #[.int .i64 p0, .int .i64 p1, .int .i64 p2, .slice ho lo.length hc] 31)) = w19 at h0_19 h1_19 h2_19 h3_19 hl_19 d19 ⊢
      have c19 : Below w.heap.size w w19 := c18.trans (d19.mono c18.size)
      have a0_19 : w19.cell? ⟨w.heap.size, 0, none⟩ = some (.slice ao0 A0.length ac0) := (by rw [d19.cell (by first | omega | (simp; done) | (simp; omega))]; go_cell)
      have a1_19 : w19.cell? ⟨w.heap.size, 1, none⟩ = some (.slice ao1 A1.length ac1) := (by rw [d19.cell (by first | omega | (simp; done) | (simp; omega))]; go_cell)
      have al_19 : w.heap.size < w19.heap.size := (by have := d19.size; omega)
      have s0_19 : w19.cell? ⟨w4.heap.size, 0, none⟩ = some (.int .i64 p0) := (by rw [d19.cell (by first | omega | (simp; done) | (simp; omega))]; go_cell)
      have s1_19 : w19.cell? ⟨w4.heap.size, 1, none⟩ = some (.int .i64 p1) := (by rw [d19.cell (by first | omega | (simp; done) | (simp; omega))]; go_cell)
      have s2_19 : w19.cell? ⟨w4.heap.size, 2, none⟩ = some (.int .i64 p2) := (by rw [d19.cell (by first | omega | (simp; done) | (simp; omega))]; go_cell)
      have s3_19 : w19.cell? ⟨w4.heap.size, 3, none⟩ = some (.slice so lo.length sc) := (by rw [d19.cell (by first | omega | (simp; done) | (simp; omega))]; go_cell)
      have sl_19 : w4.heap.size < w19.heap.size := (by have := d19.size; omega)
      have g0_19 : w19.cell? ⟨w8.heap.size, 0, none⟩ = some (.int .i64 p0) := (by rw [d19.cell (by first | omega | (simp; done) | (simp; omega))]; go_cell)
      have g1_19 : w19.cell? ⟨w8.heap.size, 1, none⟩ = some (.int .i64 p1) := (by rw [d19.cell (by first | omega | (simp; done) | (simp; omega))]; go_cell)
      have g2_19 : w19.cell? ⟨w8.heap.size, 2, none⟩ = some (.int .i64 p2) := (by rw [d19.cell (by first | omega | (simp; done) | (simp; omega))]; go_cell)
      have g3_19 : w19.cell? ⟨w8.heap.size, 3, none⟩ = some (.slice go lo.length gc) := (by rw [d19.cell (by first | omega | (simp; done) | (simp; omega))]; go_cell)
      have gl_19 : w8.heap.size < w19.heap.size := (by have := d19.size; omega)
      clear a0_18 a1_18 al_18 s0_18 s1_18 s2_18 s3_18 sl_18 g0_18 g1_18 g2_18 g3_18 gl_18
      have RM_19 := hid (RM_18.out.later d19)
      have RH_19 := hid (RH_18.out.later d19)
      clear RM_18 RH_18
      have RS_19 := hid (RS_18.out.later d19)
      have E5_19 : Below w5.heap.size w5 w19 := E5_18.trans (d19.mono E5_18.size)
      clear d19 RS_18 E5_18
      go_wp2_with fail
      refine (eqItem_any p0 p1 p2 p0 p1 p2 lo lo _ _ _ RH_19.out RS_19.out).mono ?_
      rw [eqK_iff.2 (rfl : (([p0, p1, p2], lo) : KD) = ([p0, p1, p2], lo))]
      rintro e w20 ⟨rfl, b20⟩
      have d20 : Below w19.heap.size w19 w20 := (Below.trans (by go_grown) (b20.mono (by first | omega | (simp; done) | (simp; omega))))
      have c20 : Below w.heap.size w w20 := c19.trans (d20.mono c19.size)
      have a0_20 : w20.cell? ⟨w.heap.size, 0, none⟩ = some (.slice ao0 A0.length ac0) := (by rw [b20.cell (by first | omega | (simp; done) | (simp; omega))]; go_cell)
      have a1_20 : w20.cell? ⟨w.heap.size, 1, none⟩ = some (.slice ao1 A1.length ac1) := (by rw [b20.cell (by first | omega | (simp; done) | (simp; omega))]; go_cell)
      have al_20 : w.heap.size < w20.heap.size := (by have := b20.size; first | omega | (revert this; simp; done) | (revert this; simp; omega))
      have s0_20 : w20.cell? ⟨w4.heap.size, 0, none⟩ = some (.int .i64 p0) := (by rw [b20.cell (by first | omega | (simp; done) | (simp; omega))]; go_cell)
      have s1_20 : w20.cell? ⟨w4.heap.size, 1, none⟩ = some (.int .i64 p1) := (by rw [b20.cell (by first | omega | (simp; done) | (simp; omega))]; go_cell)
      have s2_20 : w20.cell? ⟨w4.heap.size, 2, none⟩ = some (.int .i64 p2) := (by rw [b20.cell (by first | omega | (simp; done) | (simp; omega))]; go_cell)
      have s3_20 : w20.cell? ⟨w4.heap.size, 3, none⟩ = some (.slice so lo.length sc) := (by rw [b20.cell (by first | omega | (simp; done) | (simp; omega))]; go_cell)
      have sl_20 : w4.heap.size < w20.heap.size := (by have := b20.size; first | omega | (revert this; simp; done) | (revert this; simp; omega))
      have g0_20 : w20.cell? ⟨w8.heap.size, 0, none⟩ = some (.int .i64 p0) := (by rw [b20.cell (by first | omega | (simp; done) | (simp; omega))]; go_cell)
      have g1_20 : w20.cell? ⟨w8.heap.size, 1, none⟩ = some (.int .i64 p1) := (by rw [b20.cell (by first | omega | (simp; done) | (simp; omega))]; go_cell)
      have g2_20 : w20.cell? ⟨w8.heap.size, 2, none⟩ = some (.int .i64 p2) := (by rw [b20.cell (by first | omega | (simp; done) | (simp; omega))]; go_cell)
      have g3_20 : w20.cell? ⟨w8.heap.size, 3, none⟩ = some (.slice go lo.length gc) := (by rw [b20.cell (by first | omega | (simp; done) | (simp; omega))]; go_cell)
      have gl_20 : w8.heap.size < w20.heap.size := (by have := b20.size; first | omega | (revert this; simp; done) | (revert this; simp; omega))
      clear a0_19 a1_19 al_19 s0_19 s1_19 s2_19 s3_19 sl_19 g0_19 g1_19 g2_19 g3_19 gl_19
      clear b20
      have RM_20 := hid (RM_19.out.later d20)
      clear RM_19 RH_19
      have RS_20 := hid (RS_19.out.later d20)
      have E5_20 : Below w5.heap.size w5 w20 := E5_19.trans (d20.mono E5_19.size)
      clear d20 RS_19 E5_19
      go_wp2_with fail
      refine (HG1 _ _ RM_20.out).mono ?_
      rintro e w21 ⟨rfl, b21⟩
      have d21 : Below w20.heap.size w20 w21 := (Below.trans (by go_grown) (b21.mono (by first | omega | (simp; done) | (simp; omega))))
      have c21 : Below w.heap.size w w21 := c20.trans (d21.mono c20.size)
      have a0_21 : w21.cell? ⟨w.heap.size, 0, none⟩ = some (.slice ao0 A0.length ac0) := (by rw [b21.cell (by first | omega | (simp; done) | (simp; omega))]; go_cell)
      have a1_21 : w21.cell? ⟨w.heap.size, 1, none⟩ = some (.slice ao1 A1.length ac1) := (by rw [b21.cell (by first | omega | (simp; done) | (simp; omega))]; go_cell)
      have al_21 : w.heap.size < w21.heap.size := (by have := b21.size; first | omega | (revert this; simp; done) | (revert this; simp; omega))
      have s0_21 : w21.cell? ⟨w4.heap.size, 0, none⟩ = some (.int .i64 p0) := (by rw [b21.cell (by first | omega | (simp; done) | (simp; omega))]; go_cell)
      have s1_21 : w21.cell? ⟨w4.heap.size, 1, none⟩ = some (.int .i64 p1) := (by rw [b21.cell (by first | omega | (simp; done) | (simp; omega))]; go_cell)
      have s2_21 : w21.cell? ⟨w4.heap.size, 2, none⟩ = some (.int .i64 p2) := (by rw [b21.cell (by first | omega | (simp; done) | (simp; omega))]; go_cell)
      have s3_21 : w21.cell? ⟨w4.heap.size, 3, none⟩ = some (.slice so lo.length sc) := (by rw [b21.cell (by first | omega | (simp; done) | (simp; omega))]; go_cell)
      have sl_21 : w4.heap.size < w21.heap.size := (by have := b21.size; first | omega | (revert this; simp; done) | (revert this; simp; omega))
      have g0_21 : w21.cell? ⟨w8.heap.size, 0, none⟩ = some (.int .i64 p0) := (by rw [b21.cell (by first | omega | (simp; done) | (simp; omega))]; go_cell)
      have g1_21 : w21.cell? ⟨w8.heap.size, 1, none⟩ = some (.int .i64 p1) := (by rw [b21.cell (by first | omega | (simp; done) | (simp; omega))]; go_cell)
      have g2_21 : w21.cell? ⟨w8.heap.size, 2, none⟩ = some (.int .i64 p2) := (by rw [b21.cell (by first | omega | (simp; done) | (simp; omega))]; go_cell)
      have g3_21 : w21.cell? ⟨w8.heap.size, 3, none⟩ = some (.slice go lo.length gc) := (by rw [b21.cell (by first | omega | (simp; done) | (simp; omega))]; go_cell)
      have gl_21 : w8.heap.size < w21.heap.size := (by have := b21.size; first | omega | (revert this; simp; done) | (revert this; simp; omega))
      clear a0_20 a1_20 al_20 s0_20 s1_20 s2_20 s3_20 sl_20 g0_20 g1_20 g2_20 g3_20 gl_20
      have RM_21 := hid (RM_20.out.later d21)
      clear RM_20 b21
      go_wp2
      go_ret
      exact ⟨by simp, c21⟩
  · go_wp2
    go_ret
    exact ⟨by simp, c2⟩
end Go.Proofs.Ytnenlnadmdlcfaa

/- Part: An argument that is a slice of edges reads as a list of pairs. -/
namespace Go.Proofs.Ytnenlnadmdlcfaa
open Go.ChangeShapes Go.WideShapes Go.ChangeAt Go.RowKit Go.Deep

theorem Try.own : ownKnob Try.prog.godebug = none := by kernel_rfl
theorem Try.laidOut : laidOutB Try.prog = true := by kernel_rfl
theorem Try.cells112 : Try.prog.cellsOf 112 = 2 := by kernel_rfl
theorem Try.cells3 : Try.prog.cellsOf 3 = 1 := by kernel_rfl

set_option maxRecDepth 100000 in
theorem rd_of {H : Type} {enc : TypeId × Value → H} {W : World} {base : Nat} {v : Value} {d : DataW H} {p : List MemPlace} (hv : Value.okWide Try.prog W .any base 46 v)
    (h : DataW.Trod enc Try.prog W 0 (fun _ => true) true 46 v d p) (hlt : ∀ x ∈ p, x.block < W.heap.size) : ∃ l, Rd W v l := by
  obtain ⟨a0, len, cap, rfl⟩ := okWide_slice Try.underlying46 hv
  obtain ⟨fuel, hf⟩ := h
  rcases open_slice_pairs Try.underlying46 Try.underlying112 Try.cells112 rfl rfl Try.cells3 Try.cells3 hf with ⟨hcs, _⟩ | ⟨a, len', cap', m, n, V0, V1, D0, D1, P0, P1, hcs, _, hlc, hcm, hm, hx, hcell⟩
  · simp [Value.cells] at hcs
    obtain ⟨rfl, rfl, rfl⟩ := hcs
    exact ⟨[], Rd.nil W none 0⟩
  · simp [Value.cells] at hcs
    obtain ⟨rfl, rfl, rfl⟩ := hcs
    simp only [if_true] at hm
    subst hm
    have num : ∀ (t : Value) (x : DataW H × List MemPlace), DataW.trod enc Try.prog W 0 (fun _ => true) true n 3 [t] = some x → ∃ z, t = .int .i64 z := by
      intro t x hx
      obtain ⟨z, hz, _⟩ := DataW.trod_int Try.underlying3 hx
      exact ⟨z, by simpa using hz⟩
    let N : Value → Int := fun t => match t with | .int _ z => z | _ => 0
    refine ⟨(List.range len).map fun i => (N (V0 i), N (V1 i)), some a, _, by simp; rfl, by simp only [List.length_map, List.length_range]; omega, fun h0 => ?_⟩
    simp only [List.length_map, List.length_range] at h0 ⊢
    obtain ⟨b, off, spot⟩ := a
    have hs : spot = none := by
      have := (hcell 0 (by omega)).1
      simpa [Addr.add] using World.cell?_spot this
    subst hs
    refine ⟨b, off, rfl, ?_, fun i hi => ?_⟩
    · simp only [Prod.mk.injEq] at hx
      have := hlt (.cell b off) (by rw [hx.2]; exact List.mem_append_left _ (MemPlace.mem_row.2 ⟨0, by omega, by simp⟩))
      exact this
    · obtain ⟨c0, c1, t0, t1⟩ := hcell i (by omega)
      obtain ⟨z0, e0⟩ := num _ _ t0
      obtain ⟨z1, e1⟩ := num _ _ t1
      rw [add_plain] at c0 c1
      have hg : ((List.range len).map fun i => (N (V0 i), N (V1 i))).getD i (0, 0) = (z0, z1) := by
        simp [List.getD_eq_getElem?_getD, hi, e0, e1, N]
      rw [hg]
      exact ⟨by rw [c0, e0], by rw [show off + i * 2 + 1 = off + (i * 2 + 1) from by omega, c1, e1]⟩
end Go.Proofs.Ytnenlnadmdlcfaa

/- Part: An argument that is a value (a number and a slice of edges). -/
namespace Go.Proofs.Ytnenlnadmdlcfaa
open Go.ChangeShapes Go.WideShapes Go.ChangeAt Go.RowKit Go.Deep Go.Joins

theorem Try.cells48 : Try.prog.cellsOf 48 = 2 := by kernel_rfl

set_option maxRecDepth 100000 in
theorem rd_of_trod {H : Type} {enc : TypeId × Value → H} {W : World} {v : Value} {d : DataW H} {p : List MemPlace} {fuel : Nat}
    (hf : DataW.trod enc Try.prog W 0 (fun _ => true) true fuel 46 [v] = some (d, p)) (hlt : ∀ x ∈ p, x.block < W.heap.size) : ∃ l, Rd W v l := by
  rcases open_slice_pairs Try.underlying46 Try.underlying112 Try.cells112 rfl rfl Try.cells3 Try.cells3 hf with ⟨hcs, _⟩ | ⟨a, len', cap', m, n, V0, V1, D0, D1, P0, P1, hcs, _, hlc, hcm, hm, hx, hcell⟩
  · simp at hcs
    subst hcs
    exact ⟨[], Rd.nil W none 0⟩
  · simp at hcs
    subst hcs
    simp only [if_true] at hm
    subst hm
    have num : ∀ (t : Value) (x : DataW H × List MemPlace), DataW.trod enc Try.prog W 0 (fun _ => true) true n 3 [t] = some x → ∃ z, t = .int .i64 z := by
      intro t x hx
      obtain ⟨z, hz, _⟩ := DataW.trod_int Try.underlying3 hx
      exact ⟨z, by simpa using hz⟩
    let N : Value → Int := fun t => match t with | .int _ z => z | _ => 0
    refine ⟨(List.range len').map fun i => (N (V0 i), N (V1 i)), some a, _, by simp; rfl, by simp only [List.length_map, List.length_range]; omega, fun h0 => ?_⟩
    simp only [List.length_map, List.length_range] at h0 ⊢
    obtain ⟨b, off, spot⟩ := a
    have hs : spot = none := by
      have := (hcell 0 (by omega)).1
      simpa [Addr.add] using World.cell?_spot this
    subst hs
    refine ⟨b, off, rfl, ?_, fun i hi => ?_⟩
    · simp only [Prod.mk.injEq] at hx
      have := hlt (.cell b off) (by rw [hx.2]; exact List.mem_append_left _ (MemPlace.mem_row.2 ⟨0, by omega, by simp⟩))
      exact this
    · obtain ⟨c0, c1, t0, t1⟩ := hcell i (by omega)
      obtain ⟨z0, e0⟩ := num _ _ t0
      obtain ⟨z1, e1⟩ := num _ _ t1
      rw [add_plain] at c0 c1
      have hg : ((List.range len').map fun i => (N (V0 i), N (V1 i))).getD i (0, 0) = (z0, z1) := by
        simp [List.getD_eq_getElem?_getD, hi, e0, e1, N]
      rw [hg]
      exact ⟨by rw [c0, e0], by rw [show off + i * 2 + 1 = off + (i * 2 + 1) from by omega, c1, e1]⟩

set_option maxRecDepth 100000 in
theorem val_of {H : Type} {enc : TypeId × Value → H} {W : World} {base : Nat} {v : Value} {d : DataW H} {p : List MemPlace} (hv : Value.okWide Try.prog W .any base 48 v)
    (h : DataW.Trod enc Try.prog W 0 (fun _ => true) true 48 v d p) (hlt : ∀ x ∈ p, x.block < W.heap.size) : ∃ n u l, v = .agg #[.int .i64 n, u] ∧ Rd W u l := by
  obtain ⟨v0, v1, y0, y1, n, rfl, rfl, rfl, h0, h1⟩ := open_agg2 Try.underlying48 (by kernel_rfl) Try.cells48 hv h
  obtain ⟨z, hz, _⟩ := DataW.trod_int Try.underlying3 h0
  have hz' : v0 = .int .i64 z := by simpa using hz
  obtain ⟨d1, p1⟩ := y1
  obtain ⟨l, hl⟩ := rd_of_trod h1 (fun x hx => hlt x (List.mem_append_right _ hx))
  exact ⟨z, v1, l, by rw [hz'], hl⟩
end Go.Proofs.Ytnenlnadmdlcfaa

/- Part: An argument's cells: numbers, then kin; lists of such. -/
namespace Go.Proofs.Ytnenlnadmdlcfaa
open Go.ChangeShapes Go.WideShapes Go.ChangeAt Go.RowKit Go.Deep Go.Joins

theorem Try.cells46' : Try.prog.cellsOf 46 = 1 := by kernel_rfl
/-- The cells of an element: its m numbers, then its kin. -/
def CellsK (W : World) (m : Nat) (kn : Bool) (cs : List Value) (x : KD) : Prop :=
  x.1.length = m ∧ ∃ us : List Value, cs = x.1.map (fun n => Value.int .i64 n) ++ us ∧ (kn = true → ∃ u, us = [u] ∧ Rd W u x.2) ∧ (kn = false → us = [] ∧ x.2 = [])
theorem CellsK.append {W : World} {m1 m2 : Nat} {kn : Bool} {cs1 cs2 : List Value} {x1 x2 : KD} (h1 : CellsK W m1 false cs1 x1) (h2 : CellsK W m2 kn cs2 x2) : CellsK W (m1 + m2) kn (cs1 ++ cs2) (x1.1 ++ x2.1, x2.2) := by
  obtain ⟨l1, us1, rfl, _, g1⟩ := h1
  obtain ⟨l2, us2, rfl, f2, g2⟩ := h2
  obtain ⟨rfl, _⟩ := g1 rfl
  exact ⟨by rw [List.length_append, l1, l2], us2, by simp, f2, g2⟩
theorem CellsK.at {W : World} {m : Nat} {kn : Bool} {cs : List Value} {x : KD} {b p : Nat} (h : CellsK W m kn cs x) (hc : ∀ j, j < cs.length → W.cell? ⟨b, p + j, none⟩ = cs[j]?) : AtK m kn W b p x := by
  obtain ⟨l, us, rfl, f, g⟩ := h
  refine ⟨l, fun j hj => ?_, fun hk => ?_, fun hk => (g hk).2⟩
  · rw [hc j (by simp; omega), List.getElem?_append_left (by simp; omega), List.getElem?_map, List.getElem?_eq_getElem (by omega)]
    simp [List.getD_eq_getElem?_getD, List.getElem?_eq_getElem (show j < x.1.length by omega)]
  · obtain ⟨u, rfl, hu⟩ := f hk
    exact ⟨u, by rw [hc m (by simp [l]), List.getElem?_append_right (by simp [l])]; simp [l], hu⟩
/-- Whatever is read by a type has such cells. -/
def ElemK {H : Type} (enc : TypeId × Value → H) (W : World) (t : TypeId) (m : Nat) (kn : Bool) : Prop :=
  ∀ (fuel : Nat) (cs : List Value) (d : DataW H) (p : List MemPlace), DataW.trod enc Try.prog W 0 (fun _ => true) true fuel t cs = some (d, p) → (∀ x ∈ p, x.block < W.heap.size) → ∃ x, CellsK W m kn cs x
theorem elem_int {H : Type} (enc : TypeId × Value → H) (W : World) : ElemK enc W 3 1 false := by
  intro fuel cs d p h _
  obtain ⟨z, hz, _⟩ := DataW.trod_int Try.underlying3 h
  exact ⟨([z], []), rfl, [], by simpa using hz, fun q => (by cases q), fun _ => ⟨rfl, rfl⟩⟩
theorem elem_kin {H : Type} (enc : TypeId × Value → H) (W : World) : ElemK enc W 46 0 true := by
  intro fuel cs d p h hlt
  have : ∃ v, cs = [v] := by
    rcases open_slice Try.underlying46 h with ⟨hc, _⟩ | ⟨a, len, cap, _, _, _, _, hc, _⟩
    · exact ⟨_, hc⟩
    · exact ⟨_, hc⟩
  obtain ⟨v, rfl⟩ := this
  obtain ⟨l, hl⟩ := rd_of_trod h hlt
  exact ⟨([], l), rfl, [v], rfl, fun _ => ⟨v, rfl, hl⟩, fun q => (by cases q)⟩

set_option maxRecDepth 100000 in
theorem rdM_of_trod {H : Type} {enc : TypeId × Value → H} {W : World} {v : Value} {d : DataW H} {p : List MemPlace} {fuel : Nat} {t e : TypeId} {sz m : Nat} {kn : Bool} (ht : Try.prog.underlying t = some (.slice e)) (hce : Try.prog.cellsOf e = sz) (hsz : 0 < sz) (he : ElemK enc W e m kn)
    (hf : DataW.trod enc Try.prog W 0 (fun _ => true) true fuel t [v] = some (d, p)) (hlt : ∀ x ∈ p, x.block < W.heap.size) : ∃ L, RdM sz m kn W v L := by
  rcases open_slice ht hf with ⟨hcs, _⟩ | ⟨a, len, cap, mm, n, D, Pl, hcs, _, hl, hm, hmm, hx, hcell⟩
  · simp at hcs
    subst hcs
    exact ⟨[], RdM.nil W none 0⟩
  · simp at hcs
    subst hcs
    simp only [if_true] at hmm
    subst hmm
    simp only [Prod.mk.injEq] at hx
    rw [hce] at hcell hx
    have each : ∀ i, i < mm → ∃ q : List Value × KD, W.cells? 0 (a.add (i * sz)) sz = some q.1 ∧ CellsK W m kn q.1 q.2 := by
      intro i hi
      obtain ⟨cs', h1, h2⟩ := hcell i hi
      obtain ⟨x, hxk⟩ := he n cs' (D i) (Pl i) h2 (fun x hx1 => hlt x (by
        rw [hx.2]
        exact List.mem_append_right _ (List.mem_flatMap.2 ⟨i, List.mem_range.2 hi, hx1⟩)))
      exact ⟨(cs', x), h1, hxk⟩
    let N : Nat → KD := fun i => if h : i < mm then (each i h).choose.2 else kd0
    refine ⟨(List.range len).map N, some a, mm, by simp, by simp only [List.length_map, List.length_range]; omega, fun h0 => ?_⟩
    simp only [List.length_map, List.length_range] at h0 ⊢
    have hfirst : ∃ u, W.cell? (a.add (0 * sz)) = some u := by
      obtain ⟨cs', h1, _⟩ := hcell 0 (by omega)
      obtain ⟨_, hlen, hcc⟩ := World.cells?_some h1
      have := hcc 0 hsz
      refine ⟨cs'[0]'(by omega), ?_⟩
      rw [add_add, Nat.add_zero] at this
      rw [this]
      simp [List.getElem?_eq_getElem (show 0 < cs'.length by omega)]
    obtain ⟨b, off, spot⟩ := a
    have hs : spot = none := by
      obtain ⟨u, hu⟩ := hfirst
      simpa [Addr.add] using World.cell?_spot hu
    subst hs
    refine ⟨b, off, rfl, ?_, fun i hi => ?_⟩
    · have := hlt (.cell b off) (by rw [hx.2]; exact List.mem_append_left _ (MemPlace.mem_row.2 ⟨0, Nat.mul_pos (by omega) hsz, by simp⟩))
      exact this
    · have hg : ((List.range len).map N).getD i kd0 = N i := by
        simp [List.getD_eq_getElem?_getD, hi]
      rw [hg]
      have hi' : i < mm := by omega
      obtain ⟨h1, h2⟩ := (each i hi').choose_spec
      have hN : N i = (each i hi').choose.2 := by simp only [N, dif_pos hi']
      rw [hN]
      obtain ⟨_, hlen, hcc⟩ := World.cells?_some h1
      refine h2.at fun j hj => ?_
      have e : (((⟨b, off, none⟩ : Addr).add (i * sz)).add j) = ⟨b, off + i * sz + j, none⟩ := by rw [add_plain, add_plain]
      exact (congrArg W.cell? e).symm.trans (hcc j (by omega))
end Go.Proofs.Ytnenlnadmdlcfaa

/- Part: An argument that is a Cache. Written by a program (gopen.py). -/
namespace Go.Proofs.Ytnenlnadmdlcfaa
open Go.ChangeShapes Go.WideShapes Go.ChangeAt Go.RowKit Go.Deep Go.Joins

theorem Try.cells_Val : Try.prog.cellsOf 48 = 2 := by kernel_rfl
set_option maxRecDepth 100000 in
theorem elem_Val {H : Type} (enc : TypeId × Value → H) (W : World) : ElemK enc W 48 1 true := by
  intro fuel cs d p h hlt
  obtain ⟨xs, n, _, hx, hl, hxl, hff⟩ := DataW.trod_struct Try.underlying48 h
  rw [Try.cells_Val] at hl
  simp only [Prod.mk.injEq] at hx
  match xs, hxl, hx, hff with
  | [(d0, q0), (d1, q1)], _, hx, hff =>
    have h0 : DataW.trod enc Try.prog W 0 (fun _ => true) true n 3 ((cs.drop 0).take 1) = some (d0, q0) := by
      have h := hff 0 _ rfl
      first | exact h | (rw [Try.cells3] at h; exact h)
    obtain ⟨x0, k0⟩ := elem_int enc W _ _ _ _ h0 (fun x hx1 => hlt x (by rw [hx.2]; simp only [List.flatMap_cons, List.flatMap_nil, List.mem_append]; exact Or.inl hx1))
    have h1 : DataW.trod enc Try.prog W 0 (fun _ => true) true n 46 ((cs.drop 1).take 1) = some (d1, q1) := by
      have h := hff 1 _ rfl
      first | exact h | (rw [Try.cells46'] at h; exact h)
    obtain ⟨x1, k1⟩ := elem_kin enc W _ _ _ _ h1 (fun x hx1 => hlt x (by rw [hx.2]; simp only [List.flatMap_cons, List.flatMap_nil, List.mem_append]; exact Or.inr (Or.inl hx1)))
    have e : cs = (cs.drop 0).take 1 ++ ((cs.drop 1).take 1) := by
      match cs, hl with
      | [z0, z1], _ => rfl
    have k := (k0.append k1)
    rw [← e] at k
    exact ⟨_, k⟩
theorem Try.cells_Item : Try.prog.cellsOf 50 = 4 := by kernel_rfl
set_option maxRecDepth 100000 in
theorem elem_Item {H : Type} (enc : TypeId × Value → H) (W : World) : ElemK enc W 50 3 true := by
  intro fuel cs d p h hlt
  obtain ⟨xs, n, _, hx, hl, hxl, hff⟩ := DataW.trod_struct Try.underlying50 h
  rw [Try.cells_Item] at hl
  simp only [Prod.mk.injEq] at hx
  match xs, hxl, hx, hff with
  | [(d0, q0), (d1, q1), (d2, q2)], _, hx, hff =>
    have h0 : DataW.trod enc Try.prog W 0 (fun _ => true) true n 3 ((cs.drop 0).take 1) = some (d0, q0) := by
      have h := hff 0 _ rfl
      first | exact h | (rw [Try.cells3] at h; exact h)
    obtain ⟨x0, k0⟩ := elem_int enc W _ _ _ _ h0 (fun x hx1 => hlt x (by rw [hx.2]; simp only [List.flatMap_cons, List.flatMap_nil, List.mem_append]; exact Or.inl hx1))
    have h1 : DataW.trod enc Try.prog W 0 (fun _ => true) true n 3 ((cs.drop 1).take 1) = some (d1, q1) := by
      have h := hff 1 _ rfl
      first | exact h | (rw [Try.cells3] at h; exact h)
    obtain ⟨x1, k1⟩ := elem_int enc W _ _ _ _ h1 (fun x hx1 => hlt x (by rw [hx.2]; simp only [List.flatMap_cons, List.flatMap_nil, List.mem_append]; exact Or.inr (Or.inl hx1)))
    have h2 : DataW.trod enc Try.prog W 0 (fun _ => true) true n 48 ((cs.drop 2).take 2) = some (d2, q2) := by
      have h := hff 2 _ rfl
      first | exact h | (rw [Try.cells_Val] at h; exact h)
    obtain ⟨x2, k2⟩ := elem_Val enc W _ _ _ _ h2 (fun x hx1 => hlt x (by rw [hx.2]; simp only [List.flatMap_cons, List.flatMap_nil, List.mem_append]; exact Or.inr (Or.inr (Or.inl hx1))))
    have e : cs = (cs.drop 0).take 1 ++ ((cs.drop 1).take 1 ++ ((cs.drop 2).take 2)) := by
      match cs, hl with
      | [z0, z1, z2, z3], _ => rfl
    have k := (k0.append (k1.append k2))
    rw [← e] at k
    exact ⟨_, k⟩
theorem Try.cellsL_Item : Try.prog.cellsOf 22 = 1 := by kernel_rfl
theorem Try.cellsL_int : Try.prog.cellsOf 23 = 1 := by kernel_rfl
theorem Try.cells_Cache : Try.prog.cellsOf 25 = 2 := by kernel_rfl
set_option maxRecDepth 100000 in
theorem cache_of {H : Type} {enc : TypeId × Value → H} {W : World} {base : Nat} {v : Value} {d : DataW H} {p : List MemPlace} (hv : Value.okWide Try.prog W .any base 25 v)
    (h : DataW.Trod enc Try.prog W 0 (fun _ => true) true 25 v d p) (hlt : ∀ x ∈ p, x.block < W.heap.size) : ∃ (u0 u1 : Value) (L0 L1 : List KD), v = .agg #[u0, u1] ∧ RSCache W u0 u1 L0 L1 := by
  obtain ⟨cs, rfl, hsz⟩ := okWide_struct Try.underlying25 hv
  rw [Try.cells_Cache] at hsz
  obtain ⟨z0, z1, rfl⟩ : ∃ z0 z1, cs = #[z0, z1] := by
    obtain ⟨l⟩ := cs
    match l, hsz with
    | [z0, z1], _ => exact ⟨z0, z1, rfl⟩
  obtain ⟨fuel, hf⟩ := h
  obtain ⟨xs, n, _, hx, _, hxl, hff⟩ := DataW.trod_struct Try.underlying25 hf
  simp only [Prod.mk.injEq] at hx
  match xs, hxl, hx, hff with
  | [(d0, q0), (d1, q1)], _, hx, hff =>
    have h0 := hff 0 _ rfl
    simp [Value.cells, Try.cellsL_Item] at h0
    obtain ⟨L0, hL0⟩ := rdM_of_trod (sz := 4) (m := 3) (kn := true) Try.underlying22 Try.cells_Item (by decide) (elem_Item enc W) h0 (fun x hx1 => hlt x (by rw [hx.2]; simp only [List.flatMap_cons, List.flatMap_nil, List.mem_append]; exact Or.inl hx1))
    have h1 := hff 1 _ rfl
    simp [Value.cells, Try.cellsL_int] at h1
    obtain ⟨L1, hL1⟩ := rdM_of_trod (sz := 1) (m := 1) (kn := false) Try.underlying23 Try.cells3 (by decide) (elem_int enc W) h1 (fun x hx1 => hlt x (by rw [hx.2]; simp only [List.flatMap_cons, List.flatMap_nil, List.mem_append]; exact Or.inr (Or.inl hx1)))
    exact ⟨z0, z1, L0, L1, rfl, ⟨hL0, hL1⟩⟩
end Go.Proofs.Ytnenlnadmdlcfaa

/- Part: What every row here asks of the program: two closed facts. -/
namespace Go.Proofs.Ytnenlnadmdlcfaa
open Go.ChangeShapes Go.WideShapes Go.ChangeAt Go.RowKit
end Go.Proofs.Ytnenlnadmdlcfaa

/- Part: Proved here: FnExactCacheGet returns true for every cache and every key (no condition); what it was handed reads as before. -/
namespace Go.Proofs.Ytnenlnadmdlcfaa
open Go.ChangeShapes Go.WideShapes Go.ChangeAt Go.RowKit

set_option maxRecDepth 100000 in
theorem cGet_lifted (os : Os) (started : os.Started) (H : Type) (enc : TypeId × Value → H) :
    ReturnsInHanded {} Try.checked os 3 .any (Rows.fnExactCacheGetSpec.pre6 enc Try.prog Try.f3 Rows.fnExactCacheGetRow.domain false) (Rows.fnExactCacheGetSpec.post enc Try.prog Try.f3 false true false false) := by
  refine returnsInHanded_of_change (C := Try.checked) Try.own started (by kernel_rfl) Try.func3
    (ChangeSpec.witness6 (enc := enc) (C := Try.checked) false ⟨#[], #[.agg #[.slice none 0 0, .slice none 0 0], .int .i64 0], []⟩ 8 (by kernel_rfl) (by kernel_rfl) (by kernel_rfl) (by kernel_rfl)) ?_
  intro W base args ds gs before hval0 hW _ _
  have hval : ∀ (j : Nat) t v, Try.f3.params[j]? = some t → args[j]? = some v → Value.okWide Try.prog W .any base t v := hval0
  have hW' := hW
  obtain ⟨p, q, hA0, hV, rfl, _, _⟩ := hW
  have hA : DataW.TrodAll enc Try.prog W 0 (fun _ => true) true Try.f3.params.toList args.toList ds p := hA0
  rw [Try.params3] at hA hval
  obtain ⟨v0, v1, d0, d1, p0, p1, rfl, rfl, rfl, h0, h1⟩ := trodAll_two hA
  obtain ⟨rfl, rfl⟩ := trodVars_none hV
  obtain ⟨n1, rfl, rfl, rfl, wn1⟩ := open_int Try.underlying3 (hval 1 3 v1 rfl rfl) h1
  clear hA0 hval0
  simp only [List.append_nil] at hW'
  have hlt0 : ∀ x ∈ p0, x.block < W.heap.size := fun x hx => by have := hW'.lt x (by first | exact hx | (simp; first | exact hx | exact Or.inl hx | exact Or.inr hx | exact Or.inr (Or.inl hx))); exact this
  obtain ⟨u0_0, u0_1, l0_0, l0_1, ev0, hl0⟩ := cache_of (hval 0 25 v0 rfl rfl) h0 hlt0
  have hargs0 : ∀ (W' : World), Below W.heap.size W W' → DataW.Trod enc Try.prog W' 0 (fun b => decide (b < W.heap.size)) true 25 v0 d0 p0 :=
    fun W' hn => Below.trod Try.laidOut (by kernel_rfl) (of_decide_eq_true (by kernel_rfl)) h0 hn hlt0
  subst ev0
  refine (lawCGet_any u0_0 u0_1 l0_0 l0_1 n1 W hl0).mono fun e W' ⟨he, hnx⟩ => ?_
  subst he
  exact ⟨_, rfl, _, _, _, [], p0 ++ ([]), [], hW', trodAll_mk1 (shut_bool Try.underlying4 _), trodAll_mk2 (hargs0 _ hnx) (shut_int Try.underlying3 wn1), rfl, hnx.frame _, fun h => by cases h⟩

theorem cGet_holds : Rows.FnExactCacheGetSaid :=
  OpenClaim.holds_of_wide 3 Try.f3 rfl rfl rfl rfl rfl rfl rfl ⟨rfl, rfl, rfl, rfl, rfl⟩ rfl rfl rfl rfl rfl (by kernel_rfl) Try.func3 (by kernel_rfl)
    (of_decide_eq_true (by kernel_rfl)) (by unfold Func.isWrapper; first | (rw [if_pos (by decide +kernel)]; kernel_rfl) | (rw [if_neg (by decide +kernel)]; exact ⟨rfl, rfl⟩))
    (fun os started H enc _ => cGet_lifted os started H enc)
#print axioms cGet_holds

end Go.Proofs.Ytnenlnadmdlcfaa
