/- impl.CacheGet: contract; what CacheGet answers, plainly. -/
import Derived.Test.YtilbaiohcfhcaaaXl
import Derived.Test.YtilbaiohcfhcaaaXm
import Derived.Laws.ResultCell
namespace Go.Proofs.Ytilbaiohcfhcaaa
open Go.RowKit
attribute [local go_sem ↓] Go.wp_at_zero Go.wp_at_succ
attribute [local go_sem ↓] ldQ_open stQ_open ldH_open stH_open zeroH

/-- The item that CacheGet answers, if there is one; its parts. -/
def ansG (I F : List KD) (key : Int) : Option KD := if okC I F = true then I.find? (fun x => keyK x == key) else none
def gk : Option KD → Int
  | some x => keyK x
  | none => 0
def gv : Option KD → Int
  | some x => verK x
  | none => 0
def gn : Option KD → Int
  | some x => numK x
  | none => 0
def gl : Option KD → List (Int × Int)
  | some x => x.2
  | none => []
def gb : Option KD → Bool
  | some _ => true
  | none => false
theorem itemsX_get {I : List KD} (h : I.length ≤ 4) (k : Nat) (hk : k < 4) : (itemsX I).getD k none = I[k]? := by
  match I, h with
  | [], _ => obtain rfl | rfl | rfl | rfl : k = 0 ∨ k = 1 ∨ k = 2 ∨ k = 3 := by omega
             all_goals rfl
  | [a], _ => obtain rfl | rfl | rfl | rfl : k = 0 ∨ k = 1 ∨ k = 2 ∨ k = 3 := by omega
              all_goals rfl
  | [a, b], _ => obtain rfl | rfl | rfl | rfl : k = 0 ∨ k = 1 ∨ k = 2 ∨ k = 3 := by omega
                 all_goals rfl
  | [a, b, c], _ => obtain rfl | rfl | rfl | rfl : k = 0 ∨ k = 1 ∨ k = 2 ∨ k = 3 := by omega
                    all_goals rfl
  | [a, b, c, d], _ => obtain rfl | rfl | rfl | rfl : k = 0 ∨ k = 1 ∨ k = 2 ∨ k = 3 := by omega
                       all_goals rfl
theorem found_items {I : List KD} {key : Int} {k : Nat} (h : I.length ≤ 4) (hf : FoundX key (itemsX I) k) : ∃ x, (itemsX I).getD k none = some x ∧ x ∈ I ∧ I.find? (fun x => keyK x == key) = some x := by
  obtain ⟨h4, hk, hn⟩ := hf
  rw [itemsX_get h k h4] at hk ⊢
  cases hx : I[k]? with
  | none => rw [hx] at hk; cases hk
  | some x =>
    rw [hx] at hk
    obtain ⟨hlt, rfl⟩ := List.getElem?_eq_some_iff.1 hx
    refine ⟨_, rfl, List.getElem_mem hlt, List.find?_eq_some_iff_getElem.2 ⟨hk, k, hlt, rfl, fun j hj => ?_⟩⟩
    have := hn j hj
    rw [itemsX_get h j (by omega), List.getElem?_eq_getElem (by omega)] at this
    simpa [hasK] using this
theorem none_items {I : List KD} {key : Int} (h : I.length ≤ 4) (hf : NoneX key (itemsX I) 4) : I.find? (fun x => keyK x == key) = none := by
  rw [List.find?_eq_none]
  intro x hx
  obtain ⟨i, hi, rfl⟩ := List.getElem_of_mem hx
  have := hf i (by omega)
  rw [itemsX_get h i (by omega), List.getElem?_eq_getElem hi] at this
  simpa [hasK] using this
theorem okV_le {k n : Int} {l : List (Int × Int)} (h : okV k n l = true) : l.length ≤ 8 := by
  by_cases hk : 0 ≤ k ∧ k < 24
  · by_cases h8 : k / 8 = 0
    · by_cases hn : 0 ≤ n ∧ n ≤ 1000000
      · rw [okV_numD hk.1 hk.2 h8 hn.1 hn.2] at h
        have : (l.length : Int) = 0 := by simpa using h
        omega
      · rw [okV_numNo hk.1 hk.2 h8 hn] at h; cases h
    · rw [okV_kin hk.1 hk.2 h8, Bool.and_eq_true] at h
      exact okL_le h.2
  · rw [okV_out hk] at h; cases h
theorem okC_small {I F : List KD} (h : okC I F = true) : I.length ≤ 4 ∧ ∀ x ∈ I, x.2.length ≤ 8 := by
  have h := okC_iff.1 h
  refine ⟨h.2.1, fun x hx => ?_⟩
  obtain ⟨i, hi, rfl⟩ := List.getElem_of_mem hx
  have := (h.2.2.2 i hi).1
  rw [getD_at hi] at this
  unfold rightK itR at this
  rw [Bool.and_eq_true] at this
  exact okV_le this.2
set_option maxRecDepth 100000 in
set_option maxHeartbeats 4000000 in
theorem implGet_any (v0 v1 : Value) (I F : List KD) (key : Int) (w : World) (h0 : RdM 4 3 true w v0 I) (h1 : RdM 1 1 false w v1 F) {o : Option KD} (ho : ansG I F key = o) :
    Calls Try.prog 10 #[.agg #[v0, v1], .int .i64 key] w fun e w' =>
      (∃ (a : Option Addr) (c : Nat), e = .returned (.tuple #[.agg #[.int .i64 (gk o), .int .i64 (gv o), .int .i64 (gn o), .slice a (gl o).length c], .bool (gb o)]) ∧ Own w' w.heap.size (.slice a (gl o).length c) (gl o)) ∧ Below w.heap.size w w' := by
  have H0 := hid h0
  have H1 := hid h1
  obtain ⟨ai, ci, rfl, hq0, hq1⟩ := h0
  obtain ⟨af, cf, rfl, hq2, hq3⟩ := h1
  have HL3 : Hid (∀ x ∈ I, x.1.length = 3) := hid (fun x hx => by
    obtain ⟨i, hi, rfl⟩ := List.getElem_of_mem hx
    obtain ⟨_, _, _, _, hat⟩ := hq1 (by omega)
    have := (hat i hi).len
    rwa [getD_at hi] at this)
  clear hq0 hq1 hq2 hq3
  go_enter Try.func10, Try.ntmps10
  go_wp2_with fail
  generalize hW1 : ((w.alloc (.cells #[.slice ai I.length ci, .slice af F.length cf] 26)).alloc (.cells #[.int .i64 0, .int .i64 0, .int .i64 0, .slice none 0 0] 31)) = w1
  have a0_1 : w1.cell? ⟨w.heap.size, 0, none⟩ = some (.slice ai I.length ci) := by subst hW1; go_cell
  have a1_1 : w1.cell? ⟨w.heap.size, 1, none⟩ = some (.slice af F.length cf) := by subst hW1; go_cell
  have al_1 : w.heap.size < w1.heap.size := by subst hW1; first | (simp; done) | (simp; omega)
  have r0_1 : w1.cell? ⟨w.heap.size + 1, 0, none⟩ = some (.int .i64 0) := by subst hW1; go_cell
  have rf0_1 : w1.frozen? ⟨w.heap.size + 1, 0, none⟩ = false := by subst hW1; (first | go_cell | (simp [World.frozen?, World.alloc]; done) | rfl)
  have r1_1 : w1.cell? ⟨w.heap.size + 1, 1, none⟩ = some (.int .i64 0) := by subst hW1; go_cell
  have rf1_1 : w1.frozen? ⟨w.heap.size + 1, 1, none⟩ = false := by subst hW1; (first | go_cell | (simp [World.frozen?, World.alloc]; done) | rfl)
  have r2_1 : w1.cell? ⟨w.heap.size + 1, 2, none⟩ = some (.int .i64 0) := by subst hW1; go_cell
  have rf2_1 : w1.frozen? ⟨w.heap.size + 1, 2, none⟩ = false := by subst hW1; (first | go_cell | (simp [World.frozen?, World.alloc]; done) | rfl)
  have r3_1 : w1.cell? ⟨w.heap.size + 1, 3, none⟩ = some (.slice none 0 0) := by subst hW1; go_cell
  have rf3_1 : w1.frozen? ⟨w.heap.size + 1, 3, none⟩ = false := by subst hW1; (first | go_cell | (simp [World.frozen?, World.alloc]; done) | rfl)
  have rl_1 : w.heap.size + 1 < w1.heap.size := by subst hW1; first | (simp; done) | (simp; omega)
  have c1 : Below w.heap.size w w1 := by subst hW1; go_grown
  have s1 : w1.heap.size = w.heap.size + 2 := by subst hW1; simp
  clear hW1
  have qa0_1 := cell_regrown a0_1
  have qa1_1 := cell_regrown a1_1
  have qr0_1 := cell_regrown r0_1
  have qr1_1 := cell_regrown r1_1
  have qr2_1 := cell_regrown r2_1
  have qr3_1 := cell_regrown r3_1
  refine (shelfOf_any _ _ I F _ (H0.out.later c1) (H1.out.later c1)).mono ?_
  rintro e w2 ⟨⟨X, G, hx, hg, rfl, hc⟩, b2⟩
  obtain ⟨w3, hst, h3, o3, s3⟩ := stH_at (shAt_of emptyX_length zeroF_length (heap_alloc_new w2 (.cells (cellsH emptyX zeroF).toArray 59))) hx hg
  have B3 : Below w1.heap.size w1 w3 := (b2.alloc b2.size (.cells (cellsH emptyX zeroF).toArray 59)).trans (o3.below (fun k hk => by have := b2.size; omega) (by have := b2.size; simp; omega))
  have H3 := hid h3
  clear h3 o3 s3 b2
  go_wp2_with fail
  clear hst
  refine (findX_any w2.heap.size fr0 X G key _ H3.out).mono ?_
  rintro e w4 ⟨he, b4⟩
  have H4 := hid (H3.out.later b4)
  have B4 := B3.trans (b4.mono B3.size)
  have r0_4 := (B4.cell (p := ⟨w.heap.size + 1, 0, none⟩) rl_1).trans r0_1
  have rf0_4 := (B4.frozen (p := ⟨w.heap.size + 1, 0, none⟩) rl_1).trans rf0_1
  have r1_4 := (B4.cell (p := ⟨w.heap.size + 1, 1, none⟩) rl_1).trans r1_1
  have rf1_4 := (B4.frozen (p := ⟨w.heap.size + 1, 1, none⟩) rl_1).trans rf1_1
  have r2_4 := (B4.cell (p := ⟨w.heap.size + 1, 2, none⟩) rl_1).trans r2_1
  have rf2_4 := (B4.frozen (p := ⟨w.heap.size + 1, 2, none⟩) rl_1).trans rf2_1
  have r3_4 := (B4.cell (p := ⟨w.heap.size + 1, 3, none⟩) rl_1).trans r3_1
  have rf3_4 := (B4.frozen (p := ⟨w.heap.size + 1, 3, none⟩) rl_1).trans rf3_1
  have rl_4 : w.heap.size + 1 < w4.heap.size := Nat.lt_of_lt_of_le rl_1 B4.size
  have C4 := hid (c1.trans (B4.mono c1.size))
  clear r0_1 r1_1 r2_1 r3_1 rf0_1 rf1_1 rf2_1 rf3_1 a0_1 a1_1 qa0_1 qa1_1 qr0_1 qr1_1 qr2_1 qr3_1 b4 B3 B4 c1 H3
  cases hok : okC I F with
  | false =>
    rcases he with ⟨k, rfl, _⟩ | ⟨rfl, _⟩
    · obtain rfl : o = none := by rw [← ho, ansG, hok]; rfl
      go_wp2_with fail
      have e0 : ((((w4.setCell ⟨w.heap.size + 1, 0, none⟩ (.int .i64 0)).setCell ⟨w.heap.size + 1, 1, none⟩ (.int .i64 0)).setCell ⟨w.heap.size + 1, 2, none⟩ (.int .i64 0)).setCell ⟨w.heap.size + 1, 3, none⟩ (.slice none 0 0)).cell? ⟨w.heap.size + 1, 0, none⟩ = some (.int .i64 0) := by go_cell
      have e1 : ((((w4.setCell ⟨w.heap.size + 1, 0, none⟩ (.int .i64 0)).setCell ⟨w.heap.size + 1, 1, none⟩ (.int .i64 0)).setCell ⟨w.heap.size + 1, 2, none⟩ (.int .i64 0)).setCell ⟨w.heap.size + 1, 3, none⟩ (.slice none 0 0)).cell? ⟨w.heap.size + 1, 1, none⟩ = some (.int .i64 0) := by go_cell
      have e2 : ((((w4.setCell ⟨w.heap.size + 1, 0, none⟩ (.int .i64 0)).setCell ⟨w.heap.size + 1, 1, none⟩ (.int .i64 0)).setCell ⟨w.heap.size + 1, 2, none⟩ (.int .i64 0)).setCell ⟨w.heap.size + 1, 3, none⟩ (.slice none 0 0)).cell? ⟨w.heap.size + 1, 2, none⟩ = some (.int .i64 0) := by go_cell
      have e3 : ((((w4.setCell ⟨w.heap.size + 1, 0, none⟩ (.int .i64 0)).setCell ⟨w.heap.size + 1, 1, none⟩ (.int .i64 0)).setCell ⟨w.heap.size + 1, 2, none⟩ (.int .i64 0)).setCell ⟨w.heap.size + 1, 3, none⟩ (.slice none 0 0)).cell? ⟨w.heap.size + 1, 3, none⟩ = some (.slice none 0 0) := by go_cell
      refine bodyPost_ret (v := .tuple #[.agg #[.int .i64 0, .int .i64 0, .int .i64 0, .slice none 0 0], .bool false]) ?_ rfl ⟨⟨none, 0, rfl, World.ownsRow_nil _ _ _ _⟩, ((((C4.out.setCell (p := ⟨w.heap.size + 1, 0, none⟩) (by show w.heap.size ≤ w.heap.size + 1; omega) (.int .i64 0)).setCell (p := ⟨w.heap.size + 1, 1, none⟩) (by show w.heap.size ≤ w.heap.size + 1; omega) (.int .i64 0)).setCell (p := ⟨w.heap.size + 1, 2, none⟩) (by show w.heap.size ≤ w.heap.size + 1; omega) (.int .i64 0)).setCell (p := ⟨w.heap.size + 1, 3, none⟩) (by show w.heap.size ≤ w.heap.size + 1; omega) (.slice none 0 0))⟩
      simp [results, Try.results10, go_sem, e0, e1, e2, e3]
    · obtain rfl : o = none := by rw [← ho, ansG, hok]; rfl
      go_wp2_with fail
      have e0 : ((((w4.setCell ⟨w.heap.size + 1, 0, none⟩ (.int .i64 0)).setCell ⟨w.heap.size + 1, 1, none⟩ (.int .i64 0)).setCell ⟨w.heap.size + 1, 2, none⟩ (.int .i64 0)).setCell ⟨w.heap.size + 1, 3, none⟩ (.slice none 0 0)).cell? ⟨w.heap.size + 1, 0, none⟩ = some (.int .i64 0) := by go_cell
      have e1 : ((((w4.setCell ⟨w.heap.size + 1, 0, none⟩ (.int .i64 0)).setCell ⟨w.heap.size + 1, 1, none⟩ (.int .i64 0)).setCell ⟨w.heap.size + 1, 2, none⟩ (.int .i64 0)).setCell ⟨w.heap.size + 1, 3, none⟩ (.slice none 0 0)).cell? ⟨w.heap.size + 1, 1, none⟩ = some (.int .i64 0) := by go_cell
      have e2 : ((((w4.setCell ⟨w.heap.size + 1, 0, none⟩ (.int .i64 0)).setCell ⟨w.heap.size + 1, 1, none⟩ (.int .i64 0)).setCell ⟨w.heap.size + 1, 2, none⟩ (.int .i64 0)).setCell ⟨w.heap.size + 1, 3, none⟩ (.slice none 0 0)).cell? ⟨w.heap.size + 1, 2, none⟩ = some (.int .i64 0) := by go_cell
      have e3 : ((((w4.setCell ⟨w.heap.size + 1, 0, none⟩ (.int .i64 0)).setCell ⟨w.heap.size + 1, 1, none⟩ (.int .i64 0)).setCell ⟨w.heap.size + 1, 2, none⟩ (.int .i64 0)).setCell ⟨w.heap.size + 1, 3, none⟩ (.slice none 0 0)).cell? ⟨w.heap.size + 1, 3, none⟩ = some (.slice none 0 0) := by go_cell
      refine bodyPost_ret (v := .tuple #[.agg #[.int .i64 0, .int .i64 0, .int .i64 0, .slice none 0 0], .bool false]) ?_ rfl ⟨⟨none, 0, rfl, World.ownsRow_nil _ _ _ _⟩, ((((C4.out.setCell (p := ⟨w.heap.size + 1, 0, none⟩) (by show w.heap.size ≤ w.heap.size + 1; omega) (.int .i64 0)).setCell (p := ⟨w.heap.size + 1, 1, none⟩) (by show w.heap.size ≤ w.heap.size + 1; omega) (.int .i64 0)).setCell (p := ⟨w.heap.size + 1, 2, none⟩) (by show w.heap.size ≤ w.heap.size + 1; omega) (.int .i64 0)).setCell (p := ⟨w.heap.size + 1, 3, none⟩) (by show w.heap.size ≤ w.heap.size + 1; omega) (.slice none 0 0))⟩
      simp [results, Try.results10, go_sem, e0, e1, e2, e3]
  | true =>
    obtain ⟨rfl, rfl⟩ := hc hok
    obtain ⟨hl4, hl8⟩ := okC_small hok
    rcases he with ⟨k, rfl, hf⟩ | ⟨rfl, hn⟩
    · obtain ⟨x, hx, hxI, hfi⟩ := found_items hl4 hf
      have HFI := hid hfi
      obtain rfl : o = some x := by rw [← ho, ansG, hok, if_pos rfl]; exact HFI.out
      have HL8 : Hid (x.2.length ≤ 8) := hid (hl8 x hxI)
      have HK3 := hid (kd3 (HL3.out x hxI))
      have hld := ldQ_at H4.out k hf.1
      rw [hx] at hld
      have hld' : (ldQ (.pointer (some ⟨w2.heap.size, k * 21, none⟩))).run Try.prog w4 = .ok (.agg (spotC true (keyK x) (verK x) (numK x) x.2).toArray) w4 := by
        rw [show (fr0 : Fr).pre.length + k * 21 = k * 21 from by simp] at hld
        exact hld
      have hk4 : k < 4 := hf.1
      have hki : (k : Int) < 4 := by omega
      clear hld hx hxI hf hfi ho hc hl8
      go_wp2_with fail
      refine (spotTold_any _ _ _ x.2 _ HL8.out).mono ?_
      rintro e w5 ⟨⟨a, c, rfl, ho5⟩, b5⟩
      have r0_5 := (b5.cell (p := ⟨w.heap.size + 1, 0, none⟩) rl_4).trans r0_4
      have rf0_5 := (b5.frozen (p := ⟨w.heap.size + 1, 0, none⟩) rl_4).trans rf0_4
      have r1_5 := (b5.cell (p := ⟨w.heap.size + 1, 1, none⟩) rl_4).trans r1_4
      have rf1_5 := (b5.frozen (p := ⟨w.heap.size + 1, 1, none⟩) rl_4).trans rf1_4
      have r2_5 := (b5.cell (p := ⟨w.heap.size + 1, 2, none⟩) rl_4).trans r2_4
      have rf2_5 := (b5.frozen (p := ⟨w.heap.size + 1, 2, none⟩) rl_4).trans rf2_4
      have r3_5 := (b5.cell (p := ⟨w.heap.size + 1, 3, none⟩) rl_4).trans r3_4
      have rf3_5 := (b5.frozen (p := ⟨w.heap.size + 1, 3, none⟩) rl_4).trans rf3_4
      have HO5 := hid ho5
      have C5 := hid (C4.out.trans (b5.mono C4.out.size))
      clear b5 ho5 hld'
      go_wp2_with fail
      have e0 : ((((w5.setCell ⟨w.heap.size + 1, 0, none⟩ (.int .i64 (keyK x))).setCell ⟨w.heap.size + 1, 1, none⟩ (.int .i64 (verK x))).setCell ⟨w.heap.size + 1, 2, none⟩ (.int .i64 (numK x))).setCell ⟨w.heap.size + 1, 3, none⟩ (.slice a x.2.length c)).cell? ⟨w.heap.size + 1, 0, none⟩ = some (.int .i64 (keyK x)) := by go_cell
      have e1 : ((((w5.setCell ⟨w.heap.size + 1, 0, none⟩ (.int .i64 (keyK x))).setCell ⟨w.heap.size + 1, 1, none⟩ (.int .i64 (verK x))).setCell ⟨w.heap.size + 1, 2, none⟩ (.int .i64 (numK x))).setCell ⟨w.heap.size + 1, 3, none⟩ (.slice a x.2.length c)).cell? ⟨w.heap.size + 1, 1, none⟩ = some (.int .i64 (verK x)) := by go_cell
      have e2 : ((((w5.setCell ⟨w.heap.size + 1, 0, none⟩ (.int .i64 (keyK x))).setCell ⟨w.heap.size + 1, 1, none⟩ (.int .i64 (verK x))).setCell ⟨w.heap.size + 1, 2, none⟩ (.int .i64 (numK x))).setCell ⟨w.heap.size + 1, 3, none⟩ (.slice a x.2.length c)).cell? ⟨w.heap.size + 1, 2, none⟩ = some (.int .i64 (numK x)) := by go_cell
      have e3 : ((((w5.setCell ⟨w.heap.size + 1, 0, none⟩ (.int .i64 (keyK x))).setCell ⟨w.heap.size + 1, 1, none⟩ (.int .i64 (verK x))).setCell ⟨w.heap.size + 1, 2, none⟩ (.int .i64 (numK x))).setCell ⟨w.heap.size + 1, 3, none⟩ (.slice a x.2.length c)).cell? ⟨w.heap.size + 1, 3, none⟩ = some (.slice a x.2.length c) := by go_cell
      have HF := hid (Own.mono ((((HO5.out.apartSet (p := ⟨w.heap.size + 1, 0, none⟩) (by show w.heap.size + 1 < w4.heap.size; omega) (.int .i64 (keyK x))).apartSet (p := ⟨w.heap.size + 1, 1, none⟩) (by show w.heap.size + 1 < w4.heap.size; omega) (.int .i64 (verK x))).apartSet (p := ⟨w.heap.size + 1, 2, none⟩) (by show w.heap.size + 1 < w4.heap.size; omega) (.int .i64 (numK x))).apartSet (p := ⟨w.heap.size + 1, 3, none⟩) (by show w.heap.size + 1 < w4.heap.size; omega) (.slice a x.2.length c)) (B' := w.heap.size) (by omega))
      have HB := hid ((((C5.out.setCell (p := ⟨w.heap.size + 1, 0, none⟩) (by show w.heap.size ≤ w.heap.size + 1; omega) (.int .i64 (keyK x))).setCell (p := ⟨w.heap.size + 1, 1, none⟩) (by show w.heap.size ≤ w.heap.size + 1; omega) (.int .i64 (verK x))).setCell (p := ⟨w.heap.size + 1, 2, none⟩) (by show w.heap.size ≤ w.heap.size + 1; omega) (.int .i64 (numK x))).setCell (p := ⟨w.heap.size + 1, 3, none⟩) (by show w.heap.size ≤ w.heap.size + 1; omega) (.slice a x.2.length c))
      refine bodyPost_ret (v := .tuple #[.agg #[.int .i64 (keyK x), .int .i64 (verK x), .int .i64 (numK x), .slice a x.2.length c], .bool true]) ?_ rfl ⟨⟨a, c, rfl, HF.out⟩, HB.out⟩
      simp [results, Try.results10, go_sem, e0, e1, e2, e3]
    · have HNI := hid (none_items hl4 hn)
      clear hl8 hn hc
      obtain rfl : o = none := by rw [← ho, ansG, hok, if_pos rfl]; exact HNI.out
      go_wp2_with fail
      have e0 : ((((w4.setCell ⟨w.heap.size + 1, 0, none⟩ (.int .i64 0)).setCell ⟨w.heap.size + 1, 1, none⟩ (.int .i64 0)).setCell ⟨w.heap.size + 1, 2, none⟩ (.int .i64 0)).setCell ⟨w.heap.size + 1, 3, none⟩ (.slice none 0 0)).cell? ⟨w.heap.size + 1, 0, none⟩ = some (.int .i64 0) := by go_cell
      have e1 : ((((w4.setCell ⟨w.heap.size + 1, 0, none⟩ (.int .i64 0)).setCell ⟨w.heap.size + 1, 1, none⟩ (.int .i64 0)).setCell ⟨w.heap.size + 1, 2, none⟩ (.int .i64 0)).setCell ⟨w.heap.size + 1, 3, none⟩ (.slice none 0 0)).cell? ⟨w.heap.size + 1, 1, none⟩ = some (.int .i64 0) := by go_cell
      have e2 : ((((w4.setCell ⟨w.heap.size + 1, 0, none⟩ (.int .i64 0)).setCell ⟨w.heap.size + 1, 1, none⟩ (.int .i64 0)).setCell ⟨w.heap.size + 1, 2, none⟩ (.int .i64 0)).setCell ⟨w.heap.size + 1, 3, none⟩ (.slice none 0 0)).cell? ⟨w.heap.size + 1, 2, none⟩ = some (.int .i64 0) := by go_cell
      have e3 : ((((w4.setCell ⟨w.heap.size + 1, 0, none⟩ (.int .i64 0)).setCell ⟨w.heap.size + 1, 1, none⟩ (.int .i64 0)).setCell ⟨w.heap.size + 1, 2, none⟩ (.int .i64 0)).setCell ⟨w.heap.size + 1, 3, none⟩ (.slice none 0 0)).cell? ⟨w.heap.size + 1, 3, none⟩ = some (.slice none 0 0) := by go_cell
      refine bodyPost_ret (v := .tuple #[.agg #[.int .i64 0, .int .i64 0, .int .i64 0, .slice none 0 0], .bool false]) ?_ rfl ⟨⟨none, 0, rfl, World.ownsRow_nil _ _ _ _⟩, ((((C4.out.setCell (p := ⟨w.heap.size + 1, 0, none⟩) (by show w.heap.size ≤ w.heap.size + 1; omega) (.int .i64 0)).setCell (p := ⟨w.heap.size + 1, 1, none⟩) (by show w.heap.size ≤ w.heap.size + 1; omega) (.int .i64 0)).setCell (p := ⟨w.heap.size + 1, 2, none⟩) (by show w.heap.size ≤ w.heap.size + 1; omega) (.int .i64 0)).setCell (p := ⟨w.heap.size + 1, 3, none⟩) (by show w.heap.size ≤ w.heap.size + 1; omega) (.slice none 0 0))⟩
      simp [results, Try.results10, go_sem, e0, e1, e2, e3]
end Go.Proofs.Ytilbaiohcfhcaaa
