/- (impl.shelf).told of any shelf: contract. -/
import Derived.Test.YtilbaiohcfhcaaaXq
namespace Go.Proofs.Ytilbaiohcfhcaaa
open Go.RowKit
attribute [local go_sem ↓] Go.wp_at_zero Go.wp_at_succ

def ldW (v : Value) : Sem Value := Instr.loadAt 56 v
theorem ldW_open (v : Value) : Instr.loadAt 56 v = ldW v := rfl
def ixW (x k : Value) : Sem Value := Instr.index 56 x k
theorem ixW_open (x k : Value) : Instr.index 56 x k = ixW x k := rfl
theorem Try.infoW_four : (Try.prog.info? 56).map (·.size) = some 84 := by kernel_rfl
theorem ldW_row {W : World} {g : Nat} {C : List Value} (h : W.rangeAt g 0 C) (hl : C.length = 84) : (ldW (.pointer (some ⟨g, 0, none⟩))).run Try.prog W = .ok (.agg C.toArray) W :=
  run_loadAt_mid W g 0 56 C _ h Try.underlying56 rfl (by rw [Try.infoW_four, hl])
theorem spots_chunk (X : List (Option KD)) (k : Nat) (hk : k < X.length) : ((spotsC X).drop (21 * k)).take 21 = cellsP (X.getD k none) := by
  rw [spotsC_drop, List.drop_eq_getElem_cons hk, spotsC_cons, List.take_append_of_le_length (by rw [cellsP_length]; omega), List.take_of_length_le (by rw [cellsP_length]; omega)]
  simp [hk]
theorem ixW_row (X : List (Option KD)) (h4 : X.length = 4) (k : Nat) (hk : k < 4) (W : World) : (ixW (.agg (spotsC X).toArray) (.int .i64 (k : Int))).run Try.prog W = .ok (.agg (cellsP (X.getD k none)).toArray) W := by
  have hx : (spotsC X).toArray.extract (k * 21) (k * 21 + 21) = (cellsP (X.getD k none)).toArray := by
    rw [← spots_chunk X k (by omega)]
    apply Array.ext'
    simp [List.extract_eq_take_drop, Nat.mul_comm]
  have hin : (0 : Int) ≤ (k : Int) ∧ (k : Int) < ((4 : Nat) : Int) := ⟨by omega, by omega⟩
  cases hq : Try.prog.info? 55 with
  | none => have := Try.infoX_spot; rw [hq] at this; cases this
  | some i =>
    have hs : i.size = 21 := by have := Try.infoX_spot; rw [hq] at this; simpa using this
    simp [ixW, Instr.index, run_underlying Try.underlying56 W, asIntOf, hin, part, isAgg, sizeOf, typeInfo, hq, hs]
    rw [if_pos hk, Nat.mul_comm, spots_chunk X k (by omega)]
    simp
attribute [local go_sem ↓] ldW_open ixW_open ldQ_open stQ_open zeroX
theorem four_new (w : World) (a b c : Int) (u : Value) : ∀ j y, [Value.int .i64 a, .int .i64 b, .int .i64 c, u][j]? = some y → (w.alloc (.cells #[.int .i64 a, .int .i64 b, .int .i64 c, u] 31)).cell? ((⟨w.heap.size, 0, none⟩ : Addr).add j) = some y := by
  intro j y hy
  have := cell_of_row _ _ j _ _ _ (heap_alloc_new w (.cells #[.int .i64 a, .int .i64 b, .int .i64 c, u] 31))
  have e : (⟨w.heap.size, 0, none⟩ : Addr).add j = ⟨w.heap.size, j, none⟩ := by cases j <;> simp [Addr.add]
  rw [e, this]
  simpa using hy
theorem listX_some {X : List (Option KD)} {k : Nat} {x : KD} (hk : k < X.length) (h : X.getD k none = some x) : (X.take (k + 1)).filterMap id = (X.take k).filterMap id ++ [x] := by
  have e : X[k]? = some (some x) := by rw [List.getElem?_eq_getElem hk]; simpa [hk] using h
  rw [List.take_add_one, e]
  simp
theorem listX_none {X : List (Option KD)} {k : Nat} (hk : k < X.length) (h : X.getD k none = none) : (X.take (k + 1)).filterMap id = (X.take k).filterMap id := by
  have e : X[k]? = some none := by rw [List.getElem?_eq_getElem hk]; simpa [hk] using h
  rw [List.take_add_one, e]
  simp
set_option maxRecDepth 100000 in
set_option maxHeartbeats 4000000 in
theorem told_any (X : List (Option KD)) (F : List KD) (w : World) (h4 : X.length = 4) (hf : FloF F) (hx : ∀ x ∈ X.filterMap id, x.1.length = 3 ∧ x.2.length ≤ 8) :
    Calls Try.prog 21 #[.agg (cellsH X F).toArray] w fun e w' => EndC w.heap.size w' (X.filterMap id) F e ∧ Below w.heap.size w w' := by
  obtain ⟨i0, hi, hz0, hz1, hz2⟩ := info_parts Try.infoItem_K
  have HX := hid hx
  have H4 := hid h4
  have HFF := hid hf
  have HF := hid hf.1
  have hB : ((w.alloc (.cells (cellsH X F).toArray 59)).alloc (.cells #[.slice none 0 0, .slice none 0 0] 26)).heap[w.heap.size]? = some (.cells (cellsH X F).toArray 59 (0, 0)) := (Below.heap_alloc _ _ _ (by simp)).trans (heap_alloc_new w _)
  have hsh := shAt_of h4 hf.1 hB
  have HR : Hid (RowF ((w.alloc (.cells (cellsH X F).toArray 59)).alloc (.cells #[.slice none 0 0, .slice none 0 0] 26)) w.heap.size 84 (flr F)) := hid (fun i hi => ⟨by have := hsh.flo i hi; simpa using this, hsh.frozen _⟩)
  have hrg : ((w.alloc (.cells (cellsH X F).toArray 59)).alloc (.cells #[.slice none 0 0, .slice none 0 0] 26)).rangeAt w.heap.size 0 (spotsC X) := by
    have := hsh.spots 0 (by omega)
    simpa using this
  have hld := ldW_row hrg (by rw [spotsC_length, h4])
  have r0_1 : ((w.alloc (.cells (cellsH X F).toArray 59)).alloc (.cells #[.slice none 0 0, .slice none 0 0] 26)).cell? ⟨w.heap.size + 1, 0, none⟩ = some (.slice none 0 0) := by go_cell
  have rf0_1 : ((w.alloc (.cells (cellsH X F).toArray 59)).alloc (.cells #[.slice none 0 0, .slice none 0 0] 26)).frozen? ⟨w.heap.size + 1, 0, none⟩ = false := by (first | go_cell | (simp [World.frozen?, World.alloc]; done) | rfl)
  have r1_1 : ((w.alloc (.cells (cellsH X F).toArray 59)).alloc (.cells #[.slice none 0 0, .slice none 0 0] 26)).cell? ⟨w.heap.size + 1, 1, none⟩ = some (.slice none 0 0) := by go_cell
  have rf1_1 : ((w.alloc (.cells (cellsH X F).toArray 59)).alloc (.cells #[.slice none 0 0, .slice none 0 0] 26)).frozen? ⟨w.heap.size + 1, 1, none⟩ = false := by (first | go_cell | (simp [World.frozen?, World.alloc]; done) | rfl)
  have c1 : Below w.heap.size w ((w.alloc (.cells (cellsH X F).toArray 59)).alloc (.cells #[.slice none 0 0, .slice none 0 0] 26)) := by go_grown
  have s1 : ((w.alloc (.cells (cellsH X F).toArray 59)).alloc (.cells #[.slice none 0 0, .slice none 0 0] 26)).heap.size = w.heap.size + 2 := by simp
  clear hB hsh hrg hf hx h4
  go_enter Try.func21, Try.ntmps21
  go_wp2_with fail
  clear hld
  generalize ((w.alloc (.cells (cellsH X F).toArray 59)).alloc (.cells #[.slice none 0 0, .slice none 0 0] 26)) = w1 at HR r0_1 rf0_1 r1_1 rf1_1 c1 s1 ⊢
  have hlt1 : w.heap.size < w1.heap.size := by omega
  have hlt2 : w.heap.size + 1 < w1.heap.size := by omega
  have S1 := hid s1
  clear s1
  go_loopw [3, 8] (fun s i wr => ∃ (k : Nat) (L : List KD) (xs : List Value) (us : Nat → Value), k ≤ 4 ∧ i = .int .i64 k ∧ Hid (L = (X.take k).filterMap id) ∧ Hid (RowA wr w1.heap.size s L xs us) ∧ Hid (KinO wr w1.heap.size L us) ∧ Below w1.heap.size w1 wr) (fun _ i _ => 4 - (intOf i).toNat)
  case atStart => exact ⟨0, [], [], fun _ => .bool false, Nat.zero_le _, rfl, hid (by simp), hid (RowA.nil _ _ _), hid (KinO.nil _ _ _), Below.refl _ _⟩
  case round =>
    obtain ⟨k, L, xs, us, hk, rfl, hL, hrow, hkin, hbel⟩ := hrel
    by_cases hlt : k < 4
    · have hix := fun W => ixW_row X H4.out k hlt W
      have hki : (k : Int) < 4 := by omega
      obtain ⟨x, hxk⟩ : ∃ x, X.getD k none = x := ⟨_, rfl⟩
      rw [hxk] at hix
      have HXK := hid hxk
      clear hxk
      obtain ⟨w4, hst, g4, o4, s4⟩ := stQ_new (wr.alloc (.cells (cellsP none).toArray 55)) (cellsP none) (cellsP x) (cellsP_length _) (cellsP_length _) (cellsP_one x) wr.heap.size (heap_alloc_new wr _)
      have B4 : Hid (Below wr.heap.size wr w4) := hid ((show Below wr.heap.size wr (wr.alloc (.cells (cellsP none).toArray 55)) by go_grown).trans (o4.below (fun j hj => by omega) (by simp)))
      clear o4
      cases x with
      | none =>
        have hcl : w4.cell? ⟨wr.heap.size, 0, none⟩ = some (.bool false) := spot_cell g4 0 _ rfl
        have HL2 : Hid (L = (X.take (k + 1)).filterMap id) := hid (by rw [hL.out, listX_none (by rw [H4.out]; exact hlt) HXK.out])
        have hR2 := hid (hrow.out.later B4.out)
        have hK2 := hid (hkin.out.later B4.out)
        have hb2 := hbel.trans (B4.out.mono hbel.size)
        clear g4 s4 hrow hkin hL
        go_wp2_with fail
        go_roundw
        case rel => exact ⟨k + 1, L, xs, us, by omega, by go_num, HL2, hR2, hK2, hb2⟩
        case measure => simp [intOf]; omega
      | some x =>
        have hcl : w4.cell? ⟨wr.heap.size, 0, none⟩ = some (.bool true) := spot_cell g4 0 _ rfl
        have hldq : (ldQ (.pointer (some ⟨wr.heap.size, 0, none⟩))).run Try.prog w4 = .ok (.agg (cellsP (some x)).toArray) w4 := ldQ_row (rangeAt_whole g4) (cellsP_length _)
        have hx4 : (X.take (k + 1)).filterMap id = (X.take k).filterMap id ++ [x] := listX_some (by rw [H4.out]; exact hlt) HXK.out
        have hxm : x ∈ X.filterMap id := List.mem_filterMap.2 ⟨some x, by
          have e : X[k]? = some (some x) := by rw [List.getElem?_eq_getElem (by rw [H4.out]; exact hlt)]; have := HXK.out; simpa [show k < X.length from by rw [H4.out]; exact hlt] using this
          exact List.mem_of_getElem? e, rfl⟩
        obtain ⟨a, b, c, l, rfl⟩ : ∃ a b c l, x = (([a, b, c], l) : KD) := kd_3k (HX.out x hxm).1
        have hl8 := (HX.out _ hxm).2
        simp only at hl8
        have HL2 : Hid (L ++ [([a, b, c], l)] = (X.take (k + 1)).filterMap id) := hid (by rw [hx4, hL.out])
        have hLk : L.length ≤ 4 := by
          rw [hL.out]
          exact Nat.le_trans (List.length_filterMap_le _ _) (by rw [List.length_take]; omega)
        have hk1 : L.length + 1 ≤ maxLen := by unfold maxLen; omega
        have hk2 : (L.length + 1) * 48 ≤ 140737488355328 := by omega
        have hW := hid (hrow.out.later B4.out)
        have hKI := hid hkin.out
        clear hx4 hxm hL hrow hkin
        go_wp2_with fail
        refine (spotTold_any a b c l _ hl8).mono ?_
        rintro e w5 ⟨⟨o, cc, rfl, hown⟩, b5⟩
        have HU5 := hid hown
        have hW5 := hid (hW.out.later b5)
        have B5 := hid (B4.out.trans (b5.mono B4.out.size))
        have z5 := b5.size
        have HNW := hid (four_new w5 a b c (.slice o l.length cc))
        have B6 : Hid (Below wr.heap.size wr (w5.alloc (.cells #[.int .i64 a, .int .i64 b, .int .i64 c, .slice o l.length cc] 31))) := hid (B5.out.trans ((show Below w5.heap.size w5 _ by go_grown).mono (by have := B5.out.size; omega)))
        have HU6 := hid (row_later HU5.out (show Below w5.heap.size w5 (w5.alloc (.cells #[.int .i64 a, .int .i64 b, .int .i64 c, .slice o l.length cc] 31)) by go_grown))
        have hW6 := hid (hW5.out.later (show Below w5.heap.size w5 (w5.alloc (.cells #[.int .i64 a, .int .i64 b, .int .i64 c, .slice o l.length cc] 31)) by go_grown))
        have hbs : w1.heap.size ≤ (w5.alloc (.cells #[.int .i64 a, .int .i64 b, .int .i64 c, .slice o l.length cc] 31)).heap.size := by have := B6.out.size; have := hbel.size; omega
        clear b5 hown g4 s4
        go_wp2_with (first | (at_builtin; refine wpList_append_own _ rfl _ _ 23 rfl w1.heap.size 31 i0 (.agg #[.int .i64 0, .int .i64 0, .int .i64 0, .slice none 0 0]) 4 48 Try.underlying23 hi hz0 hz1 hz2 rfl (by decide) _ _ _ rfl hW6.out.row ⟨w5.heap.size, 0, none⟩ 1 1 [.int .i64 a, .int .i64 b, .int .i64 c, .slice o l.length cc] rfl rfl HNW.out (by simp [Value.oneCell']) hk1 hk2 hbs ?_; intro v7 w7 hown7 hgr7 _; obtain ⟨g7, c7, hv7⟩ := ownsRow_succ hown7; subst hv7))
        have hR8 := hid (hW6.out.add (l := l) hown7)
        have hK8 := hid (hKI.out.add (a := a) (b := b) (c := c) hW6.out B6.out (Own.mono HU6.out B4.out.size) hbel.size hgr7)
        have hb8 : Below w1.heap.size w1 w7 := (hbel.trans (B6.out.mono hbel.size)).grown hgr7 (by have := hbel.size; have := B6.out.size; omega) (fun j ej => (hW6.out.row.lt j ej).1)
        clear hown7 hgr7
        go_roundw
        case rel => exact ⟨k + 1, _, _, _, by omega, by go_num, HL2, hR8, hK8, hb8⟩
        case measure => simp [intOf]; omega
    · have hki : ¬ (k : Int) < 4 := by omega
      have r0_2 : wr.cell? ⟨w.heap.size + 1, 0, none⟩ = some (.slice none 0 0) := (hbel.cell (p := ⟨w.heap.size + 1, 0, none⟩) hlt2).trans r0_1
      have r1_2 : wr.cell? ⟨w.heap.size + 1, 1, none⟩ = some (.slice none 0 0) := (hbel.cell (p := ⟨w.heap.size + 1, 1, none⟩) hlt2).trans r1_1
      have rf0_2 : wr.frozen? ⟨w.heap.size + 1, 0, none⟩ = false := (hbel.frozen (p := ⟨w.heap.size + 1, 0, none⟩) hlt2).trans rf0_1
      have rf1_2 : wr.frozen? ⟨w.heap.size + 1, 1, none⟩ = false := (hbel.frozen (p := ⟨w.heap.size + 1, 1, none⟩) hlt2).trans rf1_1
      have HR2 := hid (HR.out.later hlt1 hbel)
      have HO := hid (hrow.out.ownM hkin.out)
      have HL : Hid (L = X.filterMap id) := hid (by rw [hL.out, List.take_of_length_le (by rw [H4.out]; omega)])
      obtain ⟨ao, cp, hv, _⟩ := HO.out.rd'
      subst hv
      have hsz := hbel.size
      have hzo := S1.out
      clear hrow hkin hL
      go_wp2_with fail
      have e0 : ((wr.setCell ⟨w.heap.size + 1, 0, none⟩ (.slice ao L.length cp)).setCell ⟨w.heap.size + 1, 1, none⟩ (.slice (some ⟨w.heap.size, 84, none⟩) 24 24)).cell? ⟨w.heap.size + 1, 0, none⟩ = some (.slice ao L.length cp) := by go_cell
      have e1 : ((wr.setCell ⟨w.heap.size + 1, 0, none⟩ (.slice ao L.length cp)).setCell ⟨w.heap.size + 1, 1, none⟩ (.slice (some ⟨w.heap.size, 84, none⟩) 24 24)).cell? ⟨w.heap.size + 1, 1, none⟩ = some (.slice (some ⟨w.heap.size, 84, none⟩) 24 24) := by go_cell
      have hoff : ∀ t, ¬ Span w1.heap.size wr.heap.size (⟨w.heap.size + 1, t, none⟩ : Addr).block := fun t q => by have := q.1; simp only at this; omega
      have HO2 := ((HO.out.set (p := ⟨w.heap.size + 1, 0, none⟩) (hoff 0) (.slice ao L.length cp)).set (p := ⟨w.heap.size + 1, 1, none⟩) (hoff 1) (.slice (some ⟨w.heap.size, 84, none⟩) 24 24)).mono (G := Span (w.heap.size + 1) ((wr.setCell ⟨w.heap.size + 1, 0, none⟩ (.slice ao L.length cp)).setCell ⟨w.heap.size + 1, 1, none⟩ (.slice (some ⟨w.heap.size, 84, none⟩) 24 24)).heap.size) (fun q hq _ => ⟨by have := hq.1; omega, by have := hq.2; simp; exact this⟩)
      rw [← HL.out]
      refine bodyPost_ret (v := .agg #[.slice ao L.length cp, .slice (some ⟨w.heap.size, 84, none⟩) 24 24]) (by simp [results, Try.results21, go_sem, e0, e1]) rfl ⟨⟨ao, cp, _, w.heap.size, rfl, Nat.le_refl _, by simp; omega, HO2, .inr ⟨rfl, HFF.out, by simp; omega, (HR2.out.set (p := ⟨w.heap.size + 1, 0, none⟩) (by simp) _).set (p := ⟨w.heap.size + 1, 1, none⟩) (by simp) _⟩⟩, ?_⟩
      exact ((c1.trans (hbel.mono c1.size)).setCell (p := ⟨w.heap.size + 1, 0, none⟩) (by simp) _).setCell (p := ⟨w.heap.size + 1, 1, none⟩) (by simp) _
end Go.Proofs.Ytilbaiohcfhcaaa
