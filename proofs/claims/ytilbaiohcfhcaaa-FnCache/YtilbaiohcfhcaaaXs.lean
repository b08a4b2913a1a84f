/- What CacheDrop, CacheFloor and CachePut make of a cache; the program's own three: contracts. Written by a program (gimpc.py). -/
import Derived.Test.YtilbaiohcfhcaaaXr
import Derived.Test.YtilbaiohcfhcaaaXn
namespace Go.Proofs.Ytilbaiohcfhcaaa
open Go.RowKit
attribute [local go_sem ↓] Go.wp_at_zero Go.wp_at_succ
attribute [local go_sem ↓] ldQ_open stQ_open ldH_open stH_open zeroH

/-! ### Plain -/
def isKey (key : Int) (x : KD) : Bool := keyK x == key
def dropI (key : Int) (I : List KD) : List KD := I.filter (fun x => !isKey key x)
theorem list_items {I : List KD} (h : I.length ≤ 4) : (itemsX I).filterMap id = I := by
  match I, h with
  | [], _ => rfl
  | [a], _ => rfl
  | [a, b], _ => rfl
  | [a, b, c], _ => rfl
  | [a, b, c, d], _ => rfl
theorem list_erase (key : Int) : ∀ X : List (Option KD), (X.eraseP (hasK key)).filterMap id = (X.filterMap id).eraseP (isKey key)
  | [] => rfl
  | none :: r => by
    have := list_erase key r
    simpa [hasK] using this
  | some x :: r => by
    have ih := list_erase key r
    by_cases h : isKey key x = true
    · rw [List.eraseP_cons_of_pos (p := hasK key) (show hasK key (some x) = true from h), List.filterMap_cons]
      exact (List.eraseP_cons_of_pos h).symm
    · rw [List.eraseP_cons_of_neg (p := hasK key) (show ¬ hasK key (some x) = true from h), List.filterMap_cons, List.filterMap_cons, ih]
      exact (List.eraseP_cons_of_neg h).symm
theorem list_drop (key : Int) (X : List (Option KD)) : (dropX key X).filterMap id = (X.filterMap id).eraseP (isKey key) := by
  unfold dropX
  split
  · rw [List.filterMap_append, list_erase]
    simp
  · rename_i h
    rw [← list_erase, List.eraseP_of_forall_not]
    intro a ha hp
    exact h (List.any_eq_true.2 ⟨a, ha, hp⟩)
theorem erase_filter (key : Int) : ∀ I : List KD, I.Pairwise (fun a b => keyK a ≠ keyK b) → I.eraseP (isKey key) = dropI key I
  | [], _ => rfl
  | x :: r, h => by
    have ⟨h1, h2⟩ := List.pairwise_cons.1 h
    by_cases hx : isKey key x = true
    · have hk : keyK x = key := by simpa [isKey] using hx
      have hf : r.filter (fun y => !isKey key y) = r := List.filter_eq_self.2 (fun y hy => by
        have := h1 y hy
        simp only [isKey, Bool.not_eq_true', beq_eq_false_iff_ne]
        intro e
        exact this (by rw [hk, e]))
      rw [dropI, List.eraseP_cons_of_pos hx, List.filter_cons_of_neg (by simp [hx]), hf]
    · rw [dropI, List.eraseP_cons_of_neg hx, List.filter_cons_of_pos (by simp [hx]), erase_filter key r h2, dropI]
theorem okC_pairs {I F : List KD} (h : okC I F = true) : I.Pairwise (fun a b => keyK a ≠ keyK b) := by
  rw [List.pairwise_iff_getElem]
  intro i j hi hj hij
  have := ((okC_iff.1 h).2.2.2 j hj).2.2 i hij
  rwa [getD_at hi, getD_at hj] at this
theorem list_dropI {I F : List KD} (h : okC I F = true) (key : Int) : (dropX key (itemsX I)).filterMap id = dropI key I := by
  rw [list_drop, list_items (okC_small h).1, erase_filter key I (okC_pairs h)]
theorem floF_of {w : World} {v : Value} {F : List KD} (h : RdM 1 1 false w v F) (hl : F.length = 24) : FloF F := by
  obtain ⟨_, _, _, _, hc⟩ := h
  obtain ⟨b, o, _, _, hcc⟩ := hc (by omega)
  refine ⟨hl, fun i hi => ?_⟩
  obtain ⟨a, ha⟩ := kd_1n (hcc i (by omega)).len ((hcc i (by omega)).non rfl)
  exact ⟨a, ha⟩
theorem FloF.set {F : List KD} (h : FloF F) (k : Nat) (v : Int) (hk : k < 24) : FloF (F.set k ([v], [])) := by
  refine ⟨by rw [List.length_set]; exact h.1, fun i hi => ?_⟩
  rw [kd_getD_set (by rw [h.1]; exact hk)]
  split
  · exact ⟨v, rfl⟩
  · exact h.2 i hi
def putI (k v n : Int) (l : List (Int × Int)) (I : List KD) : List KD := (([k, v, n], l) :: dropI k I).take 4
def ansD (I F : List KD) (key : Int) : List KD × List KD := if okC I F then (dropI key I, F) else ([], [])
def raB (F : List KD) (key ver : Int) : Bool := keyIn key && (decide (flr F key.toNat < ver) && decide (ver ≤ 60))
def ansF (I F : List KD) (key ver : Int) : List KD × List KD := if okC I F then (if raB F key ver then (dropI key I, putF F key ver) else (I, F)) else ([], [])
def ansP (I F : List KD) (k v n : Int) (l : List (Int × Int)) : (List KD × List KD) × Bool :=
  if okC I F then (if putB F k v n l then ((putI k v n l I, putF F k v), true) else ((I, F), false)) else (([], []), false)
theorem list_put {I F : List KD} (h : okC I F = true) (k v n : Int) (l : List (Int × Int)) : (putX (itemsX I) k v n l).filterMap id = putI k v n l I := by
  have hd := list_dropI h k
  have h4 : (dropX k (itemsX I)).length = 4 := dropX_length (itemsX_length I)
  have hI := (okC_small h).1
  rw [putX, List.filterMap_cons]
  simp only [id]
  rw [putI, List.take_succ_cons, ← hd]
  congr 1
  -- the items stand ahead of the empty spots
  unfold dropX
  split
  · rename_i hany
    have e : ((itemsX I).eraseP (hasK k)).length = 3 := by
      rw [List.any_eq_true] at hany
      obtain ⟨x, hx, hp⟩ := hany
      rw [List.length_eraseP_of_mem hx hp, itemsX_length]
    rw [List.take_append_of_le_length (by omega), List.take_of_length_le (by omega), List.filterMap_append]
    have : (([none] : List (Option KD)).filterMap id) = [] := rfl
    rw [this, List.append_nil, List.take_of_length_le]
    exact Nat.le_trans (List.length_filterMap_le _ _) (by omega)
  · match I, hI with
    | [], _ => rfl
    | [a], _ => rfl
    | [a, b], _ => rfl
    | [a, b, c], _ => rfl
    | [a, b, c, d], _ => rfl
theorem okC_putF {F : List KD} (h : FloF F) {k v n : Int} {l : List (Int × Int)} (hp : putB F k v n l = true) : FloF (putF F k v) := by
  unfold putB at hp
  rw [Bool.and_eq_true] at hp
  have hk := itR_key hp.1
  exact h.set _ _ (by omega)
theorem endC_set {w' : World} {B r g : Nat} {I F : List KD} {iv fv : Value} (ho : OwnM 31 4 3 true w' (Span (g + 1) w'.heap.size) iv I) (hf : OwnFl w' g fv F) (hr : r < B) (hB : B ≤ g) (hg : g < w'.heap.size) (u0 u1 : Value) :
    g < ((w'.setCell ⟨r, 0, none⟩ u0).setCell ⟨r, 1, none⟩ u1).heap.size ∧ OwnM 31 4 3 true ((w'.setCell ⟨r, 0, none⟩ u0).setCell ⟨r, 1, none⟩ u1) (Span (g + 1) ((w'.setCell ⟨r, 0, none⟩ u0).setCell ⟨r, 1, none⟩ u1).heap.size) iv I ∧ OwnFl ((w'.setCell ⟨r, 0, none⟩ u0).setCell ⟨r, 1, none⟩ u1) g fv F := by
  have hs : ((w'.setCell ⟨r, 0, none⟩ u0).setCell ⟨r, 1, none⟩ u1).heap.size = w'.heap.size := by simp
  have hoff : ∀ t, ¬ Span (g + 1) w'.heap.size (⟨r, t, none⟩ : Addr).block := fun t q => by have := q.1; simp only at this; omega
  rw [hs]
  refine ⟨hg, (ho.set (p := ⟨r, 0, none⟩) (hoff 0) u0).set (p := ⟨r, 1, none⟩) (hoff 1) u1, hf.agree (fun _ => ?_)⟩
  exact (Below.heap_setCell _ _ _ _ (by show g ≠ r; omega)).trans (Below.heap_setCell _ _ _ _ (by show g ≠ r; omega))

/-! ### raise -/
set_option maxRecDepth 100000 in
set_option maxHeartbeats 2000000 in
theorem raiseX_any (g : Nat) (X : List (Option KD)) (F : List KD) (key ver : Int) (w : World) (h : ShAt w g fr0 X F) :
    Calls Try.prog 33 #[.pointer (some ⟨g, 0, none⟩), .int .i64 key, .int .i64 ver] w fun e w' => e = .returned (.tuple #[]) ∧ ShAt w' g fr0 (if raB F key ver then dropX key X else X) (if raB F key ver then putF F key ver else F) ∧ Only (fun k => k = g) w w' := by
  have HS := hid h
  have hco := keyRight_any key
  cases hk : keyIn key with
  | false =>
    rw [hk] at hco
    have hr : raB F key ver = false := by simp [raB, hk]
    rw [hr]
    go_enter Try.func33, Try.ntmps33
    go_wp2_with fail
    refine (hco _).mono ?_
    rintro e w2 ⟨rfl, hz⟩
    obtain rfl := hz.symm
    clear hz
    go_wp2_with fail
    go_end0
    exact ⟨rfl, HS.out, Only.refl _ _⟩
  | true =>
    rw [hk] at hco
    have hkk : 0 ≤ key ∧ key < 24 := by simpa [keyIn] using hk
    have HR : Hid (raB F key ver = (decide (flr F key.toNat < ver) && decide (ver ≤ 60))) := hid (by simp [raB, hk])
    obtain ⟨kk, rfl⟩ := Int.eq_ofNat_of_zero_le hkk.1
    have hk24 : kk < 24 := by omega
    have f1 := HS.out.flo kk hk24
    have qf1 := HS.out.frozen (84 + kk)
    simp only [List.length_nil, Nat.zero_add] at f1
    clear hk hkk h
    cases hA : decide (flr F kk < ver) with
    | false =>
      have hr : raB F (kk : Int) ver = false := by rw [HR.out]; simp only [Int.toNat_natCast]; rw [hA, Bool.false_and]
      rw [hr]
      clear HR
      go_enter Try.func33, Try.ntmps33
      go_wp2_with fail
      refine (hco _).mono ?_
      rintro e w2 ⟨rfl, hz⟩
      obtain rfl := hz.symm
      clear hz
      go_wp2_with fail
      go_end0
      exact ⟨rfl, HS.out, Only.refl _ _⟩
    | true =>
      cases hV : decide (ver ≤ 60) with
      | false =>
        have hr : raB F (kk : Int) ver = false := by rw [HR.out, hV, Bool.and_false]
        rw [hr]
        clear HR
        go_enter Try.func33, Try.ntmps33
        go_wp2_with fail
        refine (hco _).mono ?_
        rintro e w2 ⟨rfl, hz⟩
        obtain rfl := hz.symm
        clear hz
        go_wp2_with fail
        go_end0
        exact ⟨rfl, HS.out, Only.refl _ _⟩
      | true =>
        have hr : raB F (kk : Int) ver = true := by rw [HR.out, hV, Bool.and_true]; simpa using hA
        rw [hr]
        clear HR
        go_enter Try.func33, Try.ntmps33
        go_wp2_with fail
        refine (hco _).mono ?_
        rintro e w2 ⟨rfl, hz⟩
        obtain rfl := hz.symm
        clear hz
        go_wp2_with fail
        refine (dropX_any g fr0 X F (kk : Int) _ HS.out).mono ?_
        rintro e w3 ⟨rfl, h3, o3⟩
        have H3 := hid h3
        have O3 := hid o3
        have f3 := h3.flo kk hk24
        have qf3 := h3.frozen (84 + kk)
        simp only [List.length_nil, Nat.zero_add] at f3
        clear h3 o3 f1 qf1
        go_wp2_with fail
        go_end0
        have h4 := shAt_setFlo H3.out kk hk24 ver
        simp only [List.length_nil, Nat.zero_add] at h4
        exact ⟨rfl, by simpa [putF] using h4, O3.out.trans (Only.set (F := fun k => k = g) _ (p := ⟨g, 84 + kk, none⟩) rfl (.int .i64 ver))⟩

/-! ### impl.CacheDrop -/
set_option maxRecDepth 100000 in
set_option maxHeartbeats 4000000 in
theorem implCDrop_any (v0 v1 : Value) (I F : List KD) (key : Int) (w : World) (h0 : RdM 4 3 true w v0 I) (h1 : RdM 1 1 false w v1 F) {D : List KD × List KD} (hD : ansD I F key = D) :
    Calls Try.prog 14 #[.agg #[v0, v1], .int .i64 key] w fun e w' => EndC w.heap.size w' (D).1 (D).2 e ∧ Below w.heap.size w w' := by
  have H0 := hid h0
  have H1 := hid h1
  obtain ⟨ai, ci, rfl, hq0, hq1⟩ := h0
  obtain ⟨af, cf, rfl, hq2, hq3⟩ := h1
  have HL3 : Hid (∀ x ∈ I, x.1.length = 3) := hid (fun x hx => by
    obtain ⟨i, hi, rfl⟩ := List.getElem_of_mem hx
    obtain ⟨_, _, _, _, hat⟩ := hq1 (by omega)
    have := (hat i hi).len
    rwa [getD_at hi] at this)
  clear hq0 hq1 hq2 hq3
  go_enter Try.func14, Try.ntmps14
  go_wp2_with fail
  generalize hW1 : ((w.alloc (.cells #[.slice ai I.length ci, .slice af F.length cf] 26)).alloc (.cells #[.slice none 0 0, .slice none 0 0] 26)) = w1
  have a0_1 : w1.cell? ⟨w.heap.size, 0, none⟩ = some (.slice ai I.length ci) := by subst hW1; go_cell
  have a1_1 : w1.cell? ⟨w.heap.size, 1, none⟩ = some (.slice af F.length cf) := by subst hW1; go_cell
  have al_1 : w.heap.size < w1.heap.size := by subst hW1; first | (simp; done) | (simp; omega)
  have r0_1 : w1.cell? ⟨w.heap.size + 1, 0, none⟩ = some (.slice none 0 0) := by subst hW1; go_cell
  have rf0_1 : w1.frozen? ⟨w.heap.size + 1, 0, none⟩ = false := by subst hW1; (first | go_cell | (simp [World.frozen?, World.alloc]; done) | rfl)
  have r1_1 : w1.cell? ⟨w.heap.size + 1, 1, none⟩ = some (.slice none 0 0) := by subst hW1; go_cell
  have rf1_1 : w1.frozen? ⟨w.heap.size + 1, 1, none⟩ = false := by subst hW1; (first | go_cell | (simp [World.frozen?, World.alloc]; done) | rfl)
  have rl_1 : w.heap.size + 1 < w1.heap.size := by subst hW1; first | (simp; done) | (simp; omega)
  have c1 : Below w.heap.size w w1 := by subst hW1; go_grown
  have s1 : w1.heap.size = w.heap.size + 2 := by subst hW1; simp
  clear hW1
  have qa0_1 := cell_regrown a0_1
  have qa1_1 := cell_regrown a1_1
  have qr0_1 := cell_regrown r0_1
  have qr1_1 := cell_regrown r1_1
  refine (shelfOf_any _ _ I F _ (H0.out.later c1) (H1.out.later c1)).mono ?_
  rintro e w2 ⟨⟨X, G, hx, hg, rfl, hc⟩, b2⟩
  obtain ⟨w3, hst, h3, o3, s3⟩ := stH_at (shAt_of emptyX_length zeroF_length (heap_alloc_new w2 (.cells (cellsH emptyX zeroF).toArray 59))) hx hg
  have B3 : Below w1.heap.size w1 w3 := (b2.alloc b2.size (.cells (cellsH emptyX zeroF).toArray 59)).trans (o3.below (fun k hk => by have := b2.size; omega) (by have := b2.size; simp; omega))
  have H3 := hid h3
  have hz2 := b2.size
  have Z3 : Hid (w2.heap.size < w3.heap.size) := hid h3.lt
  clear h3 o3 s3 b2 hx hg
  have r0_3 := (B3.cell (p := ⟨w.heap.size + 1, 0, none⟩) rl_1).trans r0_1
  have rf0_3 := (B3.frozen (p := ⟨w.heap.size + 1, 0, none⟩) rl_1).trans rf0_1
  have r1_3 := (B3.cell (p := ⟨w.heap.size + 1, 1, none⟩) rl_1).trans r1_1
  have rf1_3 := (B3.frozen (p := ⟨w.heap.size + 1, 1, none⟩) rl_1).trans rf1_1
  have C3 := hid (c1.trans (B3.mono c1.size))
  have rl_3 : w.heap.size + 1 < w3.heap.size := Nat.lt_of_lt_of_le rl_1 B3.size
  clear r0_1 r1_1 rf0_1 rf1_1 a0_1 a1_1 qa0_1 qa1_1 qr0_1 qr1_1 c1 B3
  cases hok : okC I F with
  | false =>
    obtain rfl : D = ([], []) := by rw [← hD]; simp [ansD, hok]
    go_wp2_with fail
    have e0 : ((w3.setCell ⟨w.heap.size + 1, 0, none⟩ (.slice none 0 0)).setCell ⟨w.heap.size + 1, 1, none⟩ (.slice none 0 0)).cell? ⟨w.heap.size + 1, 0, none⟩ = some (.slice none 0 0) := by go_cell
    have e1 : ((w3.setCell ⟨w.heap.size + 1, 0, none⟩ (.slice none 0 0)).setCell ⟨w.heap.size + 1, 1, none⟩ (.slice none 0 0)).cell? ⟨w.heap.size + 1, 1, none⟩ = some (.slice none 0 0) := by go_cell
    refine bodyPost_ret (v := .agg #[.slice none 0 0, .slice none 0 0]) (by simp [results, Try.results14, go_sem, e0, e1]) rfl ⟨⟨none, 0, _, w.heap.size, rfl, Nat.le_refl _, by simp; omega, OwnM.nil _ _, .inl ⟨rfl, rfl⟩⟩, (C3.out.setCell (p := ⟨w.heap.size + 1, 0, none⟩) (by show w.heap.size ≤ w.heap.size + 1; omega) (.slice none 0 0)).setCell (p := ⟨w.heap.size + 1, 1, none⟩) (by show w.heap.size ≤ w.heap.size + 1; omega) (.slice none 0 0)⟩
  | true =>
    obtain ⟨rfl, rfl⟩ := hc hok
    have HFL := hid (floF_of H1.out (okC_iff.1 hok).1)
    have HOK := hid hok
    obtain rfl : D = (dropI key I, G) := by rw [← hD]; simp [ansD, hok]
    have HM : Hid (∀ x ∈ dropI key I, x.1.length = 3 ∧ x.2.length ≤ 8) := hid (fun x hx => ⟨HL3.out x (List.mem_filter.1 hx).1, (okC_small HOK.out).2 x (List.mem_filter.1 hx).1⟩)
    clear hc hok hD
    go_wp2_with fail
    refine (dropX_any w2.heap.size fr0 (itemsX I) G key _ H3.out).mono ?_
    rintro e w4 ⟨rfl, h4, o4⟩
    have H4 := hid h4
    have hld := ldH_at h4
    have r0_4 := (World.cell?_of_block (a := ⟨w.heap.size + 1, 0, none⟩) (o4.block _ rl_3 (by show ¬ w.heap.size + 1 = _; omega))).trans r0_3
    have rf0_4 := (World.frozen?_of_block (a := ⟨w.heap.size + 1, 0, none⟩) (o4.block _ rl_3 (by show ¬ w.heap.size + 1 = _; omega))).trans rf0_3
    have r1_4 := (World.cell?_of_block (a := ⟨w.heap.size + 1, 1, none⟩) (o4.block _ rl_3 (by show ¬ w.heap.size + 1 = _; omega))).trans r1_3
    have rf1_4 := (World.frozen?_of_block (a := ⟨w.heap.size + 1, 1, none⟩) (o4.block _ rl_3 (by show ¬ w.heap.size + 1 = _; omega))).trans rf1_3
    have rl_4 : w.heap.size + 1 < w4.heap.size := Nat.lt_of_lt_of_le rl_3 o4.size
    have C4 := hid (C3.out.trans (o4.below (fun j hj => by omega) (by have := C3.out.size; omega)))
    clear h4 o4 r0_3 r1_3 rf0_3 rf1_3 hst
    go_wp2_with fail
    refine (told_any (dropX key (itemsX I)) (G) _ H4.out.x4 HFL.out (by rw [list_dropI HOK.out key]; exact HM.out)).mono ?_
    rintro e w5 ⟨⟨a, c, fv, g, rfl, hB, hg5, ho, hf⟩, b5⟩
    obtain ⟨fo, fc, hfv⟩ := hf.slice
    subst hfv
    rw [list_dropI HOK.out key] at ho ⊢
    have HO := hid ho
    have HF := hid hf
    have r0_5 := (b5.cell (p := ⟨w.heap.size + 1, 0, none⟩) rl_4).trans r0_4
    have rf0_5 := (b5.frozen (p := ⟨w.heap.size + 1, 0, none⟩) rl_4).trans rf0_4
    have r1_5 := (b5.cell (p := ⟨w.heap.size + 1, 1, none⟩) rl_4).trans r1_4
    have rf1_5 := (b5.frozen (p := ⟨w.heap.size + 1, 1, none⟩) rl_4).trans rf1_4
    have C5 := hid (C4.out.trans (b5.mono C4.out.size))
    clear b5 ho hf hld r0_4 r1_4 rf0_4 rf1_4
    go_wp2_with fail
    have e0 : ((w5.setCell ⟨w.heap.size + 1, 0, none⟩ (.slice a (dropI key I).length c)).setCell ⟨w.heap.size + 1, 1, none⟩ (.slice fo (G).length fc)).cell? ⟨w.heap.size + 1, 0, none⟩ = some (.slice a (dropI key I).length c) := by go_cell
    have e1 : ((w5.setCell ⟨w.heap.size + 1, 0, none⟩ (.slice a (dropI key I).length c)).setCell ⟨w.heap.size + 1, 1, none⟩ (.slice fo (G).length fc)).cell? ⟨w.heap.size + 1, 1, none⟩ = some (.slice fo (G).length fc) := by go_cell
    obtain ⟨k1, k2, k3⟩ := endC_set HO.out HF.out rl_4 hB hg5 (.slice a (dropI key I).length c) (.slice fo (G).length fc)
    have KB := (C5.out.setCell (p := ⟨w.heap.size + 1, 0, none⟩) (by show w.heap.size ≤ w.heap.size + 1; omega) (.slice a (dropI key I).length c)).setCell (p := ⟨w.heap.size + 1, 1, none⟩) (by show w.heap.size ≤ w.heap.size + 1; omega) (.slice fo (G).length fc)
    exact bodyPost_ret (v := .agg #[(.slice a (dropI key I).length c), (.slice fo (G).length fc)]) (by simp [results, Try.results14, go_sem, e0, e1]) rfl ⟨⟨a, c, _, g, rfl, by omega, k1, k2, k3⟩, KB⟩

/-! ### impl.CacheFloor -/
set_option maxRecDepth 100000 in
set_option maxHeartbeats 4000000 in
theorem implCFloor_any (v0 v1 : Value) (I F : List KD) (key ver : Int) (w : World) (h0 : RdM 4 3 true w v0 I) (h1 : RdM 1 1 false w v1 F) {D : List KD × List KD} (hD : ansF I F key ver = D) :
    Calls Try.prog 13 #[.agg #[v0, v1], .int .i64 key, .int .i64 ver] w fun e w' => EndC w.heap.size w' (D).1 (D).2 e ∧ Below w.heap.size w w' := by
  have H0 := hid h0
  have H1 := hid h1
  obtain ⟨ai, ci, rfl, hq0, hq1⟩ := h0
  obtain ⟨af, cf, rfl, hq2, hq3⟩ := h1
  have HL3 : Hid (∀ x ∈ I, x.1.length = 3) := hid (fun x hx => by
    obtain ⟨i, hi, rfl⟩ := List.getElem_of_mem hx
    obtain ⟨_, _, _, _, hat⟩ := hq1 (by omega)
    have := (hat i hi).len
    rwa [getD_at hi] at this)
  clear hq0 hq1 hq2 hq3
  go_enter Try.func13, Try.ntmps13
  go_wp2_with fail
  generalize hW1 : ((w.alloc (.cells #[.slice ai I.length ci, .slice af F.length cf] 26)).alloc (.cells #[.slice none 0 0, .slice none 0 0] 26)) = w1
  have a0_1 : w1.cell? ⟨w.heap.size, 0, none⟩ = some (.slice ai I.length ci) := by subst hW1; go_cell
  have a1_1 : w1.cell? ⟨w.heap.size, 1, none⟩ = some (.slice af F.length cf) := by subst hW1; go_cell
  have al_1 : w.heap.size < w1.heap.size := by subst hW1; first | (simp; done) | (simp; omega)
  have r0_1 : w1.cell? ⟨w.heap.size + 1, 0, none⟩ = some (.slice none 0 0) := by subst hW1; go_cell
  have rf0_1 : w1.frozen? ⟨w.heap.size + 1, 0, none⟩ = false := by subst hW1; (first | go_cell | (simp [World.frozen?, World.alloc]; done) | rfl)
  have r1_1 : w1.cell? ⟨w.heap.size + 1, 1, none⟩ = some (.slice none 0 0) := by subst hW1; go_cell
  have rf1_1 : w1.frozen? ⟨w.heap.size + 1, 1, none⟩ = false := by subst hW1; (first | go_cell | (simp [World.frozen?, World.alloc]; done) | rfl)
  have rl_1 : w.heap.size + 1 < w1.heap.size := by subst hW1; first | (simp; done) | (simp; omega)
  have c1 : Below w.heap.size w w1 := by subst hW1; go_grown
  have s1 : w1.heap.size = w.heap.size + 2 := by subst hW1; simp
  clear hW1
  have qa0_1 := cell_regrown a0_1
  have qa1_1 := cell_regrown a1_1
  have qr0_1 := cell_regrown r0_1
  have qr1_1 := cell_regrown r1_1
  refine (shelfOf_any _ _ I F _ (H0.out.later c1) (H1.out.later c1)).mono ?_
  rintro e w2 ⟨⟨X, G, hx, hg, rfl, hc⟩, b2⟩
  obtain ⟨w3, hst, h3, o3, s3⟩ := stH_at (shAt_of emptyX_length zeroF_length (heap_alloc_new w2 (.cells (cellsH emptyX zeroF).toArray 59))) hx hg
  have B3 : Below w1.heap.size w1 w3 := (b2.alloc b2.size (.cells (cellsH emptyX zeroF).toArray 59)).trans (o3.below (fun k hk => by have := b2.size; omega) (by have := b2.size; simp; omega))
  have H3 := hid h3
  have hz2 := b2.size
  have Z3 : Hid (w2.heap.size < w3.heap.size) := hid h3.lt
  clear h3 o3 s3 b2 hx hg
  have r0_3 := (B3.cell (p := ⟨w.heap.size + 1, 0, none⟩) rl_1).trans r0_1
  have rf0_3 := (B3.frozen (p := ⟨w.heap.size + 1, 0, none⟩) rl_1).trans rf0_1
  have r1_3 := (B3.cell (p := ⟨w.heap.size + 1, 1, none⟩) rl_1).trans r1_1
  have rf1_3 := (B3.frozen (p := ⟨w.heap.size + 1, 1, none⟩) rl_1).trans rf1_1
  have C3 := hid (c1.trans (B3.mono c1.size))
  have rl_3 : w.heap.size + 1 < w3.heap.size := Nat.lt_of_lt_of_le rl_1 B3.size
  clear r0_1 r1_1 rf0_1 rf1_1 a0_1 a1_1 qa0_1 qa1_1 qr0_1 qr1_1 c1 B3
  cases hok : okC I F with
  | false =>
    obtain rfl : D = ([], []) := by rw [← hD]; simp [ansF, hok]
    go_wp2_with fail
    have e0 : ((w3.setCell ⟨w.heap.size + 1, 0, none⟩ (.slice none 0 0)).setCell ⟨w.heap.size + 1, 1, none⟩ (.slice none 0 0)).cell? ⟨w.heap.size + 1, 0, none⟩ = some (.slice none 0 0) := by go_cell
    have e1 : ((w3.setCell ⟨w.heap.size + 1, 0, none⟩ (.slice none 0 0)).setCell ⟨w.heap.size + 1, 1, none⟩ (.slice none 0 0)).cell? ⟨w.heap.size + 1, 1, none⟩ = some (.slice none 0 0) := by go_cell
    refine bodyPost_ret (v := .agg #[.slice none 0 0, .slice none 0 0]) (by simp [results, Try.results13, go_sem, e0, e1]) rfl ⟨⟨none, 0, _, w.heap.size, rfl, Nat.le_refl _, by simp; omega, OwnM.nil _ _, .inl ⟨rfl, rfl⟩⟩, (C3.out.setCell (p := ⟨w.heap.size + 1, 0, none⟩) (by show w.heap.size ≤ w.heap.size + 1; omega) (.slice none 0 0)).setCell (p := ⟨w.heap.size + 1, 1, none⟩) (by show w.heap.size ≤ w.heap.size + 1; omega) (.slice none 0 0)⟩
  | true =>
    obtain ⟨rfl, rfl⟩ := hc hok
    have HFL := hid (floF_of H1.out (okC_iff.1 hok).1)
    have HOK := hid hok
    clear hc
    go_wp2_with fail
    refine (raiseX_any w2.heap.size (itemsX I) G key ver _ H3.out).mono ?_
    rintro e w4 ⟨rfl, h4, o4⟩
    cases hra : raB G key ver with
    | false =>
      rw [hra] at h4
      obtain rfl : D = (I, G) := by rw [← hD]; simp [ansF, hok, hra]
      simp only [Bool.false_eq_true, if_false] at h4
      have HM : Hid (∀ x ∈ I, x.1.length = 3 ∧ x.2.length ≤ 8) := hid (fun x hx => ⟨HL3.out x hx, (okC_small HOK.out).2 x hx⟩)
      clear hok hra hD
      have H4 := hid h4
      have hld := ldH_at h4
      have r0_4 := (World.cell?_of_block (a := ⟨w.heap.size + 1, 0, none⟩) (o4.block _ rl_3 (by show ¬ w.heap.size + 1 = _; omega))).trans r0_3
      have rf0_4 := (World.frozen?_of_block (a := ⟨w.heap.size + 1, 0, none⟩) (o4.block _ rl_3 (by show ¬ w.heap.size + 1 = _; omega))).trans rf0_3
      have r1_4 := (World.cell?_of_block (a := ⟨w.heap.size + 1, 1, none⟩) (o4.block _ rl_3 (by show ¬ w.heap.size + 1 = _; omega))).trans r1_3
      have rf1_4 := (World.frozen?_of_block (a := ⟨w.heap.size + 1, 1, none⟩) (o4.block _ rl_3 (by show ¬ w.heap.size + 1 = _; omega))).trans rf1_3
      have rl_4 : w.heap.size + 1 < w4.heap.size := Nat.lt_of_lt_of_le rl_3 o4.size
      have C4 := hid (C3.out.trans (o4.below (fun j hj => by omega) (by have := C3.out.size; omega)))
      clear h4 o4 r0_3 r1_3 rf0_3 rf1_3 hst
      go_wp2_with fail
      refine (told_any (itemsX I) (G) _ H4.out.x4 HFL.out (by rw [list_items (okC_small HOK.out).1]; exact HM.out)).mono ?_
      rintro e w5 ⟨⟨a, c, fv, g, rfl, hB, hg5, ho, hf⟩, b5⟩
      obtain ⟨fo, fc, hfv⟩ := hf.slice
      subst hfv
      rw [list_items (okC_small HOK.out).1] at ho ⊢
      have HO := hid ho
      have HF := hid hf
      have r0_5 := (b5.cell (p := ⟨w.heap.size + 1, 0, none⟩) rl_4).trans r0_4
      have rf0_5 := (b5.frozen (p := ⟨w.heap.size + 1, 0, none⟩) rl_4).trans rf0_4
      have r1_5 := (b5.cell (p := ⟨w.heap.size + 1, 1, none⟩) rl_4).trans r1_4
      have rf1_5 := (b5.frozen (p := ⟨w.heap.size + 1, 1, none⟩) rl_4).trans rf1_4
      have C5 := hid (C4.out.trans (b5.mono C4.out.size))
      clear b5 ho hf hld r0_4 r1_4 rf0_4 rf1_4
      go_wp2_with fail
      have e0 : ((w5.setCell ⟨w.heap.size + 1, 0, none⟩ (.slice a (I).length c)).setCell ⟨w.heap.size + 1, 1, none⟩ (.slice fo (G).length fc)).cell? ⟨w.heap.size + 1, 0, none⟩ = some (.slice a (I).length c) := by go_cell
      have e1 : ((w5.setCell ⟨w.heap.size + 1, 0, none⟩ (.slice a (I).length c)).setCell ⟨w.heap.size + 1, 1, none⟩ (.slice fo (G).length fc)).cell? ⟨w.heap.size + 1, 1, none⟩ = some (.slice fo (G).length fc) := by go_cell
      obtain ⟨k1, k2, k3⟩ := endC_set HO.out HF.out rl_4 hB hg5 (.slice a (I).length c) (.slice fo (G).length fc)
      have KB := (C5.out.setCell (p := ⟨w.heap.size + 1, 0, none⟩) (by show w.heap.size ≤ w.heap.size + 1; omega) (.slice a (I).length c)).setCell (p := ⟨w.heap.size + 1, 1, none⟩) (by show w.heap.size ≤ w.heap.size + 1; omega) (.slice fo (G).length fc)
      exact bodyPost_ret (v := .agg #[(.slice a (I).length c), (.slice fo (G).length fc)]) (by simp [results, Try.results13, go_sem, e0, e1]) rfl ⟨⟨a, c, _, g, rfl, by omega, k1, k2, k3⟩, KB⟩
    | true =>
      rw [hra] at h4
      obtain rfl : D = (dropI key I, putF G key ver) := by rw [← hD]; simp [ansF, hok, hra]
      simp only [if_true] at h4
      have HM : Hid (∀ x ∈ dropI key I, x.1.length = 3 ∧ x.2.length ≤ 8) := hid (fun x hx => ⟨HL3.out x (List.mem_filter.1 hx).1, (okC_small HOK.out).2 x (List.mem_filter.1 hx).1⟩)
      have HFP : Hid (FloF (putF G key ver)) := hid (HFL.out.set _ _ (by
        have : keyIn key = true := by simp [raB] at hra; exact hra.1
        have : 0 ≤ key ∧ key < 24 := by simpa [keyIn] using this
        omega))
      clear hok hra hD
      have H4 := hid h4
      have hld := ldH_at h4
      have r0_4 := (World.cell?_of_block (a := ⟨w.heap.size + 1, 0, none⟩) (o4.block _ rl_3 (by show ¬ w.heap.size + 1 = _; omega))).trans r0_3
      have rf0_4 := (World.frozen?_of_block (a := ⟨w.heap.size + 1, 0, none⟩) (o4.block _ rl_3 (by show ¬ w.heap.size + 1 = _; omega))).trans rf0_3
      have r1_4 := (World.cell?_of_block (a := ⟨w.heap.size + 1, 1, none⟩) (o4.block _ rl_3 (by show ¬ w.heap.size + 1 = _; omega))).trans r1_3
      have rf1_4 := (World.frozen?_of_block (a := ⟨w.heap.size + 1, 1, none⟩) (o4.block _ rl_3 (by show ¬ w.heap.size + 1 = _; omega))).trans rf1_3
      have rl_4 : w.heap.size + 1 < w4.heap.size := Nat.lt_of_lt_of_le rl_3 o4.size
      have C4 := hid (C3.out.trans (o4.below (fun j hj => by omega) (by have := C3.out.size; omega)))
      clear h4 o4 r0_3 r1_3 rf0_3 rf1_3 hst
      go_wp2_with fail
      refine (told_any (dropX key (itemsX I)) (putF G key ver) _ H4.out.x4 HFP.out (by rw [list_dropI HOK.out key]; exact HM.out)).mono ?_
      rintro e w5 ⟨⟨a, c, fv, g, rfl, hB, hg5, ho, hf⟩, b5⟩
      obtain ⟨fo, fc, hfv⟩ := hf.slice
      subst hfv
      rw [list_dropI HOK.out key] at ho ⊢
      have HO := hid ho
      have HF := hid hf
      have r0_5 := (b5.cell (p := ⟨w.heap.size + 1, 0, none⟩) rl_4).trans r0_4
      have rf0_5 := (b5.frozen (p := ⟨w.heap.size + 1, 0, none⟩) rl_4).trans rf0_4
      have r1_5 := (b5.cell (p := ⟨w.heap.size + 1, 1, none⟩) rl_4).trans r1_4
      have rf1_5 := (b5.frozen (p := ⟨w.heap.size + 1, 1, none⟩) rl_4).trans rf1_4
      have C5 := hid (C4.out.trans (b5.mono C4.out.size))
      clear b5 ho hf hld r0_4 r1_4 rf0_4 rf1_4
      go_wp2_with fail
      have e0 : ((w5.setCell ⟨w.heap.size + 1, 0, none⟩ (.slice a (dropI key I).length c)).setCell ⟨w.heap.size + 1, 1, none⟩ (.slice fo (putF G key ver).length fc)).cell? ⟨w.heap.size + 1, 0, none⟩ = some (.slice a (dropI key I).length c) := by go_cell
      have e1 : ((w5.setCell ⟨w.heap.size + 1, 0, none⟩ (.slice a (dropI key I).length c)).setCell ⟨w.heap.size + 1, 1, none⟩ (.slice fo (putF G key ver).length fc)).cell? ⟨w.heap.size + 1, 1, none⟩ = some (.slice fo (putF G key ver).length fc) := by go_cell
      obtain ⟨k1, k2, k3⟩ := endC_set HO.out HF.out rl_4 hB hg5 (.slice a (dropI key I).length c) (.slice fo (putF G key ver).length fc)
      have KB := (C5.out.setCell (p := ⟨w.heap.size + 1, 0, none⟩) (by show w.heap.size ≤ w.heap.size + 1; omega) (.slice a (dropI key I).length c)).setCell (p := ⟨w.heap.size + 1, 1, none⟩) (by show w.heap.size ≤ w.heap.size + 1; omega) (.slice fo (putF G key ver).length fc)
      exact bodyPost_ret (v := .agg #[(.slice a (dropI key I).length c), (.slice fo (putF G key ver).length fc)]) (by simp [results, Try.results13, go_sem, e0, e1]) rfl ⟨⟨a, c, _, g, rfl, by omega, k1, k2, k3⟩, KB⟩

/-! ### impl.CachePut -/
set_option maxRecDepth 100000 in
set_option maxHeartbeats 4000000 in
theorem implCPut_any (v0 v1 : Value) (I F : List KD) (k v n : Int) (u : Value) (l : List (Int × Int)) (w : World) (h0 : RdM 4 3 true w v0 I) (h1 : RdM 1 1 false w v1 F) (hu : Rd w u l) {D : (List KD × List KD) × Bool} (hD : ansP I F k v n l = D) :
    Calls Try.prog 5 #[.agg #[v0, v1], .agg #[.int .i64 k, .int .i64 v, .int .i64 n, u]] w fun e w' => (∃ r, e = .returned (.tuple #[r, .bool D.2]) ∧ EndC w.heap.size w' D.1.1 D.1.2 (.returned r)) ∧ Below w.heap.size w w' := by
  have H0 := hid h0
  have H1 := hid h1
  have HU := hid hu
  obtain ⟨uo, uc, rfl, _⟩ := hu
  obtain ⟨ai, ci, rfl, hq0, hq1⟩ := h0
  obtain ⟨af, cf, rfl, hq2, hq3⟩ := h1
  have HL3 : Hid (∀ x ∈ I, x.1.length = 3) := hid (fun x hx => by
    obtain ⟨i, hi, rfl⟩ := List.getElem_of_mem hx
    obtain ⟨_, _, _, _, hat⟩ := hq1 (by omega)
    have := (hat i hi).len
    rwa [getD_at hi] at this)
  clear hq0 hq1 hq2 hq3
  go_enter Try.func5, Try.ntmps5
  go_wp2_with fail
  generalize hW1 : (((w.alloc (.cells #[.slice ai I.length ci, .slice af F.length cf] 26)).alloc (.cells #[.int .i64 k, .int .i64 v, .int .i64 n, .slice uo l.length uc] 31)).alloc (.cells #[.slice none 0 0, .slice none 0 0] 26)) = w1
  have a0_1 : w1.cell? ⟨w.heap.size, 0, none⟩ = some (.slice ai I.length ci) := by subst hW1; go_cell
  have a1_1 : w1.cell? ⟨w.heap.size, 1, none⟩ = some (.slice af F.length cf) := by subst hW1; go_cell
  have al_1 : w.heap.size < w1.heap.size := by subst hW1; first | (simp; done) | (simp; omega)
  have b0_1 : w1.cell? ⟨w.heap.size + 1, 0, none⟩ = some (.int .i64 k) := by subst hW1; go_cell
  have b1_1 : w1.cell? ⟨w.heap.size + 1, 1, none⟩ = some (.int .i64 v) := by subst hW1; go_cell
  have b2_1 : w1.cell? ⟨w.heap.size + 1, 2, none⟩ = some (.int .i64 n) := by subst hW1; go_cell
  have b3_1 : w1.cell? ⟨w.heap.size + 1, 3, none⟩ = some (.slice uo l.length uc) := by subst hW1; go_cell
  have bl_1 : w.heap.size + 1 < w1.heap.size := by subst hW1; first | (simp; done) | (simp; omega)
  have r0_1 : w1.cell? ⟨w.heap.size + 1 + 1, 0, none⟩ = some (.slice none 0 0) := by subst hW1; go_cell
  have rf0_1 : w1.frozen? ⟨w.heap.size + 1 + 1, 0, none⟩ = false := by subst hW1; (first | go_cell | (simp [World.frozen?, World.alloc]; done) | rfl)
  have r1_1 : w1.cell? ⟨w.heap.size + 1 + 1, 1, none⟩ = some (.slice none 0 0) := by subst hW1; go_cell
  have rf1_1 : w1.frozen? ⟨w.heap.size + 1 + 1, 1, none⟩ = false := by subst hW1; (first | go_cell | (simp [World.frozen?, World.alloc]; done) | rfl)
  have rl_1 : w.heap.size + 1 + 1 < w1.heap.size := by subst hW1; first | (simp; done) | (simp; omega)
  have c1 : Below w.heap.size w w1 := by subst hW1; go_grown
  have s1 : w1.heap.size = w.heap.size + 3 := by subst hW1; simp
  clear hW1
  have qa0_1 := cell_regrown a0_1
  have qa1_1 := cell_regrown a1_1
  have qb0_1 := cell_regrown b0_1
  have qb1_1 := cell_regrown b1_1
  have qb2_1 := cell_regrown b2_1
  have qb3_1 := cell_regrown b3_1
  have qr0_1 := cell_regrown r0_1
  have qr1_1 := cell_regrown r1_1
  refine (shelfOf_any _ _ I F _ (H0.out.later c1) (H1.out.later c1)).mono ?_
  rintro e w2 ⟨⟨X, G, hx, hg, rfl, hc⟩, b2⟩
  obtain ⟨w3, hst, h3, o3, s3⟩ := stH_at (shAt_of emptyX_length zeroF_length (heap_alloc_new w2 (.cells (cellsH emptyX zeroF).toArray 59))) hx hg
  have B3 : Below w1.heap.size w1 w3 := (b2.alloc b2.size (.cells (cellsH emptyX zeroF).toArray 59)).trans (o3.below (fun k hk => by have := b2.size; omega) (by have := b2.size; simp; omega))
  have H3 := hid h3
  have hz2 := b2.size
  have Z3 : Hid (w2.heap.size < w3.heap.size) := hid h3.lt
  clear h3 o3 s3 b2 hx hg
  have r0_3 := (B3.cell (p := ⟨w.heap.size + 1 + 1, 0, none⟩) rl_1).trans r0_1
  have rf0_3 := (B3.frozen (p := ⟨w.heap.size + 1 + 1, 0, none⟩) rl_1).trans rf0_1
  have r1_3 := (B3.cell (p := ⟨w.heap.size + 1 + 1, 1, none⟩) rl_1).trans r1_1
  have rf1_3 := (B3.frozen (p := ⟨w.heap.size + 1 + 1, 1, none⟩) rl_1).trans rf1_1
  have C3 := hid (c1.trans (B3.mono c1.size))
  have rl_3 : w.heap.size + 1 + 1 < w3.heap.size := Nat.lt_of_lt_of_le rl_1 B3.size
  have b0_3 := (B3.cell (p := ⟨w.heap.size + 1, 0, none⟩) bl_1).trans b0_1
  have b1_3 := (B3.cell (p := ⟨w.heap.size + 1, 1, none⟩) bl_1).trans b1_1
  have b2_3 := (B3.cell (p := ⟨w.heap.size + 1, 2, none⟩) bl_1).trans b2_1
  have b3_3 := (B3.cell (p := ⟨w.heap.size + 1, 3, none⟩) bl_1).trans b3_1
  have HU3 := hid ((HU.out.later c1).later (B3.mono (Nat.le_refl _)))
  have HUL := hid (HU.out.own_lt)
  have hz1 : w.heap.size ≤ w1.heap.size := c1.size
  clear b0_1 b1_1 b2_1 b3_1 qb0_1 qb1_1 qb2_1 qb3_1
  clear r0_1 r1_1 rf0_1 rf1_1 a0_1 a1_1 qa0_1 qa1_1 qr0_1 qr1_1 c1 B3
  cases hok : okC I F with
  | false =>
    obtain rfl : D = (([], []), false) := by rw [← hD]; simp [ansP, hok]
    go_wp2_with fail
    have e0 : ((w3.setCell ⟨w.heap.size + 1 + 1, 0, none⟩ (.slice none 0 0)).setCell ⟨w.heap.size + 1 + 1, 1, none⟩ (.slice none 0 0)).cell? ⟨w.heap.size + 1 + 1, 0, none⟩ = some (.slice none 0 0) := by go_cell
    have e1 : ((w3.setCell ⟨w.heap.size + 1 + 1, 0, none⟩ (.slice none 0 0)).setCell ⟨w.heap.size + 1 + 1, 1, none⟩ (.slice none 0 0)).cell? ⟨w.heap.size + 1 + 1, 1, none⟩ = some (.slice none 0 0) := by go_cell
    refine bodyPost_ret (v := .tuple #[.agg #[.slice none 0 0, .slice none 0 0], .bool false]) (by simp [results, Try.results5, go_sem, e0, e1]) rfl ⟨⟨_, rfl, none, 0, _, w.heap.size, rfl, Nat.le_refl _, by simp; omega, OwnM.nil _ _, .inl ⟨rfl, rfl⟩⟩, (C3.out.setCell (p := ⟨w.heap.size + 1 + 1, 0, none⟩) (by show w.heap.size ≤ w.heap.size + 1 + 1; omega) (.slice none 0 0)).setCell (p := ⟨w.heap.size + 1 + 1, 1, none⟩) (by show w.heap.size ≤ w.heap.size + 1 + 1; omega) (.slice none 0 0)⟩
  | true =>
    obtain ⟨rfl, rfl⟩ := hc hok
    have HFL := hid (floF_of H1.out (okC_iff.1 hok).1)
    have HOK := hid hok
    have HUB : Hid (0 < l.length → ∀ b, (Value.slice uo l.length uc).ownBlock = some b → ¬ b = w2.heap.size) := hid (fun h0 b hb => by have := HUL.out h0 b hb; omega)
    clear hc
    cases hpb : putB G k v n l with
    | false =>
      obtain rfl : D = ((I, G), false) := by rw [← hD]; simp [ansP, hok, hpb]
      have HM : Hid (∀ x ∈ I, x.1.length = 3 ∧ x.2.length ≤ 8) := hid (fun x hx => ⟨HL3.out x hx, (okC_small HOK.out).2 x hx⟩)
      have HPB := hid hpb
      clear hok hpb hD
      go_wp2_with fail
      refine (putX_no w2.heap.size fr0 (itemsX I) G k v n _ l _ H3.out HU3.out HPB.out).mono ?_
      rintro e w4 ⟨rfl, b4⟩
      have h4 := H3.out.later b4
      have o4 : Only (fun j => j = w2.heap.size) w3 w4 := Only.later b4
      clear b4
      have H4 := hid h4
      have hld := ldH_at h4
      have r0_4 := (World.cell?_of_block (a := ⟨w.heap.size + 1 + 1, 0, none⟩) (o4.block _ rl_3 (by show ¬ w.heap.size + 1 + 1 = _; omega))).trans r0_3
      have rf0_4 := (World.frozen?_of_block (a := ⟨w.heap.size + 1 + 1, 0, none⟩) (o4.block _ rl_3 (by show ¬ w.heap.size + 1 + 1 = _; omega))).trans rf0_3
      have r1_4 := (World.cell?_of_block (a := ⟨w.heap.size + 1 + 1, 1, none⟩) (o4.block _ rl_3 (by show ¬ w.heap.size + 1 + 1 = _; omega))).trans r1_3
      have rf1_4 := (World.frozen?_of_block (a := ⟨w.heap.size + 1 + 1, 1, none⟩) (o4.block _ rl_3 (by show ¬ w.heap.size + 1 + 1 = _; omega))).trans rf1_3
      have rl_4 : w.heap.size + 1 + 1 < w4.heap.size := Nat.lt_of_lt_of_le rl_3 o4.size
      have C4 := hid (C3.out.trans (o4.below (fun j hj => by omega) (by have := C3.out.size; omega)))
      clear h4 o4 r0_3 r1_3 rf0_3 rf1_3 hst
      go_wp2_with fail
      refine (told_any (itemsX I) (G) _ H4.out.x4 HFL.out (by rw [list_items (okC_small HOK.out).1]; exact HM.out)).mono ?_
      rintro e w5 ⟨⟨a, c, fv, g, rfl, hB, hg5, ho, hf⟩, b5⟩
      obtain ⟨fo, fc, hfv⟩ := hf.slice
      subst hfv
      rw [list_items (okC_small HOK.out).1] at ho ⊢
      have HO := hid ho
      have HF := hid hf
      have r0_5 := (b5.cell (p := ⟨w.heap.size + 1 + 1, 0, none⟩) rl_4).trans r0_4
      have rf0_5 := (b5.frozen (p := ⟨w.heap.size + 1 + 1, 0, none⟩) rl_4).trans rf0_4
      have r1_5 := (b5.cell (p := ⟨w.heap.size + 1 + 1, 1, none⟩) rl_4).trans r1_4
      have rf1_5 := (b5.frozen (p := ⟨w.heap.size + 1 + 1, 1, none⟩) rl_4).trans rf1_4
      have C5 := hid (C4.out.trans (b5.mono C4.out.size))
      clear b5 ho hf hld r0_4 r1_4 rf0_4 rf1_4
      go_wp2_with fail
      have e0 : ((w5.setCell ⟨w.heap.size + 1 + 1, 0, none⟩ (.slice a (I).length c)).setCell ⟨w.heap.size + 1 + 1, 1, none⟩ (.slice fo (G).length fc)).cell? ⟨w.heap.size + 1 + 1, 0, none⟩ = some (.slice a (I).length c) := by go_cell
      have e1 : ((w5.setCell ⟨w.heap.size + 1 + 1, 0, none⟩ (.slice a (I).length c)).setCell ⟨w.heap.size + 1 + 1, 1, none⟩ (.slice fo (G).length fc)).cell? ⟨w.heap.size + 1 + 1, 1, none⟩ = some (.slice fo (G).length fc) := by go_cell
      obtain ⟨k1, k2, k3⟩ := endC_set HO.out HF.out rl_4 hB hg5 (.slice a (I).length c) (.slice fo (G).length fc)
      have KB := (C5.out.setCell (p := ⟨w.heap.size + 1 + 1, 0, none⟩) (by show w.heap.size ≤ w.heap.size + 1 + 1; omega) (.slice a (I).length c)).setCell (p := ⟨w.heap.size + 1 + 1, 1, none⟩) (by show w.heap.size ≤ w.heap.size + 1 + 1; omega) (.slice fo (G).length fc)
      exact bodyPost_ret (v := .tuple #[.agg #[(.slice a (I).length c), (.slice fo (G).length fc)], .bool false]) (by simp [results, Try.results5, go_sem, e0, e1]) rfl ⟨⟨_, rfl, a, c, _, g, rfl, by omega, k1, k2, k3⟩, KB⟩
    | true =>
      obtain rfl : D = ((putI k v n l I, putF G k v), true) := by rw [← hD]; simp [ansP, hok, hpb]
      have HPB := hid hpb
      have HM : Hid (∀ x ∈ putI k v n l I, x.1.length = 3 ∧ x.2.length ≤ 8) := hid (fun x hx => by
        have hm := List.mem_of_mem_take hx
        rcases List.mem_cons.1 hm with rfl | hm
        · refine ⟨rfl, ?_⟩
          have hp := HPB.out
          unfold putB itR at hp
          simp only [Bool.and_eq_true] at hp
          exact okV_le hp.1.2
        · exact ⟨HL3.out x (List.mem_filter.1 hm).1, (okC_small HOK.out).2 x (List.mem_filter.1 hm).1⟩)
      clear hok hpb hD
      go_wp2_with fail
      refine (putX_any w2.heap.size fr0 (itemsX I) G k v n _ l _ H3.out HU3.out HUB.out HPB.out).mono ?_
      rintro e w4 ⟨rfl, h4, o4⟩
      have H4 := hid h4
      have hld := ldH_at h4
      have r0_4 := (World.cell?_of_block (a := ⟨w.heap.size + 1 + 1, 0, none⟩) (o4.block _ rl_3 (by show ¬ w.heap.size + 1 + 1 = _; omega))).trans r0_3
      have rf0_4 := (World.frozen?_of_block (a := ⟨w.heap.size + 1 + 1, 0, none⟩) (o4.block _ rl_3 (by show ¬ w.heap.size + 1 + 1 = _; omega))).trans rf0_3
      have r1_4 := (World.cell?_of_block (a := ⟨w.heap.size + 1 + 1, 1, none⟩) (o4.block _ rl_3 (by show ¬ w.heap.size + 1 + 1 = _; omega))).trans r1_3
      have rf1_4 := (World.frozen?_of_block (a := ⟨w.heap.size + 1 + 1, 1, none⟩) (o4.block _ rl_3 (by show ¬ w.heap.size + 1 + 1 = _; omega))).trans rf1_3
      have rl_4 : w.heap.size + 1 + 1 < w4.heap.size := Nat.lt_of_lt_of_le rl_3 o4.size
      have C4 := hid (C3.out.trans (o4.below (fun j hj => by omega) (by have := C3.out.size; omega)))
      clear h4 o4 r0_3 r1_3 rf0_3 rf1_3 hst
      go_wp2_with fail
      refine (told_any (putX (itemsX I) k v n l) (putF G k v) _ H4.out.x4 (okC_putF HFL.out HPB.out) (by rw [list_put HOK.out k v n l]; exact HM.out)).mono ?_
      rintro e w5 ⟨⟨a, c, fv, g, rfl, hB, hg5, ho, hf⟩, b5⟩
      obtain ⟨fo, fc, hfv⟩ := hf.slice
      subst hfv
      rw [list_put HOK.out k v n l] at ho ⊢
      have HO := hid ho
      have HF := hid hf
      have r0_5 := (b5.cell (p := ⟨w.heap.size + 1 + 1, 0, none⟩) rl_4).trans r0_4
      have rf0_5 := (b5.frozen (p := ⟨w.heap.size + 1 + 1, 0, none⟩) rl_4).trans rf0_4
      have r1_5 := (b5.cell (p := ⟨w.heap.size + 1 + 1, 1, none⟩) rl_4).trans r1_4
      have rf1_5 := (b5.frozen (p := ⟨w.heap.size + 1 + 1, 1, none⟩) rl_4).trans rf1_4
      have C5 := hid (C4.out.trans (b5.mono C4.out.size))
      clear b5 ho hf hld r0_4 r1_4 rf0_4 rf1_4
      go_wp2_with fail
      have e0 : ((w5.setCell ⟨w.heap.size + 1 + 1, 0, none⟩ (.slice a (putI k v n l I).length c)).setCell ⟨w.heap.size + 1 + 1, 1, none⟩ (.slice fo (putF G k v).length fc)).cell? ⟨w.heap.size + 1 + 1, 0, none⟩ = some (.slice a (putI k v n l I).length c) := by go_cell
      have e1 : ((w5.setCell ⟨w.heap.size + 1 + 1, 0, none⟩ (.slice a (putI k v n l I).length c)).setCell ⟨w.heap.size + 1 + 1, 1, none⟩ (.slice fo (putF G k v).length fc)).cell? ⟨w.heap.size + 1 + 1, 1, none⟩ = some (.slice fo (putF G k v).length fc) := by go_cell
      obtain ⟨k1, k2, k3⟩ := endC_set HO.out HF.out rl_4 hB hg5 (.slice a (putI k v n l I).length c) (.slice fo (putF G k v).length fc)
      have KB := (C5.out.setCell (p := ⟨w.heap.size + 1 + 1, 0, none⟩) (by show w.heap.size ≤ w.heap.size + 1 + 1; omega) (.slice a (putI k v n l I).length c)).setCell (p := ⟨w.heap.size + 1 + 1, 1, none⟩) (by show w.heap.size ≤ w.heap.size + 1 + 1; omega) (.slice fo (putF G k v).length fc)
      exact bodyPost_ret (v := .tuple #[.agg #[(.slice a (putI k v n l I).length c), (.slice fo (putF G k v).length fc)], .bool true]) (by simp [results, Try.results5, go_sem, e0, e1]) rfl ⟨⟨_, rfl, a, c, _, g, rfl, by omega, k1, k2, k3⟩, KB⟩
end Go.Proofs.Ytilbaiohcfhcaaa
