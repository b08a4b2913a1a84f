/- impl.change with the methods of each write: contracts. -/
import Derived.Test.YtpdfhffmhlgcmaaAw
import Derived.Test.YtpdfhffmhlgcmaaOb
namespace Go.Proofs.Ytpdfhffmhlgcmaa
open Go.RowKit
attribute [local go_sem ↓] Go.wp_at_zero Go.wp_at_succ
attribute [local go_sem ↓] ldS_open stS_open ixS_open zeroR

theorem Own.setOther {w : World} {B : Nat} {v : Value} {l : List (Int × Int)} {p : Addr} (h : Own w B v l) (hp : v.ownBlock ≠ some p.block) (u : Value) : Own (w.setCell p u) B v l := by
  refine ⟨h.1, ?_⟩
  rcases h.2 with hn | ⟨g, cap, cur, rfl, hbg, hgg, rest⟩
  · exact .inl hn
  · exact .inr ⟨g, cap, cur, rfl, hbg, (Below.heap_setCell w p u g (fun e => hp (by rw [← e]; rfl))).trans hgg, rest⟩
/-- Rows in block g, their kin in blocks of their own from B on. -/
structure BackN (w : World) (B g : Nat) (M : List ValD) (ds : Array Value) : Prop where
  row : w.heap[g]? = some (.cells ds 43 (0, 0))
  size : ds.size = 48
  len : M.length = 24
  num : ∀ k, k < 24 → ds[k * 2]? = some (.int .i64 (M.getD k valD0).1)
  kin : ∀ k, k < 24 → ∃ u, ds[k * 2 + 1]? = some u ∧ Own w B u (M.getD k valD0).2 ∧ u.ownBlock ≠ some g
  dis : DisD ds 24
theorem BackN.lt {w : World} {B g : Nat} {M : List ValD} {ds : Array Value} (h : BackN w B g M ds) : g < w.heap.size := (Array.getElem?_eq_some_iff.1 h.row).1
theorem BackN.later {w w' : World} {B g : Nat} {M : List ValD} {ds : Array Value} (h : BackN w B g M ds) (hb : Below w.heap.size w w') : BackN w' B g M ds :=
  ⟨(hb.block g h.lt).trans h.row, h.size, h.len, h.num, fun k hk => by obtain ⟨u, h1, h2, h3⟩ := h.kin k hk; exact ⟨u, h1, h2.later hb, h3⟩, h.dis⟩
theorem BackN.c0 {w : World} {B g : Nat} {M : List ValD} {ds : Array Value} (h : BackN w B g M ds) {k : Nat} (hk : k < 24) : w.cell? ⟨g, k * 2, none⟩ = some (.int .i64 (M.getD k valD0).1) :=
  (cell_of_row w g (k * 2) ds _ _ h.row).trans (h.num k hk)
theorem BackN.c1 {w : World} {B g : Nat} {M : List ValD} {ds : Array Value} (h : BackN w B g M ds) {k : Nat} (hk : k < 24) : ∃ u, w.cell? ⟨g, k * 2 + 1, none⟩ = some u ∧ Own w B u (M.getD k valD0).2 := by
  obtain ⟨u, h1, h2, _⟩ := h.kin k hk
  exact ⟨u, (cell_of_row w g (k * 2 + 1) ds _ _ h.row).trans h1, h2⟩
theorem BackN.frz {w : World} {B g : Nat} {M : List ValD} {ds : Array Value} (h : BackN w B g M ds) (o : Nat) : w.frozen? ⟨g, o, none⟩ = false := frozen_of_row w g o ds _ h.row
theorem BackN.bel {w : World} {B g : Nat} {M : List ValD} {ds : Array Value} (h : BackN w B g M ds) : BelD ds 24 w.heap.size := fun i hi ui h1 b hb => by
  obtain ⟨u, h2, h3, _⟩ := h.kin i hi
  rw [h1] at h2
  cases h2
  exact (h3.block b hb).2
theorem DisD.num {ds : Array Value} {n : Nat} (h : DisD ds n) (k : Nat) (x : Value) : DisD (ds.setIfInBounds (k * 2) x) n := by
  intro i j hi hj hij ui uj h1 h2
  rw [Array.getElem?_setIfInBounds, if_neg (by omega)] at h1 h2
  exact h i j hi hj hij ui uj h1 h2
theorem BelD.num {ds : Array Value} {n C : Nat} (h : BelD ds n C) (k : Nat) (x : Value) : BelD (ds.setIfInBounds (k * 2) x) n C := by
  intro i hi ui h1
  rw [Array.getElem?_setIfInBounds, if_neg (by omega)] at h1
  exact h i hi ui h1
theorem BackN.set {w : World} {B g : Nat} {M : List ValD} {ds : Array Value} (h : BackN w B g M ds) {k : Nat} (hk : k < 24) (n : Int) {u : Value} {l : List (Int × Int)} (hu : Own w B u l) (hne : u.ownBlock ≠ some g) {C : Nat} (hC : BelD ds 24 C) (hCu : ∀ b, u.ownBlock = some b → C ≤ b) :
    ∃ ds', BackN ((w.setCell ⟨g, k * 2, none⟩ (.int .i64 n)).setCell ⟨g, k * 2 + 1, none⟩ u) B g (M.set k (n, l)) ds' := by
  refine ⟨(ds.setIfInBounds (k * 2) (.int .i64 n)).setIfInBounds (k * 2 + 1) u, heap_setCell_same _ g (k * 2 + 1) _ _ _ (heap_setCell_same w g (k * 2) ds _ _ h.row), by simp [h.size], by simp [h.len], fun j hj => ?_, fun j hj => ?_, (h.dis.num k _).step (hC.num k _) hCu (by rw [Array.size_setIfInBounds, h.size]; omega) 24 (fun i hi _ => hi)⟩
  · rw [getD_set (by rw [h.len]; exact hk), Array.getElem?_setIfInBounds, if_neg (by omega), Array.getElem?_setIfInBounds]
    by_cases e : j = k
    · subst e; rw [if_pos rfl, if_pos rfl, if_pos (by rw [h.size]; omega)]
    · rw [if_neg (by omega), if_neg e]; exact h.num j hj
  · rw [getD_set (by rw [h.len]; exact hk), Array.getElem?_setIfInBounds]
    by_cases e : j = k
    · subst e
      rw [if_pos rfl, if_pos rfl, if_pos (by simp [h.size]; omega)]
      exact ⟨u, rfl, (hu.setOther (p := ⟨g, j * 2, none⟩) hne _).setOther (p := ⟨g, j * 2 + 1, none⟩) hne _, hne⟩
    · rw [if_neg (by omega), if_neg e, Array.getElem?_setIfInBounds, if_neg (by omega)]
      obtain ⟨u', h1, h2, h3⟩ := h.kin j hj
      exact ⟨u', h1, (h2.setOther (p := ⟨g, k * 2, none⟩) h3 _).setOther (p := ⟨g, k * 2 + 1, none⟩) h3 _, h3⟩
theorem BackN.start {w : World} {B : Nat} {L : List ValD} {ds : Array Value} (h : AgO w B ds L 24) : BackN ((w.alloc (.cells zeroV 43)).setRow w.heap.size ds) B w.heap.size L ds := by
  refine ⟨setRow_heap _ _ _ _ _ _ (heap_alloc_new w _), h.size, h.len, h.num, fun k hk => ?_, h.dis⟩
  obtain ⟨u, h1, h2⟩ := h.kin k hk
  exact ⟨u, h1, h2.later (below_setRow ((Below.refl _ w).alloc (Nat.le_refl _) _) (Nat.le_refl _) ds), fun e => Nat.lt_irrefl _ (h2.block _ e).2⟩
theorem BackN.rdG {w : World} {B g : Nat} {M : List ValD} {ds : Array Value} (h : BackN w B g M ds) (cap : Nat) : RdG w (.slice (some ⟨g, 0, none⟩) 24 cap) M := by
  refine ⟨some ⟨g, 0, none⟩, cap, by rw [h.len], by rw [h.len]; decide, fun _ => ⟨g, 0, rfl, h.lt, fun i hi => ?_⟩⟩
  have hi : i < 24 := by rw [← h.len]; exact hi
  rw [Nat.zero_add]
  obtain ⟨u, h1, h2⟩ := h.c1 hi
  exact ⟨h.c0 hi, u, h1, h2.rd⟩
theorem setDo_val (k a b n m : Int) (v : Value) (w : World) : Calls Try.prog 81 #[.agg #[.int .i64 k, .int .i64 a, .int .i64 b, .int .i64 n], .agg #[.int .i64 m, v]] w fun e w' => ValA w.heap.size w' e n [] ∧ Below w.heap.size w w' :=
  (setDo_any k a b n m v w).mono fun _ _ ⟨he, hb⟩ => ⟨he ▸ valA_nil _ _ _, hb⟩

set_option maxRecDepth 100000 in
set_option maxHeartbeats 2000000 in
theorem change_setDo (k a b n : Int) (B g J : Nat) (M : List ValD) (ds : Array Value) (w : World) (hB : BackN w B g M ds) (hJ : J < 24) (hBw : B ≤ w.heap.size) (m : ValD) (hM : M.getD J valD0 = m) (_ : m.2.length ≤ 1099511627776) :
    Calls Try.prog 21 #[.pointer (some ⟨g, 0, none⟩), .int .i64 (J : Int), .func (.method "loop.example/kith/impl.do") #[setW k a b n] #[]] w fun e w' => e = .returned (.tuple #[]) ∧ (∃ ds', BackN w' B g (M.set J (n, [])) ds') ∧ Below g w w' := by
  have hm := method_setDo k a b n
  have HB := hid hB
  have hJ0 : (0 : Int) ≤ (J : Int) := by omega
  have hJ24 : (J : Int) < 24 := by omega
  clear hB
  go_enter Try.func21, Try.ntmps21
  go_wp2_with fail
  refine (keyRight_yes (J : Int) _ hJ0 hJ24).mono ?_
  rintro e w1 ⟨rfl, b1⟩
  have hB1 := hid (HB.out.later b1)
  have d1 := b1.mono (Nat.le_of_lt HB.out.lt)
  obtain ⟨v, p1, hov⟩ := hB1.out.c1 hJ
  have p0 := hB1.out.c0 hJ
  obtain ⟨vo, vc, hvv, _⟩ := hov.rd
  subst hvv
  have HV := hid hov
  rw [hM] at p0 p1 HV
  clear hM
  have q0 := hB1.out.frz (J * 2)
  have q1 := hB1.out.frz (J * 2 + 1)
  have hgz1 := hB1.out.lt
  have hbz := b1.size
  clear hov b1 HB
  go_upto_region 1 with fail
  go_region_with (first
    | (go_at_call 81; go_loud (refine (setDo_val k a b n m.1 _ _).mono ?_; rintro e w2 ⟨⟨v', rfl, ho⟩, b2⟩; have d2 : Below w1.heap.size w1 w2 := (Below.trans (by go_grown) (b2.mono (by first | omega | (simp; done) | (simp; omega)))); have hB2 := hid (hB1.out.later d2); have c2 := hid (d1.trans (d2.mono (by omega))); obtain ⟨vo', vc', hvv', _⟩ := ho.rd; subst hvv'; have hne := hid (show (Value.slice vo' _ vc').ownBlock ≠ some g from fun e => absurd (ho.block g e).1 (by show ¬ w1.heap.size ≤ g; omega)); have HO := hid (Own.mono ho (B' := B) (by show B ≤ w1.heap.size; omega)); have HCU := hid (show ∀ b, (Value.slice vo' _ vc').ownBlock = some b → w1.heap.size ≤ b from fun b hb => (ho.block b hb).1); have HBEL := hid hB1.out.bel; have q0_2 := hB2.out.frz (J * 2); have q1_2 := hB2.out.frz (J * 2 + 1); have p0_2 := hB2.out.c0 hJ; obtain ⟨v5, p1_2, _⟩ := hB2.out.c1 hJ; have hgz2 := hB2.out.lt; clear ho b2 d2)))
  all_goals
    have hB3 := hid (hB2.out.set hJ (n) HO.out hne.out HBEL.out HCU.out)
    have c3 := hid ((c2.out.setCell (p := ⟨g, J * 2, none⟩) (Nat.le_refl _) (.int .i64 (n))).setCell (p := ⟨g, J * 2 + 1, none⟩) (Nat.le_refl _) (.slice vo' ([] : List (Int × Int)).length vc'))
    go_wp2
    refine bodyPost_end (v := .tuple #[]) (by simp [results, Try.results21]) rfl ⟨rfl, hB3.out, c3.out⟩

set_option maxRecDepth 100000 in
set_option maxHeartbeats 2000000 in
theorem change_bindDo (k a b n : Int) (B g J : Nat) (M : List ValD) (ds : Array Value) (w : World) (hB : BackN w B g M ds) (hJ : J < 24) (hBw : B ≤ w.heap.size) (m : ValD) (hM : M.getD J valD0 = m) (hml : m.2.length ≤ 1099511627776) :
    Calls Try.prog 21 #[.pointer (some ⟨g, 0, none⟩), .int .i64 (J : Int), .func (.method "loop.example/kith/impl.do") #[bindW k a b n] #[]] w fun e w' => e = .returned (.tuple #[]) ∧ (∃ ds', BackN w' B g (M.set J (0, addL m.2 b n)) ds') ∧ Below g w w' := by
  have hm := method_bindDo k a b n
  have HB := hid hB
  have hJ0 : (0 : Int) ≤ (J : Int) := by omega
  have hJ24 : (J : Int) < 24 := by omega
  clear hB
  go_enter Try.func21, Try.ntmps21
  go_wp2_with fail
  refine (keyRight_yes (J : Int) _ hJ0 hJ24).mono ?_
  rintro e w1 ⟨rfl, b1⟩
  have hB1 := hid (HB.out.later b1)
  have d1 := b1.mono (Nat.le_of_lt HB.out.lt)
  obtain ⟨v, p1, hov⟩ := hB1.out.c1 hJ
  have p0 := hB1.out.c0 hJ
  obtain ⟨vo, vc, hvv, _⟩ := hov.rd
  subst hvv
  have HV := hid hov
  rw [hM] at p0 p1 HV
  clear hM
  have q0 := hB1.out.frz (J * 2)
  have q1 := hB1.out.frz (J * 2 + 1)
  have hgz1 := hB1.out.lt
  have hbz := b1.size
  clear hov b1 HB
  go_upto_region 1 with fail
  go_region_with (first
    | (go_at_call 89; go_loud (refine (bindDo_any k a b n m.1 _ m.2 _ (HV.out.rd.later (by go_grown)) hml).mono ?_; rintro e w2 ⟨⟨v', rfl, ho⟩, b2⟩; have d2 : Below w1.heap.size w1 w2 := (Below.trans (by go_grown) (b2.mono (by first | omega | (simp; done) | (simp; omega)))); have hB2 := hid (hB1.out.later d2); have c2 := hid (d1.trans (d2.mono (by omega))); obtain ⟨vo', vc', hvv', _⟩ := ho.rd; subst hvv'; have hne := hid (show (Value.slice vo' _ vc').ownBlock ≠ some g from fun e => absurd (ho.block g e).1 (by show ¬ w1.heap.size ≤ g; omega)); have HO := hid (Own.mono ho (B' := B) (by show B ≤ w1.heap.size; omega)); have HCU := hid (show ∀ b, (Value.slice vo' _ vc').ownBlock = some b → w1.heap.size ≤ b from fun b hb => (ho.block b hb).1); have HBEL := hid hB1.out.bel; have q0_2 := hB2.out.frz (J * 2); have q1_2 := hB2.out.frz (J * 2 + 1); have p0_2 := hB2.out.c0 hJ; obtain ⟨v5, p1_2, _⟩ := hB2.out.c1 hJ; have hgz2 := hB2.out.lt; clear ho b2 d2)))
  all_goals
    have hB3 := hid (hB2.out.set hJ (0) HO.out hne.out HBEL.out HCU.out)
    have c3 := hid ((c2.out.setCell (p := ⟨g, J * 2, none⟩) (Nat.le_refl _) (.int .i64 (0))).setCell (p := ⟨g, J * 2 + 1, none⟩) (Nat.le_refl _) (.slice vo' (addL m.2 b n : List (Int × Int)).length vc'))
    go_wp2
    refine bodyPost_end (v := .tuple #[]) (by simp [results, Try.results21]) rfl ⟨rfl, hB3.out, c3.out⟩

set_option maxRecDepth 100000 in
set_option maxHeartbeats 2000000 in
theorem change_bindBack (k a b n : Int) (B g J : Nat) (M : List ValD) (ds : Array Value) (w : World) (hB : BackN w B g M ds) (hJ : J < 24) (hBw : B ≤ w.heap.size) (m : ValD) (hM : M.getD J valD0 = m) (hml : m.2.length ≤ 1099511627776) :
    Calls Try.prog 21 #[.pointer (some ⟨g, 0, none⟩), .int .i64 (J : Int), .func (.method "loop.example/kith/impl.back") #[bindW k a b n] #[]] w fun e w' => e = .returned (.tuple #[]) ∧ (∃ ds', BackN w' B g (M.set J (0, addL m.2 a n)) ds') ∧ Below g w w' := by
  have hm := method_bindBack k a b n
  have HB := hid hB
  have hJ0 : (0 : Int) ≤ (J : Int) := by omega
  have hJ24 : (J : Int) < 24 := by omega
  clear hB
  go_enter Try.func21, Try.ntmps21
  go_wp2_with fail
  refine (keyRight_yes (J : Int) _ hJ0 hJ24).mono ?_
  rintro e w1 ⟨rfl, b1⟩
  have hB1 := hid (HB.out.later b1)
  have d1 := b1.mono (Nat.le_of_lt HB.out.lt)
  obtain ⟨v, p1, hov⟩ := hB1.out.c1 hJ
  have p0 := hB1.out.c0 hJ
  obtain ⟨vo, vc, hvv, _⟩ := hov.rd
  subst hvv
  have HV := hid hov
  rw [hM] at p0 p1 HV
  clear hM
  have q0 := hB1.out.frz (J * 2)
  have q1 := hB1.out.frz (J * 2 + 1)
  have hgz1 := hB1.out.lt
  have hbz := b1.size
  clear hov b1 HB
  go_upto_region 1 with fail
  go_region_with (first
    | (go_at_call 88; go_loud (refine (bindBack_any k a b n m.1 _ m.2 _ (HV.out.rd.later (by go_grown)) hml).mono ?_; rintro e w2 ⟨⟨v', rfl, ho⟩, b2⟩; have d2 : Below w1.heap.size w1 w2 := (Below.trans (by go_grown) (b2.mono (by first | omega | (simp; done) | (simp; omega)))); have hB2 := hid (hB1.out.later d2); have c2 := hid (d1.trans (d2.mono (by omega))); obtain ⟨vo', vc', hvv', _⟩ := ho.rd; subst hvv'; have hne := hid (show (Value.slice vo' _ vc').ownBlock ≠ some g from fun e => absurd (ho.block g e).1 (by show ¬ w1.heap.size ≤ g; omega)); have HO := hid (Own.mono ho (B' := B) (by show B ≤ w1.heap.size; omega)); have HCU := hid (show ∀ b, (Value.slice vo' _ vc').ownBlock = some b → w1.heap.size ≤ b from fun b hb => (ho.block b hb).1); have HBEL := hid hB1.out.bel; have q0_2 := hB2.out.frz (J * 2); have q1_2 := hB2.out.frz (J * 2 + 1); have p0_2 := hB2.out.c0 hJ; obtain ⟨v5, p1_2, _⟩ := hB2.out.c1 hJ; have hgz2 := hB2.out.lt; clear ho b2 d2)))
  all_goals
    have hB3 := hid (hB2.out.set hJ (0) HO.out hne.out HBEL.out HCU.out)
    have c3 := hid ((c2.out.setCell (p := ⟨g, J * 2, none⟩) (Nat.le_refl _) (.int .i64 (0))).setCell (p := ⟨g, J * 2 + 1, none⟩) (Nat.le_refl _) (.slice vo' (addL m.2 a n : List (Int × Int)).length vc'))
    go_wp2
    refine bodyPost_end (v := .tuple #[]) (by simp [results, Try.results21]) rfl ⟨rfl, hB3.out, c3.out⟩

set_option maxRecDepth 100000 in
set_option maxHeartbeats 2000000 in
theorem change_partDo (k a b n : Int) (B g J : Nat) (M : List ValD) (ds : Array Value) (w : World) (hB : BackN w B g M ds) (hJ : J < 24) (hBw : B ≤ w.heap.size) (m : ValD) (hM : M.getD J valD0 = m) (hml : m.2.length ≤ 1099511627776) :
    Calls Try.prog 21 #[.pointer (some ⟨g, 0, none⟩), .int .i64 (J : Int), .func (.method "loop.example/kith/impl.do") #[partW k a b n] #[]] w fun e w' => e = .returned (.tuple #[]) ∧ (∃ ds', BackN w' B g (M.set J (0, dropL m.2 b)) ds') ∧ Below g w w' := by
  have hm := method_partDo k a b n
  have HB := hid hB
  have hJ0 : (0 : Int) ≤ (J : Int) := by omega
  have hJ24 : (J : Int) < 24 := by omega
  clear hB
  go_enter Try.func21, Try.ntmps21
  go_wp2_with fail
  refine (keyRight_yes (J : Int) _ hJ0 hJ24).mono ?_
  rintro e w1 ⟨rfl, b1⟩
  have hB1 := hid (HB.out.later b1)
  have d1 := b1.mono (Nat.le_of_lt HB.out.lt)
  obtain ⟨v, p1, hov⟩ := hB1.out.c1 hJ
  have p0 := hB1.out.c0 hJ
  obtain ⟨vo, vc, hvv, _⟩ := hov.rd
  subst hvv
  have HV := hid hov
  rw [hM] at p0 p1 HV
  clear hM
  have q0 := hB1.out.frz (J * 2)
  have q1 := hB1.out.frz (J * 2 + 1)
  have hgz1 := hB1.out.lt
  have hbz := b1.size
  clear hov b1 HB
  go_upto_region 1 with fail
  go_region_with (first
    | (go_at_call 92; go_loud (refine (partDo_any k a b n m.1 _ m.2 _ (HV.out.rd.later (by go_grown)) hml).mono ?_; rintro e w2 ⟨⟨v', rfl, ho⟩, b2⟩; have d2 : Below w1.heap.size w1 w2 := (Below.trans (by go_grown) (b2.mono (by first | omega | (simp; done) | (simp; omega)))); have hB2 := hid (hB1.out.later d2); have c2 := hid (d1.trans (d2.mono (by omega))); obtain ⟨vo', vc', hvv', _⟩ := ho.rd; subst hvv'; have hne := hid (show (Value.slice vo' _ vc').ownBlock ≠ some g from fun e => absurd (ho.block g e).1 (by show ¬ w1.heap.size ≤ g; omega)); have HO := hid (Own.mono ho (B' := B) (by show B ≤ w1.heap.size; omega)); have HCU := hid (show ∀ b, (Value.slice vo' _ vc').ownBlock = some b → w1.heap.size ≤ b from fun b hb => (ho.block b hb).1); have HBEL := hid hB1.out.bel; have q0_2 := hB2.out.frz (J * 2); have q1_2 := hB2.out.frz (J * 2 + 1); have p0_2 := hB2.out.c0 hJ; obtain ⟨v5, p1_2, _⟩ := hB2.out.c1 hJ; have hgz2 := hB2.out.lt; clear ho b2 d2)))
  all_goals
    have hB3 := hid (hB2.out.set hJ (0) HO.out hne.out HBEL.out HCU.out)
    have c3 := hid ((c2.out.setCell (p := ⟨g, J * 2, none⟩) (Nat.le_refl _) (.int .i64 (0))).setCell (p := ⟨g, J * 2 + 1, none⟩) (Nat.le_refl _) (.slice vo' (dropL m.2 b : List (Int × Int)).length vc'))
    go_wp2
    refine bodyPost_end (v := .tuple #[]) (by simp [results, Try.results21]) rfl ⟨rfl, hB3.out, c3.out⟩

set_option maxRecDepth 100000 in
set_option maxHeartbeats 2000000 in
theorem change_partBack (k a b n : Int) (B g J : Nat) (M : List ValD) (ds : Array Value) (w : World) (hB : BackN w B g M ds) (hJ : J < 24) (hBw : B ≤ w.heap.size) (m : ValD) (hM : M.getD J valD0 = m) (hml : m.2.length ≤ 1099511627776) :
    Calls Try.prog 21 #[.pointer (some ⟨g, 0, none⟩), .int .i64 (J : Int), .func (.method "loop.example/kith/impl.back") #[partW k a b n] #[]] w fun e w' => e = .returned (.tuple #[]) ∧ (∃ ds', BackN w' B g (M.set J (0, dropL m.2 a)) ds') ∧ Below g w w' := by
  have hm := method_partBack k a b n
  have HB := hid hB
  have hJ0 : (0 : Int) ≤ (J : Int) := by omega
  have hJ24 : (J : Int) < 24 := by omega
  clear hB
  go_enter Try.func21, Try.ntmps21
  go_wp2_with fail
  refine (keyRight_yes (J : Int) _ hJ0 hJ24).mono ?_
  rintro e w1 ⟨rfl, b1⟩
  have hB1 := hid (HB.out.later b1)
  have d1 := b1.mono (Nat.le_of_lt HB.out.lt)
  obtain ⟨v, p1, hov⟩ := hB1.out.c1 hJ
  have p0 := hB1.out.c0 hJ
  obtain ⟨vo, vc, hvv, _⟩ := hov.rd
  subst hvv
  have HV := hid hov
  rw [hM] at p0 p1 HV
  clear hM
  have q0 := hB1.out.frz (J * 2)
  have q1 := hB1.out.frz (J * 2 + 1)
  have hgz1 := hB1.out.lt
  have hbz := b1.size
  clear hov b1 HB
  go_upto_region 1 with fail
  go_region_with (first
    | (go_at_call 91; go_loud (refine (partBack_any k a b n m.1 _ m.2 _ (HV.out.rd.later (by go_grown)) hml).mono ?_; rintro e w2 ⟨⟨v', rfl, ho⟩, b2⟩; have d2 : Below w1.heap.size w1 w2 := (Below.trans (by go_grown) (b2.mono (by first | omega | (simp; done) | (simp; omega)))); have hB2 := hid (hB1.out.later d2); have c2 := hid (d1.trans (d2.mono (by omega))); obtain ⟨vo', vc', hvv', _⟩ := ho.rd; subst hvv'; have hne := hid (show (Value.slice vo' _ vc').ownBlock ≠ some g from fun e => absurd (ho.block g e).1 (by show ¬ w1.heap.size ≤ g; omega)); have HO := hid (Own.mono ho (B' := B) (by show B ≤ w1.heap.size; omega)); have HCU := hid (show ∀ b, (Value.slice vo' _ vc').ownBlock = some b → w1.heap.size ≤ b from fun b hb => (ho.block b hb).1); have HBEL := hid hB1.out.bel; have q0_2 := hB2.out.frz (J * 2); have q1_2 := hB2.out.frz (J * 2 + 1); have p0_2 := hB2.out.c0 hJ; obtain ⟨v5, p1_2, _⟩ := hB2.out.c1 hJ; have hgz2 := hB2.out.lt; clear ho b2 d2)))
  all_goals
    have hB3 := hid (hB2.out.set hJ (0) HO.out hne.out HBEL.out HCU.out)
    have c3 := hid ((c2.out.setCell (p := ⟨g, J * 2, none⟩) (Nat.le_refl _) (.int .i64 (0))).setCell (p := ⟨g, J * 2 + 1, none⟩) (Nat.le_refl _) (.slice vo' (dropL m.2 a : List (Int × Int)).length vc'))
    go_wp2
    refine bodyPost_end (v := .tuple #[]) (by simp [results, Try.results21]) rfl ⟨rfl, hB3.out, c3.out⟩

theorem change_no (fv : Value) (g : Nat) (j : Int) (w : World) (hj : ¬ (0 ≤ j ∧ j < 24)) :
    Calls Try.prog 21 #[.pointer (some ⟨g, 0, none⟩), .int .i64 j, fv] w fun e w' => e = .returned (.tuple #[]) ∧ Below w.heap.size w w' := by
  go_enter Try.func21, Try.ntmps21
  go_wp2_with fail
  refine (keyRight_no j _ hj).mono ?_
  rintro e w1 ⟨rfl, b1⟩
  go_wp2
  refine bodyPost_end (v := .tuple #[]) (by simp [results, Try.results21]) rfl ⟨rfl, b1⟩
end Go.Proofs.Ytpdfhffmhlgcmaa
