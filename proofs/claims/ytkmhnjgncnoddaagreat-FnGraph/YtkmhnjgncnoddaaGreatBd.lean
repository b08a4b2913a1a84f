/- spec.l3Copy: contract. -/
import Derived.Test.YtkmhnjgncnoddaaGreatBc
import Derived.Test.YtkmhnjgncnoddaaGreatAy
import Derived.Deep.Cut
namespace Go.Proofs.YtkmhnjgncnoddaaGreat
open Go.RowKit
attribute [local go_sem ↓] Go.wp_at_zero Go.wp_at_succ

/-- A call of a Go function, as one step of a region that draws its order and holds an append too. -/
theorem step_call {P : Program} {ops : Array Oper} {o : Oper} {a : Act} {w : World} {K : Act → World → Prop} {Q : Exit → Act → World → Prop} {E : Prop} (hgd : o.guard = none) (f : FuncId) (x : Operand) (t : TypeId)
    (ho : o.op = .call { callee := .value (.func f), args := #[x], argTypes := #[t] }) (v : Value) (hx : a.eval x = v)
    (en : ∀ args w, (callFunc f args).run P w = .ok (.enter f args) w) (R : Ending → World → Prop) (hc : Calls P f #[v] w R)
    (h : ∀ e w', R e w' → ∃ v', e = .returned v' ∧ K (a.put o.dst v') w') :
    if Region.wanted o (yielded ops a.tmps) = true then Oper.wp P o a w K Q else E := by
  have hw : Region.wanted o (yielded ops a.tmps) = true := by simp [Region.wanted, hgd]
  rw [if_pos hw]
  have hf : a.eval (.func f) = .func (.func f) #[] #[] := rfl
  unfold Oper.wp
  simp [execOp, ho, resolve, invoke, hx, hf, Deferred.ofValue, en, Oper.upon]
  refine hc.mono fun e w' hR => ?_
  obtain ⟨v', rfl, hK⟩ := h e w' hR
  exact hK

/-- The kin of the first n elements lie in blocks of their own each. -/
def DisX (xs : List Value) (n : Nat) : Prop := ∀ i j, i < n → j < n → i ≠ j → ∀ ui uj, xs[i * 2 + 1]? = some ui → xs[j * 2 + 1]? = some uj → ∀ b, ui.ownBlock = some b → uj.ownBlock ≠ some b
/-- ... below block C. -/
def BelX (xs : List Value) (n C : Nat) : Prop := ∀ i, i < n → ∀ ui, xs[i * 2 + 1]? = some ui → ∀ b, ui.ownBlock = some b → b < C
theorem DisX.zero (xs : List Value) : DisX xs 0 := fun _ _ hi => absurd hi (Nat.not_lt_zero _)
/-- The first n elements of a row are L's, their kin in memory of their own. -/
structure RowN (w : World) (B : Nat) (v : Value) (L : List ValD) (n : Nat) (xs : List Value) : Prop where
  row : w.ownsRow B 38 2 v n xs
  fil : FilledV w B xs L n
  dis : DisX xs n
theorem RowN.later {w w' : World} {B : Nat} {v : Value} {L : List ValD} {n : Nat} {xs : List Value} (h : RowN w B v L n xs) (hb : Below w.heap.size w w') : RowN w' B v L n xs :=
  ⟨row_later h.1 hb, h.2.later hb, h.3⟩
theorem RowN.set {w : World} {B : Nat} {v : Value} {L : List ValD} {n : Nat} {xs : List Value} (h : RowN w B v L n xs) {p : Addr} (hp : p.block < B) (x : Value) : RowN (w.setCell p x) B v L n xs :=
  ⟨row_same h.1 (fun k hk _ => Below.heap_setCell _ _ _ _ (by omega)), h.2.set hp x, h.3⟩
theorem Own.grownOff {w w' : World} {B : Nat} {u : Value} {l : List (Int × Int)} {row : Option Nat} (h : Own w B u l) (hg : w.grownBy w' row) (hne : ∀ g, row = some g → u.ownBlock ≠ some g) : Own w' B u l := by
  refine ⟨h.1, ?_⟩
  rcases h.2 with hn | ⟨g, cap, cur, rfl, hbg, hgg, rest⟩
  · exact .inl hn
  · refine .inr ⟨g, cap, cur, rfl, hbg, (hg.block g (Array.getElem?_eq_some_iff.1 hgg).1 (fun e => hne g e.symm rfl)).trans hgg, rest⟩
theorem own_off_row {w : World} {B B' n : Nat} {v u : Value} {xs : List Value} {l : List (Int × Int)} (h : w.ownsRow B 38 2 v n xs) (hu : Own w B' u l) : ∀ g, v.ownBlock = some g → u.ownBlock ≠ some g := by
  intro g hv hg
  rcases h.2 with ⟨rfl, _⟩ | ⟨g1, cap1, cur1, rfl, _, h1, _⟩
  · cases hv
  · rcases hu.2 with ⟨rfl, _⟩ | ⟨g2, cap2, cur2, rfl, _, h2, _⟩
    · cases hg
    · cases hv
      cases hg
      rw [h1] at h2
      have := (Option.some.inj h2)
      simp at this
theorem RowN.bel {w : World} {B : Nat} {v : Value} {L : List ValD} {n : Nat} {xs : List Value} (h : RowN w B v L n xs) : BelX xs n w.heap.size := fun i hi ui h1 b hb => by
  obtain ⟨_, u, h2, h3⟩ := h.2 i hi
  rw [h1] at h2
  cases h2
  exact (h3.block b hb).2
theorem DisX.add {xs : List Value} {n C : Nat} {x u : Value} (h : DisX xs n) (hx : xs.length = n * 2) (hC : BelX xs n C) (hu : ∀ b, u.ownBlock = some b → C ≤ b) : DisX (xs ++ [x, u]) (n + 1) := by
  have old : ∀ i, i < n → (xs ++ [x, u])[i * 2 + 1]? = xs[i * 2 + 1]? := fun i hi => List.getElem?_append_left (by omega)
  have new : (xs ++ [x, u])[n * 2 + 1]? = some u := by rw [List.getElem?_append_right (by omega), show n * 2 + 1 - xs.length = 1 from by omega]; rfl
  intro i j hi hj hij ui uj h1 h2 b hb hb'
  by_cases ei : i = n
  · have ej : j < n := by omega
    rw [ei, new] at h1
    rw [old j ej] at h2
    cases h1
    have := hC j ej uj h2 b hb'
    have := hu b hb
    omega
  · rw [old i (by omega)] at h1
    by_cases ej : j = n
    · rw [ej, new] at h2
      cases h2
      have := hC i (by omega) ui h1 b hb
      have := hu b hb'
      omega
    · rw [old j (by omega)] at h2
      exact h i j (by omega) (by omega) hij ui uj h1 h2 b hb hb'
theorem RowN.add {w w' : World} {B : Nat} {v v' u : Value} {L : List ValD} {n : Nat} {xs : List Value} (h : RowN w B v L n xs) (hx : xs.length = n * 2) (hu : Own w B u (L.getD n valD0).2)
    (hg : w.grownBy w' v.ownBlock) (ho : w'.ownsRow B 38 2 v' (n + 1) (xs ++ [.int .i64 (L.getD n valD0).1, u])) {C : Nat} (hC : BelX xs n C) (hCu : ∀ b, u.ownBlock = some b → C ≤ b) : RowN w' B v' L (n + 1) (xs ++ [.int .i64 (L.getD n valD0).1, u]) := by
  refine ⟨ho, fun i hi => ?_, h.3.add hx hC hCu⟩
  by_cases e : i = n
  · subst e
    rw [List.getElem?_append_right (by omega), List.getElem?_append_right (by omega)]
    rw [show i * 2 - xs.length = 0 from by omega, show i * 2 + 1 - xs.length = 1 from by omega]
    exact ⟨rfl, u, rfl, hu.grownOff hg (own_off_row h.1 hu)⟩
  · obtain ⟨h0, y, h1, h2⟩ := h.2 i (by omega)
    rw [List.getElem?_append_left (by omega), List.getElem?_append_left (by omega)]
    exact ⟨h0, y, h1, h2.grownOff hg (own_off_row h.1 h2)⟩

theorem after_add {w1 w5 w6 : World} {O k : Nat} {o : Obj} {v v6 u : Value} {L : List ValD} {xs : List Value} {x : ValD} (hO : O < w1.heap.size) (hz : w1.heap.size ≤ w5.heap.size)
    (hk : RowN (w5.alloc o) w1.heap.size v L k xs) (hxl : xs.length = k * 2) (hx : L.getD k valD0 = x) (hu : Own (w5.alloc o) w1.heap.size u x.2) (hg : (w5.alloc o).grownBy w6 v.ownBlock)
    (ho : w6.ownsRow w1.heap.size 38 2 v6 (k + 1) (xs ++ [.int .i64 x.1, u])) (hc : w5.cell? ⟨O, 0, none⟩ = some v) (hf : w5.frozen? ⟨O, 0, none⟩ = false) (hb : Below O w1 w5) {C : Nat} (hC : BelX xs k C) (hCu : ∀ b, u.ownBlock = some b → C ≤ b) :
    RowN w6 w1.heap.size v6 L (k + 1) (xs ++ [.int .i64 x.1, u]) ∧ w6.cell? ⟨O, 0, none⟩ = some v ∧ w6.frozen? ⟨O, 0, none⟩ = false ∧ Below O w1 w6 := by
  subst hx
  have ha : Below w5.heap.size w5 (w5.alloc o) := (Below.refl _ _).alloc (Nat.le_refl _) o
  have hOz : O < w5.heap.size := by omega
  have hoff : ∀ g, v.ownBlock = some g → O ≠ g := fun g hv => by have := (hk.1.lt g hv).1; omega
  refine ⟨hk.add hxl hu hg ho hC hCu, hg.cell ((ha.cell (p := ⟨O, 0, none⟩) hOz).trans hc) (fun e => hoff _ e.symm rfl), ?_, ?_⟩
  · exact (World.frozen?_of_block (w := w5.alloc o) (a := ⟨O, 0, none⟩) (hg.block O (Nat.lt_of_lt_of_le hOz ha.size) (fun e => hoff _ e.symm rfl))).trans ((ha.frozen (p := ⟨O, 0, none⟩) hOz).trans hf)
  · exact (hb.trans (ha.mono (Nat.le_of_lt hOz))).grown hg (Nat.le_trans (Nat.le_of_lt hOz) ha.size) (fun g hv => by have := (hk.1.lt g hv).1; omega)

set_option maxRecDepth 100000 in
set_option maxHeartbeats 4000000 in
theorem l3Copy_any (va : Value) (L : List ValD) (w : World) (h : RdG w va L) (hl : L.length = 24) (hm : ∀ k, k < 24 → (L.getD k valD0).2.length ≤ 1099511627776) :
    Calls Tryz.prog 37 #[.agg #[va]] w fun e w' => (∃ v xs, e = .returned (.agg #[v]) ∧ RowN w' w.heap.size v L 24 xs) ∧ Below w.heap.size w w' := by
  obtain ⟨i0, hi, hz0, hz1, hz2⟩ := info_parts Tryz.info38
  have HR := hid h
  obtain ⟨ao, cap, hv, _, hc⟩ := h
  obtain ⟨b, off, rfl, hlt, hcc⟩ := hc (by omega)
  subst hv
  rw [hl] at hcc HR ⊢
  have hcc := hid hcc
  have hm := hid hm
  clear hc hl
  go_enter Tryz.func37, Tryz.ntmps37
  go_wp2_with fail
  have a0_1 : (((w.alloc (.cells #[.slice (some ⟨b, off, none⟩) 24 cap] 25)).alloc (.cells #[.slice none 0 0] 25)).alloc (.cells #[.slice none 0 0] 25)).cell? ⟨w.heap.size, 0, none⟩ = some (.slice (some ⟨b, off, none⟩) 24 cap) := by go_cell
  have al_1 : w.heap.size < (((w.alloc (.cells #[.slice (some ⟨b, off, none⟩) 24 cap] 25)).alloc (.cells #[.slice none 0 0] 25)).alloc (.cells #[.slice none 0 0] 25)).heap.size := by first | (simp; done) | (simp; omega)
  have r0_1 : (((w.alloc (.cells #[.slice (some ⟨b, off, none⟩) 24 cap] 25)).alloc (.cells #[.slice none 0 0] 25)).alloc (.cells #[.slice none 0 0] 25)).cell? ⟨w.heap.size + 1, 0, none⟩ = some (.slice none 0 0) := by go_cell
  have rf0_1 : (((w.alloc (.cells #[.slice (some ⟨b, off, none⟩) 24 cap] 25)).alloc (.cells #[.slice none 0 0] 25)).alloc (.cells #[.slice none 0 0] 25)).frozen? ⟨w.heap.size + 1, 0, none⟩ = false := by (first | go_cell | (simp [World.frozen?, World.alloc]; done) | rfl)
  have rl_1 : w.heap.size + 1 < (((w.alloc (.cells #[.slice (some ⟨b, off, none⟩) 24 cap] 25)).alloc (.cells #[.slice none 0 0] 25)).alloc (.cells #[.slice none 0 0] 25)).heap.size := by first | (simp; done) | (simp; omega)
  have o0_1 : (((w.alloc (.cells #[.slice (some ⟨b, off, none⟩) 24 cap] 25)).alloc (.cells #[.slice none 0 0] 25)).alloc (.cells #[.slice none 0 0] 25)).cell? ⟨w.heap.size + 1 + 1, 0, none⟩ = some (.slice none 0 0) := by go_cell
  have of0_1 : (((w.alloc (.cells #[.slice (some ⟨b, off, none⟩) 24 cap] 25)).alloc (.cells #[.slice none 0 0] 25)).alloc (.cells #[.slice none 0 0] 25)).frozen? ⟨w.heap.size + 1 + 1, 0, none⟩ = false := by (first | go_cell | (simp [World.frozen?, World.alloc]; done) | rfl)
  have ol_1 : w.heap.size + 1 + 1 < (((w.alloc (.cells #[.slice (some ⟨b, off, none⟩) 24 cap] 25)).alloc (.cells #[.slice none 0 0] 25)).alloc (.cells #[.slice none 0 0] 25)).heap.size := by first | (simp; done) | (simp; omega)
  have c1 : Below w.heap.size w (((w.alloc (.cells #[.slice (some ⟨b, off, none⟩) 24 cap] 25)).alloc (.cells #[.slice none 0 0] 25)).alloc (.cells #[.slice none 0 0] 25)) := by go_grown
  have s1 : (((w.alloc (.cells #[.slice (some ⟨b, off, none⟩) 24 cap] 25)).alloc (.cells #[.slice none 0 0] 25)).alloc (.cells #[.slice none 0 0] 25)).heap.size = w.heap.size + 3 := by simp
  generalize (((w.alloc (.cells #[.slice (some ⟨b, off, none⟩) 24 cap] 25)).alloc (.cells #[.slice none 0 0] 25)).alloc (.cells #[.slice none 0 0] 25)) = w1 at a0_1 al_1 r0_1 rf0_1 rl_1 o0_1 of0_1 ol_1 c1 s1 ⊢
  have qa0_1 := cell_regrown a0_1
  have qr0_1 := cell_regrown r0_1
  have qo0_1 := cell_regrown o0_1
  have hrow0 := hid (show RowN w1 w1.heap.size (.slice none 0 0) L 0 [] from ⟨World.ownsRow_nil _ _ _ _, FilledV.zero _ _ _ _, DisX.zero _⟩)
  go_loopw [4] (fun i wr => ∃ (k : Nat) (v : Value) (xs : List Value), k ≤ 24 ∧ i = .int .i64 k ∧ Hid (wr.cell? ⟨w.heap.size + 1 + 1, 0, none⟩ = some v) ∧ Hid (wr.frozen? ⟨w.heap.size + 1 + 1, 0, none⟩ = false) ∧ Hid (RowN wr w1.heap.size v L k xs) ∧ Hid (xs.length = k * 2) ∧ Hid (Below (w.heap.size + 1 + 1) w1 wr)) (fun i _ => 24 - (intOf i).toNat)
  case atStart => exact ⟨0, _, [], Nat.zero_le _, rfl, o0_1, of0_1, hrow0, rfl, Below.refl _ _⟩
  case round =>
    clear hrow0 o0_1 of0_1
    obtain ⟨k, v, xs, hk, rfl, hco, hfo, hrow, hxl, hbel⟩ := hrel
    have o0 := hco.out
    have of0 := hfo.out
    have a0 := (hbel.out.cell (p := ⟨w.heap.size, 0, none⟩) (by show w.heap.size < w.heap.size + 1 + 1; omega)).trans a0_1
    have r0 := (hbel.out.cell (p := ⟨w.heap.size + 1, 0, none⟩) (by show w.heap.size + 1 < w.heap.size + 1 + 1; omega)).trans r0_1
    have rf0 := (hbel.out.frozen (p := ⟨w.heap.size + 1, 0, none⟩) (by show w.heap.size + 1 < w.heap.size + 1 + 1; omega)).trans rf0_1
    have hz := hbel.out.size
    by_cases hlt' : k < 24
    · obtain ⟨h0, u, h1, hr⟩ := hcc.out k hlt'
      have cw := c1.trans (hbel.out.mono (show w.heap.size ≤ w.heap.size + 1 + 1 from by omega))
      rw [← cw.cell (p := ⟨b, off + k * 2, none⟩) hlt] at h0
      rw [← cw.cell (p := ⟨b, off + k * 2 + 1, none⟩) hlt] at h1
      have hmk := hm.out k hlt'
      have HU := hid (hr.later cw)
      obtain ⟨x, hx⟩ : ∃ x, L.getD k valD0 = x := ⟨_, rfl⟩
      rw [hx] at h0 HU hmk hr
      obtain ⟨uo, uc, rfl, _⟩ := id hr
      have HX := hid hx
      have hbz : b < wr.heap.size := by have := cw.size; omega
      have hk1 : k + 1 ≤ maxLen := by unfold maxLen; omega
      have hk2 : (k + 1) * 32 ≤ 140737488355328 := by omega
      have hltI : (k : Int) < 24 := by omega
      clear hr hx cw hco hfo
      go_upto_region 5 with fail
      go_region_law (first
        | (refine step_call rfl 100 _ _ rfl _ (by simp [Act.eval]) Tryz.call100 _ (l2Copy_any x.1 _ x.2 _ (HU.out.later (by go_grown)) hmk) ?_; rintro e w5 ⟨u', rfl, ho, b5⟩; refine ⟨_, rfl, ?_⟩; obtain ⟨uo', uc', huv, _⟩ := ho.rd; subst huv; have d5 : Below wr.heap.size wr w5 := (Below.refl _ wr).drew.trans b5; have HK5 := hid (hrow.out.later d5); have o0_5 := (d5.cell (p := ⟨w.heap.size + 1 + 1, 0, none⟩) (by show w.heap.size + 1 + 1 < wr.heap.size; omega)).trans o0; have of0_5 := (d5.frozen (p := ⟨w.heap.size + 1 + 1, 0, none⟩) (by show w.heap.size + 1 + 1 < wr.heap.size; omega)).trans of0; have HO5 := hid (Own.mono ho (B' := w1.heap.size) hz); have HCU := hid (show ∀ b, (Value.slice uo' x.2.length uc').ownBlock = some b → wr.heap.size ≤ b from fun b hb => (ho.block b hb).1); have HBEL := hid hrow.out.bel; have hz5 := d5.size; have HB5 := hid (hbel.out.trans (d5.mono (by omega))); have HK6 := hid (HK5.out.later ((Below.refl _ w5).alloc (Nat.le_refl _) (.cells #[.int .i64 x.1, .slice uo' x.2.length uc'] 38))); have HNW := hid (cells_two_new w5 (.int .i64 x.1) (.slice uo' x.2.length uc') 38); have HO6 := hid (HO5.out.later ((Below.refl _ w5).alloc (Nat.le_refl _) (.cells #[.int .i64 x.1, .slice uo' x.2.length uc'] 38))); have hz6 : w1.heap.size ≤ (w5.alloc (.cells #[.int .i64 x.1, .slice uo' x.2.length uc'] 38)).heap.size := (by simp; omega); have hz5' : w1.heap.size ≤ w5.heap.size := Nat.le_trans hz hz5; have o0_6 := (((Below.refl _ w5).alloc (Nat.le_refl _) (.cells #[.int .i64 x.1, .slice uo' x.2.length uc'] 38)).cell (p := ⟨w.heap.size + 1 + 1, 0, none⟩) (Nat.lt_of_lt_of_le ol_1 hz5')).trans o0_5; clear ho b5 d5)
        | (refine step_append_own rfl _ _ 23 rfl w1.heap.size 38 i0 (.agg #[.int .i64 0, .slice none 0 0]) 2 32 Tryz.underlying23 hi hz0 hz1 hz2 rfl (by decide) v k xs (by simp [Act.eval]) HK6.out.1 ⟨w5.heap.size, 0, none⟩ 1 1 [.int .i64 x.1, .slice uo' x.2.length uc'] (by simp [Act.eval]) rfl HNW.out (by simp [Value.oneCell']) hk1 hk2 hz6 ?_; intro v6 w6 hown6 hgrow6 _; obtain ⟨g6, c6, hv6⟩ := ownsRow_succ hown6; subst hv6; obtain ⟨HK7', o0_7, of0_7, HB7'⟩ := after_add (O := w.heap.size + 1 + 1) ol_1 hz5' HK6.out hxl.out HX.out HO6.out hgrow6 hown6 o0_5 of0_5 HB5.out HBEL.out HCU.out; have HK7 := hid HK7'; have HB7 := hid HB7'; clear hown6 hgrow6 HK7' HB7'))
      all_goals
        have HK8 := hid (HK7.out.set (p := ⟨w.heap.size + 1 + 1, 0, none⟩) (by show w.heap.size + 1 + 1 < w1.heap.size; omega) (.slice (some ⟨g6, 0, none⟩) (k + 1) c6))
        have hc8 : Hid ((w6.setCell ⟨w.heap.size + 1 + 1, 0, none⟩ (.slice (some ⟨g6, 0, none⟩) (k + 1) c6)).cell? ⟨w.heap.size + 1 + 1, 0, none⟩ = some (.slice (some ⟨g6, 0, none⟩) (k + 1) c6)) := by
          show _ = _
          go_cell
        have hf8 : Hid ((w6.setCell ⟨w.heap.size + 1 + 1, 0, none⟩ (.slice (some ⟨g6, 0, none⟩) (k + 1) c6)).frozen? ⟨w.heap.size + 1 + 1, 0, none⟩ = false) := by
          show _ = _
          simpa using of0_7
        have HB8 := hid (HB7.out.setCell (p := ⟨w.heap.size + 1 + 1, 0, none⟩) (Nat.le_refl _) (.slice (some ⟨g6, 0, none⟩) (k + 1) c6))
        have hx8 : Hid ((xs ++ [Value.int .i64 x.1, Value.slice uo' x.2.length uc']).length = (k + 1) * 2) := by
          show _ = _
          have := hxl.out
          simp
          omega
        go_wp2
        go_roundw
        case rel => exact ⟨k + 1, _, _, by omega, by go_num, hc8, hf8, HK8, hx8, HB8⟩
        case measure => simp [intOf]; omega
    · have hk24 : k = 24 := by omega
      subst hk24
      have hv1 : v.oneCell' = true := by
        rcases hrow.out.1.2 with ⟨rfl, _⟩ | ⟨g, cp, cur, rfl, _⟩ <;> rfl
      have hF := hid ((hrow.out.set (p := ⟨w.heap.size + 1, 0, none⟩) (by show w.heap.size + 1 < w1.heap.size; omega) v))
      have c3 := hid ((c1.trans (hbel.out.mono (by omega))).setCell (p := ⟨w.heap.size + 1, 0, none⟩) (by show w.heap.size ≤ w.heap.size + 1; omega) v)
      obtain ⟨g, cp, rfl⟩ := ownsRow_succ hrow.out.1
      have e0 : (wr.setCell ⟨w.heap.size + 1, 0, none⟩ (.slice (some ⟨g, 0, none⟩) 24 cp)).cell? ⟨w.heap.size + 1, 0, none⟩ = some (.slice (some ⟨g, 0, none⟩) 24 cp) := by go_cell
      go_wp2
      refine bodyPost_ret (v := .agg #[.slice (some ⟨g, 0, none⟩) 24 cp]) (by simp [results, Tryz.results37, go_sem, e0]) rfl ⟨⟨_, _, rfl, row_mono hF.out.1 (by omega), ?_, hF.out.3⟩, c3.out⟩
      exact fun i hi => by obtain ⟨h0, u, h1, h2⟩ := hF.out.2 i hi; exact ⟨h0, u, h1, h2.mono (by omega)⟩
end Go.Proofs.YtkmhnjgncnoddaaGreat
