/- The book of answers: a map by tier and key. Plain facts; (book).enter. -/
import Derived.Test.YtnnhpnhnddibjaaMz
import Derived.Test.YtnnhpnhnddibjaaJd
import Derived.Test.YtnnhpnhnddibjaaAps
import Derived.Deep.Cut
import Derived.RangeFuncBox
namespace Go.Proofs.Ytnnhpnhnddibjaa
open Go.RowKit
attribute [local go_sem ↓] Go.wp_at_zero Go.wp_at_succ

theorem frozen_of_block {w w' : World} {b j : Nat} (h : w'.heap[b]? = w.heap[b]?) : w'.frozen? ⟨b, j, none⟩ = w.frozen? ⟨b, j, none⟩ := by
  unfold World.frozen?
  rw [h]
def IsTell (v : Value) : Prop := ∃ t k : Int, v = .agg #[.int .i64 t, .int .i64 k]
theorem isTell (t k : Int) : IsTell (.agg #[.int .i64 t, .int .i64 k]) := Exists.intro t (Exists.intro k rfl)
def DTell : List (TypeId × (List Value → Prop)) := [(3, OneInt), (3, OneInt)]
theorem eqTell_s (d : Nat) : EqS Try.prog (d + 2) 62 (fun l => Fits Try.prog l 0 DTell) :=
  eqS_struct (by kernel_rfl) (by kernel_rfl) (D := DTell) (by kernel_rfl) (by
    intro x hx
    simp only [DTell, List.mem_cons, List.not_mem_nil, or_false] at hx
    rcases hx with rfl | rfl <;> exact eqP_int Try.shp_int)
theorem fits_tell (a b : Int) : Fits Try.prog [.int .i64 a, .int .i64 b] 0 DTell := by
  simp only [DTell, Fits, Try.shp_c3]
  exact ⟨⟨a, rfl⟩, ⟨b, rfl⟩, rfl⟩
theorem tell_run : KeyRun Try.prog 62 IsTell := by
  have heq : ∀ (w : World) (x y : Value), IsTell x → IsTell y → ∃ r : Bool, (Op.equal 62 x y).run Try.prog w = .ok r w ∧ (r = true ↔ x = y) := by
    rintro w _ _ ⟨a, b, rfl⟩ ⟨c, d, rfl⟩
    obtain ⟨r, hr, hiff⟩ := eqTell_s 9998 w _ _ (fits_tell a b) (fits_tell c d)
    exact ⟨r, hr, hiff.trans ⟨fun h => by simpa using h, fun h => by simpa using h⟩⟩
  refine ⟨?_, fun w x hx es hes => find_struct Try.underlying62 (fun v hv => by obtain ⟨t, k, rfl⟩ := hv; exact ⟨_, rfl⟩) heq w x hx es hes, ?_⟩
  · rintro w em _ ⟨t, k, rfl⟩
    cases em <;> kernel_rfl
  · rintro w _ ⟨t, k, rfl⟩
    simp [Instr.keyThatStays, Instr.sameBits]
theorem zero_heard (w : World) : (zeroValue 57).run Try.prog w = .ok (.agg #[.slice none 0 0, .int .i64 0]) w := by kernel_rfl

/-- What the book has of a tier and a key: g, all Vers; us, where they lie. -/
def heardOf (g : Int → Int → List Int) (us : Int → Int → Value) (x : Value) : Option Value :=
  match x with
  | .agg ⟨[.int .i64 t, .int .i64 k]⟩ => if g t k = [] then none else some (.agg #[us t k, .int .i64 (maxOf (g t k))])
  | _ => none
theorem heardOf_at (g : Int → Int → List Int) (us : Int → Int → Value) (t k : Int) : heardOf g us (.agg #[.int .i64 t, .int .i64 k]) = if g t k = [] then none else some (.agg #[us t k, .int .i64 (maxOf (g t k))]) := rfl
structure Book (w : World) (b n B : Nat) (g : Int → Int → List Int) (us : Int → Int → Value) : Prop where
  map : MapF IsTell w b n (heardOf g us)
  own : ∀ t k, g t k ≠ [] → OwnI w B (us t k) (g t k)
  dis : ∀ t k t' k', g t k ≠ [] → g t' k' ≠ [] → ¬ (t = t' ∧ k = k') → ∀ q, (us t k).ownBlock = some q → (us t' k').ownBlock ≠ some q
  off : ∀ t k, g t k ≠ [] → (us t k).ownBlock ≠ some b
  lo : B ≤ b
theorem Book.later {w w' : World} {b n B : Nat} {g : Int → Int → List Int} {us : Int → Int → Value} (h : Book w b n B g us) (hb : Below w.heap.size w w') : Book w' b n B g us :=
  ⟨h.map.later hb, fun t k hg => (h.own t k hg).later hb, h.dis, h.off, h.lo⟩
theorem Book.look {w : World} {b n B : Nat} {g : Int → Int → List Int} {us : Int → Int → Value} (_h : Book w b n B g us) (t k : Int) :
    (heardOf g us (.agg #[.int .i64 t, .int .i64 k])).getD (.agg #[.slice none 0 0, .int .i64 0]) = .agg #[if g t k = [] then .slice none 0 0 else us t k, .int .i64 (maxOf (g t k))] := by
  rw [heardOf_at]
  by_cases h : g t k = []
  · simp [h, maxOf]
  · simp [h]
theorem Book.lookup {w : World} {b n B : Nat} {g : Int → Int → List Int} {us : Int → Int → Value} (h : Book w b n B g us) (t k : Int) :
    (Instr.lookup 59 (.map (some b)) (.agg #[.int .i64 t, .int .i64 k]) false).run Try.prog w = .ok (.agg #[if g t k = [] then .slice none 0 0 else us t k, .int .i64 (maxOf (g t k))]) w := by
  have := h.map.look tell_run Try.underlying59 (zero_heard w) (isTell t k) false
  rw [h.look t k] at this
  simpa using this
theorem Book.row {w : World} {b n B : Nat} {g : Int → Int → List Int} {us : Int → Int → Value} (h : Book w b n B g us) (t k : Int) : OwnI w B (if g t k = [] then .slice none 0 0 else us t k) (g t k) := by
  by_cases e : g t k = []
  · rw [if_pos e, e]
    exact World.ownsRow_nil _ _ _ _
  · rw [if_neg e]
    exact h.own t k e
theorem maxOf_snoc (ns : List Int) (v : Int) : maxOf (ns ++ [v]) = if maxOf ns > v then maxOf ns else v := by
  rw [maxOf, List.foldl_append]
  rfl
/-- A Ver more. -/
def addTo (g : Int → Int → List Int) (t k v : Int) (a b : Int) : List Int := if a = t ∧ b = k then g a b ++ [v] else g a b
def putTo (us : Int → Int → Value) (t k : Int) (u : Value) (a b : Int) : Value := if a = t ∧ b = k then u else us a b
/-- The row grows (or is a new one), then the book is written. -/
theorem Book.put {w w2 : World} {b n B : Nat} {g : Int → Int → List Int} {us : Int → Int → Value} (h : Book w b n B g us) (t k v : Int) (u : Value) (hu : OwnI w2 B u (g t k ++ [v]))
    (hs : ∀ q, q < w.heap.size → q ≠ b → (g t k ≠ [] → (us t k).ownBlock ≠ some q) → w2.heap[q]? = w.heap[q]?) (hloc : ∀ q, u.ownBlock = some q → (g t k ≠ [] ∧ (us t k).ownBlock = some q) ∨ w.heap.size ≤ q)
    (hm : MapF IsTell w2 b (n + 1) (heardOf (addTo g t k v) (putTo us t k u))) : Book w2 b (n + 1) B (addTo g t k v) (putTo us t k u) := by
  have hbl : b < w.heap.size := h.map.lt
  have hub : u.ownBlock ≠ some b := fun q => by
    rcases hloc b q with ⟨h1, h2⟩ | h2
    · exact h.off t k h1 h2
    · omega
  refine ⟨hm, fun a c hac => ?_, fun a c a' c' h1 h2 h3 q hq => ?_, fun a c hac => ?_, h.lo⟩
  · unfold addTo putTo at *
    by_cases e : a = t ∧ c = k
    · obtain ⟨rfl, rfl⟩ := e
      simp only [and_self, if_true]
      exact hu
    · simp only [e, if_false] at hac ⊢
      have h0 := h.own a c hac
      exact h0.agree fun q hq => hs q (h0.block q hq).2 (fun e1 => h.off a c hac (e1 ▸ hq)) (fun hz hc => h.dis a c t k hac hz e q hq hc)
  · unfold addTo at h1 h2
    unfold putTo at hq ⊢
    by_cases e : a = t ∧ c = k
    · by_cases e' : a' = t ∧ c' = k
      · exact absurd ⟨e.1.trans e'.1.symm, e.2.trans e'.2.symm⟩ h3
      · simp only [e, e', and_self, if_true, if_false] at h2 hq ⊢
        intro hc
        rcases hloc q hq with ⟨h4, h5⟩ | h4
        · exact h.dis t k a' c' h4 h2 (fun hh => e' ⟨hh.1.symm, hh.2.symm⟩) q h5 hc
        · have := (h.own a' c' h2).block q hc; omega
    · by_cases e' : a' = t ∧ c' = k
      · simp only [e, e', and_self, if_true, if_false] at h1 hq ⊢
        intro hc
        rcases hloc q hc with ⟨h4, h5⟩ | h4
        · exact h.dis a c t k h1 h4 e q hq h5
        · have := (h.own a c h1).block q hq; omega
      · simp only [e, e', if_false] at h1 h2 hq ⊢
        exact h.dis a c a' c' h1 h2 h3 q hq
  · unfold addTo at hac
    unfold putTo
    by_cases e : a = t ∧ c = k
    · simp only [e, and_self, if_true]; exact hub
    · simp only [e, if_false] at hac ⊢; exact h.off a c hac
theorem heardOf_put (g : Int → Int → List Int) (us : Int → Int → Value) (t k v : Int) (u : Value) : heardOf (addTo g t k v) (putTo us t k u) (.agg #[.int .i64 t, .int .i64 k]) = some (.agg #[u, .int .i64 (maxOf (g t k ++ [v]))]) := by
  rw [heardOf_at]
  simp [addTo, putTo]
theorem heardOf_other (g : Int → Int → List Int) (us : Int → Int → Value) (t k v : Int) (u : Value) (y : Value) (hy : y ≠ .agg #[.int .i64 t, .int .i64 k]) : heardOf (addTo g t k v) (putTo us t k u) y = heardOf g us y := by
  unfold heardOf
  split
  · rename_i a c
    have e : ¬ (a = t ∧ c = k) := fun q => hy (by rw [q.1, q.2])
    simp [addTo, putTo, e]
  · rfl

theorem tellerOf_any (p0 p1 p2 p3 pc : Int) (bp : Bool) (u : Value) (w : World) :
    Calls Try.prog 29 #[.agg #[.int .i64 p0, .int .i64 p1, .int .i64 p2, .int .i64 p3, u, .bool bp, .int .i64 pc]] w fun e w' => e = .returned (.agg #[.int .i64 p0, .int .i64 p1]) ∧ Below w.heap.size w w' := by
  go_enter Try.func29, Try.ntmps29
  go_wp2
  refine bodyPost_ret (v := .agg #[.int .i64 p0, .int .i64 p1]) (by simp [results, Try.results29, go_sem]) rfl ⟨rfl, ?_⟩
  go_grown

set_option maxRecDepth 100000 in
set_option maxHeartbeats 4000000 in
theorem enter_any (b n B : Nat) (g : Int → Int → List Int) (us : Int → Int → Value) (p0 p1 p2 p3 pc : Int) (bp : Bool) (u : Value) (w : World) (h : Book w b n B g us) (hn : (g p0 p1).length ≤ 1048576) :
    Calls Try.prog 30 #[.map (some b), .agg #[.int .i64 p0, .int .i64 p1, .int .i64 p2, .int .i64 p3, u, .bool bp, .int .i64 pc]] w fun e w' => e = .returned (.tuple #[]) ∧ ∃ us', Book w' b (n + 1) B (addTo g p0 p1 p2) us' ∧ Below B w w' := by
  go_enter Try.func30, Try.ntmps30
  go_wp2_with fail
  have HB0 := hid h
  clear h
  generalize hW1 : (w.alloc (.cells #[.int .i64 p0, .int .i64 p1, .int .i64 p2, .int .i64 p3, u, .bool bp, .int .i64 pc] 50)) = w1
  have a0_1 : w1.cell? ⟨w.heap.size, 0, none⟩ = some (.int .i64 p0) := by subst hW1; go_cell
  have a1_1 : w1.cell? ⟨w.heap.size, 1, none⟩ = some (.int .i64 p1) := by subst hW1; go_cell
  have a2_1 : w1.cell? ⟨w.heap.size, 2, none⟩ = some (.int .i64 p2) := by subst hW1; go_cell
  have a3_1 : w1.cell? ⟨w.heap.size, 3, none⟩ = some (.int .i64 p3) := by subst hW1; go_cell
  have a4_1 : w1.cell? ⟨w.heap.size, 4, none⟩ = some (u) := by subst hW1; go_cell
  have a5_1 : w1.cell? ⟨w.heap.size, 5, none⟩ = some (.bool bp) := by subst hW1; go_cell
  have a6_1 : w1.cell? ⟨w.heap.size, 6, none⟩ = some (.int .i64 pc) := by subst hW1; go_cell
  have al_1 : w.heap.size < w1.heap.size := by subst hW1; first | (simp; done) | (simp; omega)
  have c1 : Below w.heap.size w w1 := by subst hW1; go_grown
  have s1 : w1.heap.size = w.heap.size + 1 := by subst hW1; simp
  clear hW1
  have qa0_1 := cell_regrown a0_1
  have qa1_1 := cell_regrown a1_1
  have qa2_1 := cell_regrown a2_1
  have qa3_1 := cell_regrown a3_1
  have qa4_1 := cell_regrown a4_1
  have qa5_1 := cell_regrown a5_1
  have qa6_1 := cell_regrown a6_1
  have s1' := s1
  refine (tellerOf_any p0 p1 p2 p3 pc bp u _).mono ?_
  rintro e w2 ⟨rfl, b2⟩
  have d2 : Below w1.heap.size w1 w2 := (Below.trans (by go_grown) (b2.mono (by first | omega | (simp; done) | (simp; omega))))
  have c2 : Below w.heap.size w w2 := c1.trans (d2.mono c1.size)
  have a0_2 : w2.cell? ⟨w.heap.size, 0, none⟩ = some (.int .i64 p0) := (by rw [b2.cell (by first | omega | (simp; done) | (simp; omega))]; go_cell)
  have a1_2 : w2.cell? ⟨w.heap.size, 1, none⟩ = some (.int .i64 p1) := (by rw [b2.cell (by first | omega | (simp; done) | (simp; omega))]; go_cell)
  have a2_2 : w2.cell? ⟨w.heap.size, 2, none⟩ = some (.int .i64 p2) := (by rw [b2.cell (by first | omega | (simp; done) | (simp; omega))]; go_cell)
  have a3_2 : w2.cell? ⟨w.heap.size, 3, none⟩ = some (.int .i64 p3) := (by rw [b2.cell (by first | omega | (simp; done) | (simp; omega))]; go_cell)
  have a4_2 : w2.cell? ⟨w.heap.size, 4, none⟩ = some (u) := (by rw [b2.cell (by first | omega | (simp; done) | (simp; omega))]; go_cell)
  have a5_2 : w2.cell? ⟨w.heap.size, 5, none⟩ = some (.bool bp) := (by rw [b2.cell (by first | omega | (simp; done) | (simp; omega))]; go_cell)
  have a6_2 : w2.cell? ⟨w.heap.size, 6, none⟩ = some (.int .i64 pc) := (by rw [b2.cell (by first | omega | (simp; done) | (simp; omega))]; go_cell)
  have al_2 : w.heap.size < w2.heap.size := (by have := b2.size; first | omega | (revert this; simp; done) | (revert this; simp; omega))
  clear a0_1 a1_1 a2_1 a3_1 a4_1 a5_1 a6_1 al_1
  have HB2 := hid (HB0.out.later c2)
  clear b2 d2
  have hlk := HB2.out.lookup p0 p1
  have hrow := HB2.out.row p0 p1
  have hrow0 := HB0.out.row p0 p1
  generalize hu0 : (if g p0 p1 = [] then Value.slice none 0 0 else us p0 p1) = u0 at hlk hrow hrow0
  generalize hm0 : maxOf (g p0 p1) = m0 at hlk
  have HU0 := hid hu0
  have HM0 := hid hm0
  have HR := hid hrow
  have HR0 := hid hrow0
  obtain ⟨uo, uc, hv, _⟩ := hrow.ownM.rd (by decide) (by decide)
  rw [kdI_length] at hv
  generalize hns : g p0 p1 = ns at *
  subst hv
  clear hu0 hm0 hrow hrow0
  obtain ⟨i0, hi, hz0, hz1, hz2⟩ := info_parts Try.infoInt_T
  have hsz2 : w.heap.size + 1 ≤ w2.heap.size := by have := c2.size; omega
  go_upto_region 2 with fail
  generalize hW3 : (w2.alloc (.cells #[.slice uo ns.length uc, .int .i64 m0] 57)) = w3
  have h0_3 : w3.cell? ⟨w2.heap.size, 0, none⟩ = some (.slice uo ns.length uc) := by subst hW3; go_cell
  have hf0_3 : w3.frozen? ⟨w2.heap.size, 0, none⟩ = false := by subst hW3; (first | go_cell | (simp [World.frozen?, World.alloc]; done) | rfl)
  have h1_3 : w3.cell? ⟨w2.heap.size, 1, none⟩ = some (.int .i64 m0) := by subst hW3; go_cell
  have hf1_3 : w3.frozen? ⟨w2.heap.size, 1, none⟩ = false := by subst hW3; (first | go_cell | (simp [World.frozen?, World.alloc]; done) | rfl)
  have hl_3 : w2.heap.size < w3.heap.size := by subst hW3; simp
  have d3 : Below w2.heap.size w2 w3 := by subst hW3; go_grown
  clear hW3
  have c3 : Below w.heap.size w w3 := c2.trans (d3.mono c2.size)
  have a0_3 : w3.cell? ⟨w.heap.size, 0, none⟩ = some (.int .i64 p0) := (by rw [d3.cell (by first | omega | (simp; done) | (simp; omega))]; go_cell)
  have a1_3 : w3.cell? ⟨w.heap.size, 1, none⟩ = some (.int .i64 p1) := (by rw [d3.cell (by first | omega | (simp; done) | (simp; omega))]; go_cell)
  have a2_3 : w3.cell? ⟨w.heap.size, 2, none⟩ = some (.int .i64 p2) := (by rw [d3.cell (by first | omega | (simp; done) | (simp; omega))]; go_cell)
  have a3_3 : w3.cell? ⟨w.heap.size, 3, none⟩ = some (.int .i64 p3) := (by rw [d3.cell (by first | omega | (simp; done) | (simp; omega))]; go_cell)
  have a4_3 : w3.cell? ⟨w.heap.size, 4, none⟩ = some (u) := (by rw [d3.cell (by first | omega | (simp; done) | (simp; omega))]; go_cell)
  have a5_3 : w3.cell? ⟨w.heap.size, 5, none⟩ = some (.bool bp) := (by rw [d3.cell (by first | omega | (simp; done) | (simp; omega))]; go_cell)
  have a6_3 : w3.cell? ⟨w.heap.size, 6, none⟩ = some (.int .i64 pc) := (by rw [d3.cell (by first | omega | (simp; done) | (simp; omega))]; go_cell)
  have al_3 : w.heap.size < w3.heap.size := (by have := d3.size; omega)
  clear a0_2 a1_2 a2_2 a3_2 a4_2 a5_2 a6_2 al_2
  have HR3 : Hid ((w3.alloc (.cells #[.int .i64 p2] 3)).ownsRow B 3 1 (.slice uo ns.length uc) ns.length (ints ns)) := hid ((HR.out.later d3).alloc _)
  have HNW : Hid (∀ j u, [Value.int .i64 p2][j]? = some u → (w3.alloc (.cells #[.int .i64 p2] 3)).cell? ((⟨w3.heap.size, 0, none⟩ : Addr).add j) = some u) := hid (cell_one_new w3 (.int .i64 p2) 3)
  have hk1 : ns.length + 1 ≤ maxLen := by unfold maxLen; omega
  have hk2 : (ns.length + 1) * 8 ≤ 140737488355328 := by omega
  have hB : Hid (B ≤ b ∧ b < w2.heap.size) := hid ⟨HB2.out.lo, HB2.out.map.lt⟩
  have hrowb : Hid ((Value.slice uo ns.length uc).ownBlock ≠ some b) := hid (by
    rw [← HU0.out]
    split
    · intro q; cases q
    · rename_i hne
      exact HB2.out.off p0 p1 (by rw [hns]; exact hne))
  have hBw : Hid (b < w.heap.size) := hid HB0.out.map.lt
  have hrb := hid (fun q (hq : (Value.slice uo ns.length uc).ownBlock = some q) => (HR0.out.block q hq).2)
  have hnT : some w.heap.size ≠ (Value.slice uo ns.length uc).ownBlock := fun q => Nat.lt_irrefl _ (hrb.out _ q.symm)
  have hnH : some w2.heap.size ≠ (Value.slice uo ns.length uc).ownBlock := fun q => by have := hrb.out _ q.symm; omega
  have hbs : B ≤ (w3.alloc (.cells #[.int .i64 p2] 3)).heap.size := by have := hB.out; have := d3.size; simp; omega
  by_cases hmx : p2 ≤ m0
  · have HMM : Hid (maxOf (ns ++ [p2]) = m0) := hid (by rw [maxOf_snoc, HM0.out]; split <;> omega)
    go_wp2_with (first | (at_builtin; refine wpList_append_own_at _ rfl _ _ 29 rfl B 3 i0 (.int .i64 0) 1 8 Try.underlying29 hi hz0 hz1 hz2 rfl (by decide) (.slice uo ns.length uc) ns.length _ rfl HR3.out ⟨w3.heap.size, 0, none⟩ 1 1 [.int .i64 p2] rfl rfl HNW.out (by simp [Value.oneCell']) hk1 hk2 hbs ?_; intro v6 w6 hown6 hgr6 _ hl6; obtain ⟨g6, c6, rfl⟩ := ownsRow_succ hown6; have t0_6 : w6.cell? ⟨w.heap.size, 0, none⟩ = some (.int .i64 p0) := hgr6.cell (by go_cell) (hnT); have t1_6 : w6.cell? ⟨w.heap.size, 1, none⟩ = some (.int .i64 p1) := hgr6.cell (by go_cell) (hnT); have t2_6 : w6.cell? ⟨w.heap.size, 2, none⟩ = some (.int .i64 p2) := hgr6.cell (by go_cell) (hnT); have t3_6 : w6.cell? ⟨w.heap.size, 3, none⟩ = some (.int .i64 p3) := hgr6.cell (by go_cell) (hnT); have t4_6 : w6.cell? ⟨w.heap.size, 4, none⟩ = some (u) := hgr6.cell (by go_cell) (hnT); have t5_6 : w6.cell? ⟨w.heap.size, 5, none⟩ = some (.bool bp) := hgr6.cell (by go_cell) (hnT); have t6_6 : w6.cell? ⟨w.heap.size, 6, none⟩ = some (.int .i64 pc) := hgr6.cell (by go_cell) (hnT); have h0_6 : w6.cell? ⟨w2.heap.size, 0, none⟩ = some (.slice uo ns.length uc) := hgr6.cell (by go_cell) hnH; have h1_6 : w6.cell? ⟨w2.heap.size, 1, none⟩ = some (.int .i64 m0) := hgr6.cell (by go_cell) hnH; have hf0_6 : w6.frozen? ⟨w2.heap.size, 0, none⟩ = false := (frozen_of_block (hgr6.block _ (by simp; omega) hnH)).trans (by go_cell); have hf1_6 : w6.frozen? ⟨w2.heap.size, 1, none⟩ = false := (frozen_of_block (hgr6.block _ (by simp; omega) hnH)).trans (by go_cell); have HO6 := hid hown6; have HG6 := hid hgr6; have HL6 := hid hl6; clear hown6 hgr6 hl6))
    have hgB : B ≤ g6 ∧ g6 < w6.heap.size ∧ g6 ≠ w2.heap.size := ⟨(HO6.out.lt g6 rfl).1, (HO6.out.lt g6 rfl).2, fun q => by rcases HL6.out with h9 | h9; (have := hrb.out g6 (h9 ▸ rfl); omega); (have h8 : g6 = (w3.alloc (.cells #[.int .i64 p2] 3)).heap.size := Option.some.inj h9; have := d3.size; simp at h8; omega)⟩
    have hz6 : w3.heap.size + 1 ≤ w6.heap.size := by have := HG6.out.size; simpa using this
    generalize hW8 : (w6.setCell ⟨w2.heap.size, 0, none⟩ (.slice (some ⟨g6, 0, none⟩) (ns.length + 1) c6)).setCell ⟨w2.heap.size, 1, none⟩ (.int .i64 m0) = w8
    have t0_8 : w8.cell? ⟨w.heap.size, 0, none⟩ = some (.int .i64 p0) := by subst hW8; go_cell
    have t1_8 : w8.cell? ⟨w.heap.size, 1, none⟩ = some (.int .i64 p1) := by subst hW8; go_cell
    have t2_8 : w8.cell? ⟨w.heap.size, 2, none⟩ = some (.int .i64 p2) := by subst hW8; go_cell
    have t3_8 : w8.cell? ⟨w.heap.size, 3, none⟩ = some (.int .i64 p3) := by subst hW8; go_cell
    have t4_8 : w8.cell? ⟨w.heap.size, 4, none⟩ = some (u) := by subst hW8; go_cell
    have t5_8 : w8.cell? ⟨w.heap.size, 5, none⟩ = some (.bool bp) := by subst hW8; go_cell
    have t6_8 : w8.cell? ⟨w.heap.size, 6, none⟩ = some (.int .i64 pc) := by subst hW8; go_cell
    have h0_8 : w8.cell? ⟨w2.heap.size, 0, none⟩ = some (.slice (some ⟨g6, 0, none⟩) (ns.length + 1) c6) := by subst hW8; go_cell
    have h1_8 : w8.cell? ⟨w2.heap.size, 1, none⟩ = some (.int .i64 m0) := by subst hW8; go_cell
    have hz8 : w8.heap.size = w6.heap.size := by subst hW8; simp [World.setCell]
    have hS8 : ∀ q, q ≠ w2.heap.size → w8.heap[q]? = w6.heap[q]? := fun q hq => by subst hW8; exact heap_set_ne hq (heap_set_ne hq rfl)
    have HO8 : Hid (OwnI w8 B (.slice (some ⟨g6, 0, none⟩) (ns.length + 1) c6) (ns ++ [p2])) := hid (by have h9 := row_agree HO6.out (w' := w8) (fun k hk => by cases hk; exact hS8 g6 hgB.2.2); unfold OwnI; simpa [ints] using h9)
    have HS8 : Hid (∀ q, q < w2.heap.size → (Value.slice uo ns.length uc).ownBlock ≠ some q → w8.heap[q]? = w2.heap[q]?) := hid (fun q hq hr => ((hS8 q (by omega)).trans (HG6.out.block q (by have := d3.size; simp; omega) (fun e => hr e.symm))).trans (((MapKept.heap_alloc w3 (.cells #[.int .i64 p2] 3)).2 q (by have := d3.size; omega)).trans (d3.block q hq)))
    have b8 : Below B w w8 := ⟨by subst hW8; exact (HG6.out.os.trans (c3.os)), by subst hW8; exact (HG6.out.tape.trans (c3.tape)), by subst hW8; exact (HG6.out.output.trans (c3.output)), by have := c3.size; omega, fun q hq => (HS8.out q (by have := hB.out; omega) (fun e => by have := (HR.out.block q e).1; omega)).trans (c2.block q (by have := hBw.out; have := hB.out; omega))⟩
    have hM8 : Hid (MapF IsTell w8 b n (heardOf g us)) := hid (HB2.out.map.agree (HS8.out b hB.out.2 hrowb.out))
    clear hW8 HG6 HO6 hS8
    have HP1 : Hid (heardOf (addTo g p0 p1 p2) (putTo us p0 p1 (.slice (some ⟨g6, 0, none⟩) (ns.length + 1) c6)) (.agg #[.int .i64 p0, .int .i64 p1]) = some (.agg #[(.slice (some ⟨g6, 0, none⟩) (ns.length + 1) c6), .int .i64 m0])) := hid (by rw [heardOf_put, hns, HMM.out])
    have hl8 : w2.heap.size < w8.heap.size := by have := d3.size; omega
    go_region_law (first
      | (refine step_callK rfl 29 _ _ rfl _ (by first | (simp [Act.eval]; done) | rfl) Try.call29 _ (tellerOf_any p0 p1 p2 p3 pc bp u _) ?_; rintro e w9 ⟨rfl, b9⟩; refine ⟨_, rfl, ?_⟩; have h0_9 : w9.cell? ⟨w2.heap.size, 0, none⟩ = some (.slice (some ⟨g6, 0, none⟩) (ns.length + 1) c6) := (b9.cell (p := ⟨w2.heap.size, 0, none⟩) hl8).trans h0_8; have h1_9 : w9.cell? ⟨w2.heap.size, 1, none⟩ = some (.int .i64 m0) := (b9.cell (p := ⟨w2.heap.size, 1, none⟩) hl8).trans h1_8; have HM9 := hM8.out.agree (b9.block b (Nat.lt_of_lt_of_le hBw.out (Nat.le_trans c2.size (Nat.le_of_lt hl8)))); obtain ⟨w10, hrun10, hm10, hg10⟩ := HM9.put tell_run Try.underlying59 (isTell p0 p1) HP1.out (heardOf_other g us p0 p1 p2 _); have HM10 := hid hm10; have HG10 := hid hg10; clear hm10 hg10 HM9; have HB9 := hid b9))
    all_goals
      go_wp2
      have hg6b : g6 ≠ b := fun q => by
        rcases HL6.out with h9 | h9
        · exact hrowb.out (h9 ▸ (q ▸ rfl))
        · have h8 : g6 = (w3.alloc (.cells #[.int .i64 p2] 3)).heap.size := Option.some.inj h9
          have := d3.size; have := hB.out; simp at h8; omega
      refine bodyPost_end (v := .tuple #[]) (by simp [results, Try.results30]) rfl ⟨rfl, _, Book.put HB2.out p0 p1 p2 (.slice (some ⟨g6, 0, none⟩) (ns.length + 1) c6) ?_ ?_ ?_ HM10.out, ?_⟩
      · rw [hns]
        exact ((HO8.out).agree (fun k hk => HB9.out.block k (HO8.out.block k hk).2)).agree (fun k hk => HG10.out.block k (Nat.lt_of_lt_of_le (HO8.out.block k hk).2 HB9.out.size) (fun e => by cases hk; exact hg6b (Option.some.inj e)))
      · intro q hq hqb hqr
        have hq8 : q < w8.heap.size := by omega
        refine ((HG10.out.block q (Nat.lt_of_lt_of_le hq8 HB9.out.size) (fun e => hqb (Option.some.inj e))).trans (HB9.out.block q hq8)).trans (HS8.out q hq ?_)
        rw [← HU0.out]
        split
        · intro e; cases e
        · rename_i hne
          exact hqr (by rw [hns]; exact hne)
      · intro q hq
        cases hq
        rcases HL6.out with h9 | h9
        · rw [← HU0.out] at h9
          split at h9
          · cases h9
          · rename_i hne
            exact Or.inl ⟨by rw [hns]; exact hne, h9.symm⟩
        · have h8 : g6 = (w3.alloc (.cells #[.int .i64 p2] 3)).heap.size := Option.some.inj h9
          have h7 : (w3.alloc (.cells #[.int .i64 p2] 3)).heap.size = w3.heap.size + 1 := by simp
          rw [h7] at h8
          have := d3.size
          exact Or.inr (by show w2.heap.size ≤ g6; omega)
      · exact ((b8.drew.trans (HB9.out.mono (by have := hB.out; show B ≤ w8.heap.size; omega))).trans (Below.of_grown HG10.out (by have := hB.out; have := HB9.out.size; have : w8.heap.size ≤ w9.heap.size := this; omega) (fun k hk => by cases hk; exact hB.out.1)))
  · have hmx' : m0 < p2 := by omega
    have HMM : Hid (maxOf (ns ++ [p2]) = p2) := hid (by rw [maxOf_snoc, HM0.out]; split <;> omega)
    clear hmx
    go_wp2_with (first | (at_builtin; refine wpList_append_own_at _ rfl _ _ 29 rfl B 3 i0 (.int .i64 0) 1 8 Try.underlying29 hi hz0 hz1 hz2 rfl (by decide) (.slice uo ns.length uc) ns.length _ rfl HR3.out ⟨w3.heap.size, 0, none⟩ 1 1 [.int .i64 p2] rfl rfl HNW.out (by simp [Value.oneCell']) hk1 hk2 hbs ?_; intro v6 w6 hown6 hgr6 _ hl6; obtain ⟨g6, c6, rfl⟩ := ownsRow_succ hown6; have t0_6 : w6.cell? ⟨w.heap.size, 0, none⟩ = some (.int .i64 p0) := hgr6.cell (by go_cell) (hnT); have t1_6 : w6.cell? ⟨w.heap.size, 1, none⟩ = some (.int .i64 p1) := hgr6.cell (by go_cell) (hnT); have t2_6 : w6.cell? ⟨w.heap.size, 2, none⟩ = some (.int .i64 p2) := hgr6.cell (by go_cell) (hnT); have t3_6 : w6.cell? ⟨w.heap.size, 3, none⟩ = some (.int .i64 p3) := hgr6.cell (by go_cell) (hnT); have t4_6 : w6.cell? ⟨w.heap.size, 4, none⟩ = some (u) := hgr6.cell (by go_cell) (hnT); have t5_6 : w6.cell? ⟨w.heap.size, 5, none⟩ = some (.bool bp) := hgr6.cell (by go_cell) (hnT); have t6_6 : w6.cell? ⟨w.heap.size, 6, none⟩ = some (.int .i64 pc) := hgr6.cell (by go_cell) (hnT); have h0_6 : w6.cell? ⟨w2.heap.size, 0, none⟩ = some (.slice uo ns.length uc) := hgr6.cell (by go_cell) hnH; have h1_6 : w6.cell? ⟨w2.heap.size, 1, none⟩ = some (.int .i64 m0) := hgr6.cell (by go_cell) hnH; have hf0_6 : w6.frozen? ⟨w2.heap.size, 0, none⟩ = false := (frozen_of_block (hgr6.block _ (by simp; omega) hnH)).trans (by go_cell); have hf1_6 : w6.frozen? ⟨w2.heap.size, 1, none⟩ = false := (frozen_of_block (hgr6.block _ (by simp; omega) hnH)).trans (by go_cell); have HO6 := hid hown6; have HG6 := hid hgr6; have HL6 := hid hl6; clear hown6 hgr6 hl6))
    have hgB : B ≤ g6 ∧ g6 < w6.heap.size ∧ g6 ≠ w2.heap.size := ⟨(HO6.out.lt g6 rfl).1, (HO6.out.lt g6 rfl).2, fun q => by rcases HL6.out with h9 | h9; (have := hrb.out g6 (h9 ▸ rfl); omega); (have h8 : g6 = (w3.alloc (.cells #[.int .i64 p2] 3)).heap.size := Option.some.inj h9; have := d3.size; simp at h8; omega)⟩
    have hz6 : w3.heap.size + 1 ≤ w6.heap.size := by have := HG6.out.size; simpa using this
    generalize hW8 : (w6.setCell ⟨w2.heap.size, 0, none⟩ (.slice (some ⟨g6, 0, none⟩) (ns.length + 1) c6)).setCell ⟨w2.heap.size, 1, none⟩ (.int .i64 p2) = w8
    have t0_8 : w8.cell? ⟨w.heap.size, 0, none⟩ = some (.int .i64 p0) := by subst hW8; go_cell
    have t1_8 : w8.cell? ⟨w.heap.size, 1, none⟩ = some (.int .i64 p1) := by subst hW8; go_cell
    have t2_8 : w8.cell? ⟨w.heap.size, 2, none⟩ = some (.int .i64 p2) := by subst hW8; go_cell
    have t3_8 : w8.cell? ⟨w.heap.size, 3, none⟩ = some (.int .i64 p3) := by subst hW8; go_cell
    have t4_8 : w8.cell? ⟨w.heap.size, 4, none⟩ = some (u) := by subst hW8; go_cell
    have t5_8 : w8.cell? ⟨w.heap.size, 5, none⟩ = some (.bool bp) := by subst hW8; go_cell
    have t6_8 : w8.cell? ⟨w.heap.size, 6, none⟩ = some (.int .i64 pc) := by subst hW8; go_cell
    have h0_8 : w8.cell? ⟨w2.heap.size, 0, none⟩ = some (.slice (some ⟨g6, 0, none⟩) (ns.length + 1) c6) := by subst hW8; go_cell
    have h1_8 : w8.cell? ⟨w2.heap.size, 1, none⟩ = some (.int .i64 p2) := by subst hW8; go_cell
    have hz8 : w8.heap.size = w6.heap.size := by subst hW8; simp [World.setCell]
    have hS8 : ∀ q, q ≠ w2.heap.size → w8.heap[q]? = w6.heap[q]? := fun q hq => by subst hW8; exact heap_set_ne hq (heap_set_ne hq rfl)
    have HO8 : Hid (OwnI w8 B (.slice (some ⟨g6, 0, none⟩) (ns.length + 1) c6) (ns ++ [p2])) := hid (by have h9 := row_agree HO6.out (w' := w8) (fun k hk => by cases hk; exact hS8 g6 hgB.2.2); unfold OwnI; simpa [ints] using h9)
    have HS8 : Hid (∀ q, q < w2.heap.size → (Value.slice uo ns.length uc).ownBlock ≠ some q → w8.heap[q]? = w2.heap[q]?) := hid (fun q hq hr => ((hS8 q (by omega)).trans (HG6.out.block q (by have := d3.size; simp; omega) (fun e => hr e.symm))).trans (((MapKept.heap_alloc w3 (.cells #[.int .i64 p2] 3)).2 q (by have := d3.size; omega)).trans (d3.block q hq)))
    have b8 : Below B w w8 := ⟨by subst hW8; exact (HG6.out.os.trans (c3.os)), by subst hW8; exact (HG6.out.tape.trans (c3.tape)), by subst hW8; exact (HG6.out.output.trans (c3.output)), by have := c3.size; omega, fun q hq => (HS8.out q (by have := hB.out; omega) (fun e => by have := (HR.out.block q e).1; omega)).trans (c2.block q (by have := hBw.out; have := hB.out; omega))⟩
    have hM8 : Hid (MapF IsTell w8 b n (heardOf g us)) := hid (HB2.out.map.agree (HS8.out b hB.out.2 hrowb.out))
    clear hW8 HG6 HO6 hS8
    have HP1 : Hid (heardOf (addTo g p0 p1 p2) (putTo us p0 p1 (.slice (some ⟨g6, 0, none⟩) (ns.length + 1) c6)) (.agg #[.int .i64 p0, .int .i64 p1]) = some (.agg #[(.slice (some ⟨g6, 0, none⟩) (ns.length + 1) c6), .int .i64 p2])) := hid (by rw [heardOf_put, hns, HMM.out])
    have hl8 : w2.heap.size < w8.heap.size := by have := d3.size; omega
    go_region_law (first
      | (refine step_callK rfl 29 _ _ rfl _ (by first | (simp [Act.eval]; done) | rfl) Try.call29 _ (tellerOf_any p0 p1 p2 p3 pc bp u _) ?_; rintro e w9 ⟨rfl, b9⟩; refine ⟨_, rfl, ?_⟩; have h0_9 : w9.cell? ⟨w2.heap.size, 0, none⟩ = some (.slice (some ⟨g6, 0, none⟩) (ns.length + 1) c6) := (b9.cell (p := ⟨w2.heap.size, 0, none⟩) hl8).trans h0_8; have h1_9 : w9.cell? ⟨w2.heap.size, 1, none⟩ = some (.int .i64 p2) := (b9.cell (p := ⟨w2.heap.size, 1, none⟩) hl8).trans h1_8; have HM9 := hM8.out.agree (b9.block b (Nat.lt_of_lt_of_le hBw.out (Nat.le_trans c2.size (Nat.le_of_lt hl8)))); obtain ⟨w10, hrun10, hm10, hg10⟩ := HM9.put tell_run Try.underlying59 (isTell p0 p1) HP1.out (heardOf_other g us p0 p1 p2 _); have HM10 := hid hm10; have HG10 := hid hg10; clear hm10 hg10 HM9; have HB9 := hid b9))
    all_goals
      go_wp2
      have hg6b : g6 ≠ b := fun q => by
        rcases HL6.out with h9 | h9
        · exact hrowb.out (h9 ▸ (q ▸ rfl))
        · have h8 : g6 = (w3.alloc (.cells #[.int .i64 p2] 3)).heap.size := Option.some.inj h9
          have := d3.size; have := hB.out; simp at h8; omega
      refine bodyPost_end (v := .tuple #[]) (by simp [results, Try.results30]) rfl ⟨rfl, _, Book.put HB2.out p0 p1 p2 (.slice (some ⟨g6, 0, none⟩) (ns.length + 1) c6) ?_ ?_ ?_ HM10.out, ?_⟩
      · rw [hns]
        exact ((HO8.out).agree (fun k hk => HB9.out.block k (HO8.out.block k hk).2)).agree (fun k hk => HG10.out.block k (Nat.lt_of_lt_of_le (HO8.out.block k hk).2 HB9.out.size) (fun e => by cases hk; exact hg6b (Option.some.inj e)))
      · intro q hq hqb hqr
        have hq8 : q < w8.heap.size := by omega
        refine ((HG10.out.block q (Nat.lt_of_lt_of_le hq8 HB9.out.size) (fun e => hqb (Option.some.inj e))).trans (HB9.out.block q hq8)).trans (HS8.out q hq ?_)
        rw [← HU0.out]
        split
        · intro e; cases e
        · rename_i hne
          exact hqr (by rw [hns]; exact hne)
      · intro q hq
        cases hq
        rcases HL6.out with h9 | h9
        · rw [← HU0.out] at h9
          split at h9
          · cases h9
          · rename_i hne
            exact Or.inl ⟨by rw [hns]; exact hne, h9.symm⟩
        · have h8 : g6 = (w3.alloc (.cells #[.int .i64 p2] 3)).heap.size := Option.some.inj h9
          have h7 : (w3.alloc (.cells #[.int .i64 p2] 3)).heap.size = w3.heap.size + 1 := by simp
          rw [h7] at h8
          have := d3.size
          exact Or.inr (by show w2.heap.size ≤ g6; omega)
      · exact ((b8.drew.trans (HB9.out.mono (by have := hB.out; show B ≤ w8.heap.size; omega))).trans (Below.of_grown HG10.out (by have := hB.out; have := HB9.out.size; have : w8.heap.size ≤ w9.heap.size := this; omega) (fun k hk => by cases hk; exact hB.out.1)))

end Go.Proofs.Ytnnhpnhnddibjaa
