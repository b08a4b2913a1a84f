/- The draw of a cache: what its rows are, plainly. -/
import Derived.Test.YtilbaiohcfhcaaaXy
import Derived.Test.YtilbaiohcfhcaaaYc
namespace Go.Proofs.Ytilbaiohcfhcaaa
open Go.RowKit
attribute [local go_sem ↓] Go.wp_at_zero Go.wp_at_succ

theorem row_base {w : World} {B n sz : Nat} {e : TypeId} {v : Value} {xs : List Value} (h : w.ownsRow 0 e sz v n xs) (hB : ∀ q, v.ownBlock = some q → B ≤ q) : w.ownsRow B e sz v n xs := by
  refine ⟨h.1, ?_⟩
  rcases h.2 with hn | ⟨g, cap, cur, rfl, _, hgg, rest⟩
  · exact .inl hn
  · exact .inr ⟨g, cap, cur, rfl, hB g rfl, hgg, rest⟩
theorem RdK.rowA {G : Nat → Prop} {w : World} {v : Value} {L : List KD} {B : Nat} (h : RdK G w v L) (hB : ∀ q, ¬ G q → B ≤ q) : ∃ xs us, RowA w B v L xs us ∧ ∀ i, i < L.length → Rd w (us i) (L.getD i kd0).2 ∧ (0 < (L.getD i kd0).2.length → ∀ q, (us i).ownBlock = some q → ¬ G q ∧ v.ownBlock ≠ some q) := by
  obtain ⟨ao, cap, rfl, hl, hc, ⟨xs, hrow⟩, hown⟩ := h
  have hrB := row_base (B := B) hrow (fun q hq => hB q (hown q hq))
  by_cases h0 : 0 < L.length
  · obtain ⟨b, off, rfl, hb, hbg, hcc⟩ := hc h0
    obtain ⟨b', c', cur, hv, _⟩ := hrow.2.resolve_left (fun h => by cases h.1)
    injection hv with h1 _ _
    injection h1 with h1
    injection h1 with h1 h2 _
    subst h2
    have hat := fun j (hj : j < L.length * 4) => World.ownsRow.cellAt hrow j hj
    refine ⟨xs, fun i => (xs[i * 4 + 3]?).getD (.bool false), ⟨hrB, fun i hi => ?_, fun i hi j hj => ?_, fun i hi => ?_⟩, fun i hi => ?_⟩
    · obtain ⟨p0, p1, p2, l, u, hx, _⟩ := hcc i hi
      rw [hx]; rfl
    · obtain ⟨p0, p1, p2, l, u, hx, c0, c1, c2, _⟩ := hcc i hi
      rw [Nat.zero_add] at c0 c1 c2
      rw [hx, ← hat _ (by omega)]
      match j, hj with
      | 0, _ => exact c0
      | 1, _ => exact c1
      | 2, _ => exact c2
    · obtain ⟨p0, p1, p2, l, u, hx, c0, c1, c2, c3, _⟩ := hcc i hi
      rw [Nat.zero_add, hat _ (by omega)] at c3
      simp only [c3, Option.getD_some]
    · obtain ⟨p0, p1, p2, l, u, hx, c0, c1, c2, c3, hu, hn⟩ := hcc i hi
      rw [Nat.zero_add, hat _ (by omega)] at c3
      simp only [c3, Option.getD_some, hx]
      exact ⟨hu, hn⟩
  · have : L = [] := List.eq_nil_of_length_eq_zero (by omega)
    subst this
    exact ⟨xs, fun _ => .bool false, ⟨hrB, fun _ h => absurd h (Nat.not_lt_zero _), fun _ h => absurd h (Nat.not_lt_zero _), fun _ h => absurd h (Nat.not_lt_zero _)⟩, fun _ h => absurd h (Nat.not_lt_zero _)⟩
theorem RowA.rdM {w : World} {B : Nat} {v : Value} {L : List KD} {xs : List Value} {us : Nat → Value} (h : RowA w B v L xs us) (hk : ∀ i, i < L.length → Rd w (us i) (L.getD i kd0).2) : RdM 4 3 true w v L := by
  have h0 := h.row
  rcases h.row.2 with ⟨rfl, hn⟩ | ⟨b, cap, cur, rfl, hb, hg2, hnc, hcm, hcs, htake⟩
  · have : L = [] := List.eq_nil_of_length_eq_zero hn
    subst this
    exact RdM.nil _ none 0
  · refine ⟨_, cap, rfl, Nat.le_trans hnc hcm, fun _ => ⟨b, 0, rfl, (Array.getElem?_eq_some_iff.1 hg2).1, fun i hi => ⟨h.len i hi, fun j hj => ?_, fun _ => ⟨us i, ?_, hk i hi⟩, fun q => (by cases q)⟩⟩⟩
    · rw [Nat.zero_add, World.ownsRow.cellAt h0 _ (by omega)]
      exact h.num i hi j hj
    · rw [Nat.zero_add, World.ownsRow.cellAt h0 _ (by omega)]
      exact h.kin i hi
theorem RowA.append {w w' : World} {B B' : Nat} {v v' : Value} {L M : List KD} {xs cs : List Value} {us ts : Nat → Value} (h : RowA w B v L xs us) (ho : w'.ownsRow B' 31 4 v' (L.length + M.length) (xs ++ cs))
    (hl : ∀ i, i < M.length → (M.getD i kd0).1.length = 3) (hn : ∀ i, i < M.length → ∀ j, j < 3 → cs[i * 4 + j]? = some (.int .i64 ((M.getD i kd0).1.getD j 0))) (hk : ∀ i, i < M.length → cs[i * 4 + 3]? = some (ts i)) :
    RowA w' B' v' (L ++ M) (xs ++ cs) (fun i => if i < L.length then us i else ts (i - L.length)) := by
  have hx : xs.length = L.length * 4 := h.row.1
  have g1 : ∀ i, i < L.length → (L ++ M).getD i kd0 = L.getD i kd0 := fun i hi => by simp [List.getElem?_append_left hi]
  have g2 : ∀ i, ¬ i < L.length → (L ++ M).getD i kd0 = M.getD (i - L.length) kd0 := fun i hi => by simp [List.getElem?_append_right (Nat.le_of_not_lt hi)]
  have ml : ∀ i, i < (L ++ M).length → ¬ i < L.length → i - L.length < M.length := fun i hi hn => by rw [List.length_append] at hi; omega
  refine ⟨by rw [List.length_append]; exact ho, fun i hi => ?_, fun i hi j hj => ?_, fun i hi => ?_⟩
  · by_cases e : i < L.length
    · rw [g1 i e]; exact h.len i e
    · rw [g2 i e]; exact hl _ (ml i hi e)
  · by_cases e : i < L.length
    · rw [g1 i e, List.getElem?_append_left (by omega)]; exact h.num i e j hj
    · rw [g2 i e, List.getElem?_append_right (by omega), show i * 4 + j - xs.length = (i - L.length) * 4 + j from by omega]
      exact hn _ (ml i hi e) j hj
  · by_cases e : i < L.length
    · rw [if_pos e, List.getElem?_append_left (by omega)]; exact h.kin i e
    · rw [if_neg e, List.getElem?_append_right (by omega), show i * 4 + 3 - xs.length = (i - L.length) * 4 + 3 from by omega]
      exact hk _ (ml i hi e)
/-- A row reads so whatever becomes of the blocks below N. -/
def ApI (N : Nat) (w : World) (v : Value) (L : List KD) : Prop := ∀ w2, Only (fun q => q < N) w w2 → RdM 4 3 true w2 v L
def ApF (N : Nat) (w : World) (v : Value) (F : List KD) : Prop := ∀ w2, Only (fun q => q < N) w w2 → RdM 1 1 false w2 v F
theorem ApI.only {N : Nat} {w w' : World} {v : Value} {L : List KD} (h : ApI N w v L) (ho : Only (fun q => q < N) w w') : ApI N w' v L := fun w2 h2 => h w2 (ho.trans h2)
theorem ApF.only {N : Nat} {w w' : World} {v : Value} {L : List KD} (h : ApF N w v L) (ho : Only (fun q => q < N) w w') : ApF N w' v L := fun w2 h2 => h w2 (ho.trans h2)
theorem RdK.apI {N : Nat} {w : World} {v : Value} {L : List KD} (h : RdK (fun q => q < N) w v L) : ApI N w v L := fun _ h2 => (h.only h2).rd
theorem apF_row {N B g c : Nat} {w : World} {F : List KD} (h : w.ownsRow B 3 1 (.slice (some ⟨g, 0, none⟩) 24 c) 24 (floC F)) (hf : FloF F) (hg : N ≤ g) : ApF N w (.slice (some ⟨g, 0, none⟩) 24 c) F :=
  fun _ h2 => rowF_rd (row_agree h (fun q hq => by cases hq; exact h2.block g (h.lt g rfl).2 (by show ¬ g < N; omega))) hf
theorem RdM.takeN {sz m n cap k : Nat} {kn : Bool} {w : World} {ao : Option Addr} {L : List KD} (h : RdM sz m kn w (.slice ao n cap) L) (hk : k ≤ L.length) : RdM sz m kn w (.slice ao k cap) (L.take k) := by
  obtain ⟨ao', cap', hv, hl, hc⟩ := h
  injection hv with h1 h2 h3
  subst h1 h2 h3
  have hlen : (L.take k).length = k := by rw [List.length_take]; omega
  refine ⟨ao, cap, by rw [hlen], by omega, fun h0 => ?_⟩
  obtain ⟨b, off, rfl, hb, hcc⟩ := hc (by omega)
  refine ⟨b, off, rfl, hb, fun i hi => ?_⟩
  have e : (L.take k).getD i kd0 = L.getD i kd0 := by
    rw [hlen] at hi
    simp [hi]
  rw [e]
  exact hcc i (by omega)
theorem RowA.apI {N B : Nat} {w : World} {v : Value} {L : List KD} {xs : List Value} {us : Nat → Value} (h : RowA w B v L xs us) (hB : N ≤ B) (hk : ∀ i, i < L.length → Rd w (us i) (L.getD i kd0).2 ∧ (0 < (L.getD i kd0).2.length → ∀ q, (us i).ownBlock = some q → ¬ q < N)) : ApI N w v L :=
  fun w2 h2 => RowA.rdM (B := B) (xs := xs) (us := us) ⟨row_agree h.row (fun q hq => h2.block q (h.row.lt q hq).2 (by have := (h.row.lt q hq).1; show ¬ q < N; omega)), h.len, h.num, h.kin⟩ (fun i hi => (hk i hi).1.only h2 (hk i hi).2)
/-- append of items that are read onto a row that is owned, in a statement of one order. -/
theorem wpList_append_rd {ops : Array Oper} {rest : List Oper} {o : Oper} {a : Act} {w : World} {Q : Exit → Act → World → Prop} (hgd : o.guard = none) (s x : Operand)
    (ho : o.op = .call { callee := .builtin .append, args := #[s, x], argTypes := #[23, 23] })
    (base : Nat) (v : Value) (n : Nat) (xs : List Value) (hs : a.eval s = v) (hown : w.ownsRow base 31 4 v n xs) (xo : Option Addr) (n1 xc : Nat) (cs : List Value) (hx : a.eval x = .slice xo n1 xc)
    (hc : (n1 = 0 ∧ cs = []) ∨ (∃ b off, xo = some ⟨b, off, none⟩ ∧ cs.length = n1 * 4 ∧ (∀ j y, cs[j]? = some y → w.cell? ⟨b, off + j, none⟩ = some y) ∧ (∀ y ∈ cs, y.oneCell' = true)))
    (h63 : n + n1 ≤ maxLen) (hbytes : (n + n1) * 48 ≤ 140737488355328) (hbase : base ≤ w.heap.size)
    (h : ∀ v' w', w'.ownsRow base 31 4 v' (n + n1) (xs ++ cs) → w.grownBy w' v.ownBlock → wpList Try.prog ops Q rest (a.put o.dst v') w') : wpList Try.prog ops Q (o :: rest) a w :=
  wpList_plain hgd fun _ hK => by
    obtain ⟨v', w', hr, h2, h3⟩ := run_append_rd w base o.type v n xs hown xo n1 xc cs hc h63 hbytes hbase
    unfold Oper.wp
    simp [execOp, ho, resolve, invoke, builtin, hs, hx, hr, Result.andThen]
    exact hK _ _ (h v' w' h2 h3)

theorem ApI.mono {N M : Nat} {w : World} {v : Value} {L : List KD} (h : ApI N w v L) (hm : M ≤ N) : ApI M w v L := fun w2 h2 => h w2 (h2.mono fun q (hq : q < M) => show q < N by omega)

/-! ### The state of the draw -/
structure DrK (w wr : World) (B g q N gF : Nat) (x : Value) (I F : List KD) : Prop where
  rdr : Rdr wr B g q
  grown : w.grownBy wr (some g)
  rdk : RdK (fun q => q < N) wr x I
  row : wr.ownsRow w.heap.size 3 1 (.slice (some ⟨gF, 0, none⟩) 24 24) 24 (floC F)
  flo : FloF F
  h4 : I.length ≤ 4
  size : N ≤ wr.heap.size
  gw : g < w.heap.size
  fN : gF < N
theorem DrK.fw {w wr : World} {B g q N gF : Nat} {x : Value} {I F : List KD} (h : DrK w wr B g q N gF x I F) : w.heap.size ≤ gF := (h.row.lt gF rfl).1
theorem DrK.kept {w wr w' : World} {B g q q' N gF : Nat} {x : Value} {I F : List KD} (h : DrK w wr B g q N gF x I F) (hR : Rdr w' B g q') (hg : wr.grownBy w' (some g)) : DrK w w' B g q' N gF x I F := by
  have hf := h.fw
  have h1 := h.gw
  have h2 := h.fN
  exact ⟨hR, grown_trans h.grown hg, h.rdk.only (Only.of_grown hg (fun k e => by have := Option.some.inj e; show k < N; omega)), row_agree h.row (fun k hk => by cases hk; exact hg.block gF (h.row.lt gF rfl).2 (fun e => by have := Option.some.inj e; omega)), h.flo, h.h4, Nat.le_trans h.size hg.size, h1, h2⟩
theorem grown_only {wr w' : World} {gF : Nat} (h : Only (fun k => k = gF) wr w') : wr.grownBy w' (some gF) := ⟨h.os, h.tape, h.output, h.size, fun k hk hn => h.block k hk (fun e => hn (by rw [e]))⟩
theorem grown_far {w wr w' : World} {g gF : Nat} (h : w.grownBy wr (some g)) (ho : Only (fun k => k = gF) wr w') (hf : w.heap.size ≤ gF) : w.grownBy w' (some g) :=
  ⟨ho.os.trans h.os, ho.tape.trans h.tape, ho.output.trans h.output, Nat.le_trans h.size ho.size, fun k hk hn => (ho.block k (Nat.lt_of_lt_of_le hk h.size) (by omega)).trans (h.block k hk hn)⟩
theorem DrK.call {w wr w' : World} {B g q N gF : Nat} {x y : Value} {I F I' F' : List KD} (h : DrK w wr B g q N gF x I F) (hk : RdK (fun q => q < N) w' y I') (hr : w'.ownsRow w.heap.size 3 1 (.slice (some ⟨gF, 0, none⟩) 24 24) 24 (floC F')) (hf : FloF F') (h4 : I'.length ≤ 4)
    (ho : Only (fun k => k = gF) wr w') : DrK w w' B g q N gF y I' F' := by
  have hw := h.fw
  have h1 := h.gw
  have h2 := h.rdr.1
  exact ⟨h.rdr.kept (grown_only ho) (fun k e => by have := Option.some.inj e; omega) (fun e => by have := Option.some.inj e; omega), grown_far h.grown ho hw, hk, hr, hf, h4, Nat.le_trans h.size ho.size, h1, h.fN⟩
theorem DrK.set {w wr : World} {B g q N gF : Nat} {x : Value} {I F : List KD} (h : DrK w wr B g q N gF x I F) {p : Addr} (h0 : w.heap.size ≤ p.block) (h1 : p.block < N) (hne : p.block ≠ gF) (u : Value) : DrK w (wr.setCell p u) B g q N gF x I F := by
  have h2 := h.rdr.1
  have h3 := h.gw
  exact ⟨h.rdr.setFar (by omega) (by omega) u, grown_set_new h.grown h0 u, h.rdk.only (Only.set (F := fun q => q < N) wr h1 u), row_agree h.row (fun k hk => by cases hk; exact Below.heap_setCell _ _ _ _ (fun e => hne e.symm)), h.flo, h.h4, by simpa using h.size, h3, h.fN⟩
theorem DrK.later {w wr w' : World} {B g q N gF : Nat} {x : Value} {I F : List KD} (h : DrK w wr B g q N gF x I F) (hb : Below wr.heap.size wr w') : DrK w w' B g q N gF x I F := h.kept (h.rdr.later hb) (grown_wide (grownBelowR hb))
/-- What l5Floor and l5Put make of a cache. -/
theorem floD {I F : List KD} (hf : FloF F) (h4 : I.length ≤ 4) (key ver : Int) : ∃ I' F', (if raB F key ver then (dropI key I, putF F key ver) else (I, F)) = (I', F') ∧ FloF F' ∧ I'.length ≤ 4 := by
  cases h : raB F key ver with
  | false => exact ⟨I, F, rfl, hf, h4⟩
  | true =>
    have hk : 0 ≤ key ∧ key < 24 := by
      unfold raB at h
      rw [Bool.and_eq_true] at h
      simpa [keyIn] using h.1
    exact ⟨_, _, rfl, hf.set _ _ (by omega), Nat.le_trans (List.length_filter_le _ _) h4⟩
theorem putD {I F : List KD} (hf : FloF F) (h4 : I.length ≤ 4) (k v n : Int) (l : List (Int × Int)) : ∃ I' F' b, (if putB F k v n l then ((putI k v n l I, putF F k v), true) else ((I, F), false)) = ((I', F'), b) ∧ FloF F' ∧ I'.length ≤ 4 := by
  cases h : putB F k v n l with
  | false => exact ⟨I, F, false, rfl, hf, h4⟩
  | true => exact ⟨_, _, true, rfl, okC_putF hf h, by unfold putI; rw [List.length_take]; omega⟩
theorem DrK.far {w wr w' : World} {B g q N gF : Nat} {x : Value} {I F : List KD} (h : DrK w wr B g q N gF x I F) (hw : w.heap.size ≤ N) (ho : Only (fun k => N ≤ k) wr w') : DrK w w' B g q N gF (.slice none 0 0) [] F := by
  have h1 := h.gw
  have h2 := h.fN
  have h3 := h.rdr.1
  obtain ⟨hB, hlt, ao, n, cap, c0, c1, f, hn, hnc, hb⟩ := h.rdr
  have hgb : w'.heap[g]? = wr.heap[g]? := ho.block g hlt (by show ¬ N ≤ g; omega)
  have hR : Rdr w' B g q := ⟨hB, Nat.lt_of_lt_of_le hlt ho.size, ao, n, cap, (World.cell?_of_block (a := ⟨g, 0, none⟩) hgb).trans c0, (World.cell?_of_block (a := ⟨g, 1, none⟩) hgb).trans c1, (World.frozen?_of_block (a := ⟨g, 1, none⟩) hgb).trans f, hn, hnc, fun h0 => by
    obtain ⟨b, off, ha, hbB, hbc⟩ := hb h0
    refine ⟨b, off, ha, hbB, fun i hi => ?_⟩
    obtain ⟨y, hy, hy1⟩ := hbc i hi
    exact ⟨y, (World.cell?_of_block (a := ⟨b, off + i, none⟩) (ho.block b (by omega) (by show ¬ N ≤ b; omega))).trans hy, hy1⟩⟩
  exact ⟨hR, ⟨ho.os.trans h.grown.os, ho.tape.trans h.grown.tape, ho.output.trans h.grown.output, Nat.le_trans h.grown.size ho.size, fun k hk hn => (ho.block k (Nat.lt_of_lt_of_le hk h.grown.size) (by show ¬ N ≤ k; omega)).trans (h.grown.block k hk hn)⟩,
    ⟨none, 0, rfl, Nat.zero_le _, fun q => absurd q (Nat.lt_irrefl 0), ⟨[], World.ownsRow_nil _ _ _ _⟩, fun q hq => by cases hq⟩, row_agree h.row (fun k hk => by cases hk; exact ho.block gF (h.row.lt gF rfl).2 (by show ¬ N ≤ gF; omega)), h.flo, Nat.zero_le _, Nat.le_trans h.size ho.size, h1, h2⟩
theorem only_grownN {N : Nat} {w5 wa w6 : World} {v : Value} (hb : Below w5.heap.size w5 wa) (hgr : wa.grownBy w6 v.ownBlock) (hv : ∀ q, v.ownBlock = some q → N ≤ q) : Only (fun k => N ≤ k) w5 w6 :=
  (Only.later hb).trans (Only.of_grown hgr (fun k hk => hv k hk))
theorem rd_grown {N : Nat} {w5 wa w6 : World} {u v : Value} {l : List (Int × Int)} (h : Rd w5 u l) (hn : 0 < l.length → ∀ q, u.ownBlock = some q → ¬ q < N ∧ v.ownBlock ≠ some q) (hb : Below w5.heap.size w5 wa) (hgr : wa.grownBy w6 v.ownBlock) : Rd w6 u l :=
  (h.later hb).only (Only.of_grown (F := fun q => v.ownBlock = some q) hgr (fun _ hk => hk)) (fun h0 q hq => (hn h0 q hq).2)
theorem add_apI {N : Nat} {w5 wa w6 : World} {v v6 u : Value} {L : List KD} {xs : List Value} {us : Nat → Value} {k p n : Int} {l : List (Int × Int)} (hR : RowA w5 N v L xs us)
    (hk : ∀ i, i < L.length → Rd w5 (us i) (L.getD i kd0).2 ∧ (0 < (L.getD i kd0).2.length → ∀ q, (us i).ownBlock = some q → ¬ q < N ∧ v.ownBlock ≠ some q)) (hb : Below w5.heap.size w5 wa) (hu : Own w5 N u l)
    (ho : w6.ownsRow N 31 4 v6 (L.length + 1) (xs ++ [.int .i64 k, .int .i64 p, .int .i64 n, u])) (hgr : wa.grownBy w6 v.ownBlock) : ApI N w6 v6 (L ++ [([k, p, n], l)]) := by
  refine (RowA.add (l := l) hR ho).apI (Nat.le_refl _) (fun i hi => ?_)
  by_cases e : i = L.length
  · rw [if_pos e, e, getD_last]
    exact ⟨rd_grown (N := N) hu.rd (fun _ q hq => ⟨Nat.not_lt.2 (hu.block q hq).1, fun e => kin_off_row hR.row hu q e hq⟩) hb hgr, fun _ q hq => Nat.not_lt.2 (hu.block q hq).1⟩
  · have hi' : i < L.length := by rw [List.length_append, List.length_singleton] at hi; omega
    rw [if_neg e, getD_init _ hi']
    exact ⟨rd_grown (hk i hi').1 (hk i hi').2 hb hgr, fun h0 q hq => ((hk i hi').2 h0 q hq).1⟩
theorem dbl_apI {N : Nat} {w w6 : World} {v v6 : Value} {L : List KD} {xs : List Value} {us : Nat → Value} (hR : RowA w N v L xs us)
    (hk : ∀ i, i < L.length → Rd w (us i) (L.getD i kd0).2 ∧ (0 < (L.getD i kd0).2.length → ∀ q, (us i).ownBlock = some q → ¬ q < N ∧ v.ownBlock ≠ some q))
    (ho : w6.ownsRow N 31 4 v6 (L.length + L.length) (xs ++ xs)) (hgr : w.grownBy w6 v.ownBlock) : ApI N w6 v6 (L ++ L) := by
  have hk6 : ∀ i, i < L.length → Rd w6 (us i) (L.getD i kd0).2 ∧ (0 < (L.getD i kd0).2.length → ∀ q, (us i).ownBlock = some q → ¬ q < N) := fun i hi =>
    ⟨rd_grown (hk i hi).1 (hk i hi).2 (Below.refl _ w) hgr, fun h0 q hq => ((hk i hi).2 h0 q hq).1⟩
  refine (RowA.append hR ho hR.len hR.num hR.kin).apI (Nat.le_refl _) (fun i hi => ?_)
  by_cases e : i < L.length
  · rw [if_pos e, show (L ++ L).getD i kd0 = L.getD i kd0 from by simp [List.getElem?_append_left e]]
    exact hk6 i e
  · rw [if_neg e, show (L ++ L).getD i kd0 = L.getD (i - L.length) kd0 from by simp [List.getElem?_append_right (Nat.le_of_not_lt e)]]
    exact hk6 _ (by rw [List.length_append] at hi; omega)
theorem RowA.src {N : Nat} {w : World} {ao : Option Addr} {cap : Nat} {L : List KD} {xs : List Value} {us : Nat → Value} (h : RowA w N (.slice ao L.length cap) L xs us) (hk : ∀ i, i < L.length → Rd w (us i) (L.getD i kd0).2) :
    (L.length = 0 ∧ xs = []) ∨ (∃ b off, ao = some ⟨b, off, none⟩ ∧ xs.length = L.length * 4 ∧ (∀ j y, xs[j]? = some y → w.cell? ⟨b, off + j, none⟩ = some y) ∧ (∀ y ∈ xs, y.oneCell' = true)) := by
  have h0 := h.row
  have hx : xs.length = L.length * 4 := h0.1
  rcases h.row.2 with ⟨_, hn⟩ | ⟨b, cap', cur, hv, _⟩
  · exact .inl ⟨hn, List.eq_nil_of_length_eq_zero (by omega)⟩
  · injection hv with h1 _ h3
    subst h1 h3
    refine .inr ⟨b, 0, rfl, hx, fun j y hy => ?_, fun y hy => ?_⟩
    · have hj : j < L.length * 4 := by have := (List.getElem?_eq_some_iff.1 hy).1; omega
      rw [Nat.zero_add, World.ownsRow.cellAt h0 j hj]
      exact hy
    · obtain ⟨j, hj, rfl⟩ := List.getElem_of_mem hy
      have hjj : xs[j]? = some xs[j] := List.getElem?_eq_getElem hj
      have hi : j / 4 < L.length := by omega
      have hm : j % 4 < 3 ∨ j % 4 = 3 := by omega
      rcases hm with hm | hm
      · have := h.num (j / 4) hi (j % 4) hm
        rw [show j / 4 * 4 + j % 4 = j from by omega, hjj] at this
        rw [Option.some.inj this]
        rfl
      · have := h.kin (j / 4) hi
        rw [show j / 4 * 4 + 3 = j from by omega, hjj] at this
        rw [Option.some.inj this]
        obtain ⟨_, _, hu, _⟩ := hk (j / 4) hi
        rw [hu]
        rfl
end Go.Proofs.Ytilbaiohcfhcaaa
