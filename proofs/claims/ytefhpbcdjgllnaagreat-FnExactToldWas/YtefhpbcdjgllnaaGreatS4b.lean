/- A part while it is written into: how it lies in memory; (*truth).commit: contract. -/
import Derived.Test.YtefhpbcdjgllnaaGreatS4r
import Derived.Test.YtefhpbcdjgllnaaGreatS4a
import Derived.Deep.Cut
import Derived.RangeFuncBox
import Derived.Maps.AppendAt
namespace Go.Proofs.YtefhpbcdjgllnaaGreat
open Go.RowKit
attribute [local go_sem ↓] Go.wp_at_zero Go.wp_at_succ

/-- What the map of rows has of a key. -/
def rowOf (N : Int → KD) (us : Int → Value) (x : Value) : Option Value :=
  match x with
  | .int .i64 k => if (N k).1.getD 0 0 = 0 then none else some (.agg #[.int .i64 ((N k).1.getD 0 0), .int .i64 ((N k).1.getD 1 0), us k])
  | _ => none
theorem rowOf_at (N : Int → KD) (us : Int → Value) (k : Int) : rowOf N us (.int .i64 k) = if (N k).1.getD 0 0 = 0 then none else some (.agg #[.int .i64 ((N k).1.getD 0 0), .int .i64 ((N k).1.getD 1 0), us k]) := rfl
def putN (N : Int → KD) (key : Int) (x : KD) (k : Int) : KD := if k = key then x else N k
def putU (us : Int → Value) (key : Int) (u : Value) (k : Int) : Value := if k = key then u else us k
theorem rowOf_put (N : Int → KD) (us : Int → Value) (key v n : Int) (u : Value) (l : List (Int × Int)) (hv : v ≠ 0) : rowOf (putN N key ([v, n], l)) (putU us key u) (.int .i64 key) = some (.agg #[.int .i64 v, .int .i64 n, u]) := by
  rw [rowOf_at]
  simp [putN, putU, hv]
theorem rowOf_other (N : Int → KD) (us : Int → Value) (key v n : Int) (u : Value) (l : List (Int × Int)) (y : Value) (hy : y ≠ .int .i64 key) : rowOf (putN N key ([v, n], l)) (putU us key u) y = rowOf N us y := by
  unfold rowOf
  split
  · rename_i k
    have e : ¬ k = key := fun q => hy (by rw [q])
    simp [putN, putU, e]
  · rfl
/-- The cells of a part that is written into. -/
structure TruC (w : World) (K : Nat) (p f st : Int) (rb db : Nat) (iv : Value) (sb : Nat) (lv : Value) : Prop where
  c0 : w.cell? ⟨K, 0, none⟩ = some (.int .i64 p)
  c1 : w.cell? ⟨K, 1, none⟩ = some (.int .i64 f)
  c2 : w.cell? ⟨K, 2, none⟩ = some (.int .i64 st)
  c3 : w.cell? ⟨K, 3, none⟩ = some (.map (some rb))
  c4 : w.cell? ⟨K, 4, none⟩ = some (.map (some db))
  c5 : w.cell? ⟨K, 5, none⟩ = some iv
  c6 : w.cell? ⟨K, 6, none⟩ = some (.map (some sb))
  c7 : w.cell? ⟨K, 7, none⟩ = some lv
  fz : ∀ o, w.frozen? ⟨K, o, none⟩ = false
  lt : K < w.heap.size
theorem TruC.agree {w w' : World} {K : Nat} {p f st : Int} {rb db : Nat} {iv : Value} {sb : Nat} {lv : Value} (h : TruC w K p f st rb db iv sb lv) (hb : w'.heap[K]? = w.heap[K]?) (hl : w.heap.size ≤ w'.heap.size) : TruC w' K p f st rb db iv sb lv :=
  have g := fun (o : Nat) => (World.cell?_of_block (a := ⟨K, o, none⟩) hb)
  ⟨(g 0).trans h.c0, (g 1).trans h.c1, (g 2).trans h.c2, (g 3).trans h.c3, (g 4).trans h.c4, (g 5).trans h.c5, (g 6).trans h.c6, (g 7).trans h.c7, fun o => (World.frozen?_of_block (a := ⟨K, o, none⟩) hb).trans (h.fz o), Nat.lt_of_lt_of_le h.lt hl⟩
theorem TruC.log {w : World} {K : Nat} {p f st : Int} {rb db : Nat} {iv : Value} {sb : Nat} {lv : Value} (h : TruC w K p f st rb db iv sb lv) (v : Value) : TruC (w.setCell ⟨K, 7, none⟩ v) K p f st rb db iv sb v := by
  have h0 := h.c0
  have h1 := h.c1
  have h2 := h.c2
  have h3 := h.c3
  have h4 := h.c4
  have h5 := h.c5
  have h6 := h.c6
  have h7 := h.c7
  exact ⟨by go_cell, by go_cell, by go_cell, by go_cell, by go_cell, by go_cell, by go_cell, by go_cell, fun o => by simpa using h.fz o, by simpa using h.lt⟩
/-- A part that is written into: what its keys have, and its log. -/
structure Tru (w : World) (B K rb n : Nat) (p f st : Int) (db : Nat) (iv : Value) (sb : Nat) (N : Int → KD) (M : List KD) (lv : Value) (us : Int → Value) (xs : List Value) (ts : Nat → Value) : Prop where
  var : TruC w K p f st rb db iv sb lv
  map : MapF IsNum w rb n (rowOf N us)
  row : RowC w B lv M xs ts
  kin : KinC w B M ts
  own : ∀ k, (N k).1.getD 0 0 ≠ 0 → Own w B (us k) (N k).2
  zer : ∀ k, (N k).1.getD 0 0 = 0 → N k = ([0, 0], [])
  offL : lv.ownBlock ≠ some K ∧ lv.ownBlock ≠ some rb
  offU : ∀ k, (N k).1.getD 0 0 ≠ 0 → (us k).ownBlock ≠ some K ∧ (us k).ownBlock ≠ some rb
  offT : ∀ i, i < M.length → (ts i).ownBlock ≠ some K ∧ (ts i).ownBlock ≠ some rb
  bK : B ≤ K
  bR : B ≤ rb
  ne : K ≠ rb
section
variable {w w' : World} {B K rb n : Nat} {p f st : Int} {db : Nat} {iv : Value} {sb : Nat} {N : Int → KD} {M : List KD} {lv : Value} {us : Int → Value} {xs : List Value} {ts : Nat → Value}
theorem Tru.later (h : Tru w B K rb n p f st db iv sb N M lv us xs ts) (hb : Below w.heap.size w w') : Tru w' B K rb n p f st db iv sb N M lv us xs ts :=
  ⟨h.var.agree (hb.block K h.var.lt) hb.size, h.map.later hb, h.row.later hb, h.kin.later hb, fun k hk => row_later (h.own k hk) hb, h.zer, h.offL, h.offU, h.offT, h.bK, h.bR, h.ne⟩
theorem zero_row (w : World) : (zeroValue 86).run Tryz.prog w = .ok (.agg #[.int .i64 0, .int .i64 0, .slice none 0 0]) w := by kernel_rfl
theorem Tru.lookup (h : Tru w B K rb n p f st db iv sb N M lv us xs ts) (key : Int) :
    (Instr.lookup 132 (.map (some rb)) (.int .i64 key) false).run Tryz.prog w = .ok (.agg #[.int .i64 ((N key).1.getD 0 0), .int .i64 ((N key).1.getD 1 0), if (N key).1.getD 0 0 = 0 then .slice none 0 0 else us key]) w := by
  have := h.map.look num_run Tryz.underlying132 (zero_row w) (isNum key) false
  rw [rowOf_at] at this
  rw [this]
  by_cases e : (N key).1.getD 0 0 = 0
  · rw [if_pos e, if_pos e, h.zer key e]
    rfl
  · rw [if_neg e, if_neg e]
    rfl
theorem Tru.kinOf (h : Tru w B K rb n p f st db iv sb N M lv us xs ts) (key : Int) : Own w B (if (N key).1.getD 0 0 = 0 then .slice none 0 0 else us key) (N key).2 := by
  by_cases e : (N key).1.getD 0 0 = 0
  · rw [if_pos e, h.zer key e]
    exact World.ownsRow_nil _ _ _ _
  · rw [if_neg e]
    exact h.own key e
/-- The row of a key is written. -/
theorem Tru.put (h : Tru w B K rb n p f st db iv sb N M lv us xs ts) {key v nm : Int} {u : Value} {l : List (Int × Int)} (hv : v ≠ 0) (hg : w.grownBy w' (some rb)) (hm : MapF IsNum w' rb (n + 1) (rowOf (putN N key ([v, nm], l)) (putU us key u)))
    (hu : Own w B u l) (hn : u.ownBlock ≠ some K ∧ u.ownBlock ≠ some rb) : Tru w' B K rb (n + 1) p f st db iv sb (putN N key ([v, nm], l)) M lv (putU us key u) xs ts := by
  have agr : ∀ {z : Value} {m : List (Int × Int)}, Own w B z m → z.ownBlock ≠ some rb → Own w' B z m := fun {z m} hz hne => hz.agree fun q hq => hg.block q (hz.block q hq).2 (fun e => hne (by rw [hq, e]))
  refine ⟨h.var.agree (hg.block K h.var.lt (fun e => h.ne (Option.some.inj e))) hg.size, hm, ?_, ?_, fun k hk => ?_, fun k hk => ?_, h.offL, fun k hk => ?_, h.offT, h.bK, h.bR, h.ne⟩
  · exact ⟨row_agree h.row.row (fun q hq => hg.block q (h.row.row.lt q hq).2 (fun e => h.offL.2 (by rw [hq, e]))), h.row.len, h.row.num, h.row.kin⟩
  · exact ⟨fun i hi => agr (h.kin.own i hi) (h.offT i hi).2, h.kin.dis⟩
  · unfold putN putU at *
    by_cases e : k = key
    · simp only [e, if_true]; exact agr hu hn.2
    · simp only [e, if_false] at hk ⊢; exact agr (h.own k hk) (h.offU k hk).2
  · unfold putN at *
    by_cases e : k = key
    · simp only [e, if_true] at hk; exact absurd hk hv
    · simp only [e, if_false] at hk ⊢; exact h.zer k hk
  · unfold putN putU at *
    by_cases e : k = key
    · simp only [e, if_true]; exact hn
    · simp only [e, if_false] at hk ⊢; exact h.offU k hk
/-- The log grows, and is kept. -/
theorem Tru.add {w5 w6 : World} {a b c : Int} {u v6 : Value} {l : List (Int × Int)} (h : Tru w B K rb n p f st db iv sb N M lv us xs ts) (hd : Below w.heap.size w w5) (hu : Own w5 w.heap.size u l) (hB : B ≤ w.heap.size)
    (hg : w5.grownBy w6 lv.ownBlock) (ho : w6.ownsRow B 64 4 v6 (M.length + 1) (xs ++ [.int .i64 a, .int .i64 b, .int .i64 c, u])) (hloc : v6.ownBlock = lv.ownBlock ∨ ∀ q, v6.ownBlock = some q → w.heap.size ≤ q) :
    Tru (w6.setCell ⟨K, 7, none⟩ v6) B K rb n p f st db iv sb N (M ++ [([a, b, c], l)]) v6 us (xs ++ [.int .i64 a, .int .i64 b, .int .i64 c, u]) (fun i => if i = M.length then u else ts i) := by
  have h5 := h.later hd
  have hK := h.var.lt
  have hR := h.map.lt
  have blk : ∀ q, q < w5.heap.size → lv.ownBlock ≠ some q → q ≠ K → (w6.setCell ⟨K, 7, none⟩ v6).heap[q]? = w5.heap[q]? := fun q h1 h2 h3 => (Below.heap_setCell _ _ _ _ (by exact h3)).trans (hg.block q h1 (fun e => h2 e.symm))
  have hoff : v6.ownBlock ≠ some K ∧ v6.ownBlock ≠ some rb := by
    rcases hloc with e | e
    · rw [e]; exact h.offL
    · exact ⟨fun q => by have := e _ q; omega, fun q => by have := e _ q; omega⟩
  have h5k : Below w.heap.size w w5 := hd
  have agr : ∀ {B' : Nat} {z : Value} {m : List (Int × Int)}, Own w5 B' z m → z.ownBlock ≠ some K → Own (w6.setCell ⟨K, 7, none⟩ v6) B' z m := fun {B' z m} hz hne => hz.agree fun q hq => blk q (hz.block q hq).2 (fun e => kin_off_rowC h5.row.row hz q e hq) (fun e => hne (by rw [hq, e]))
  have key : ∀ i, i < (M ++ [(([a, b, c], l) : KD)]).length → i = M.length ∨ i < M.length := fun i hi => by simp at hi; omega
  have hun : u.ownBlock ≠ some K ∧ u.ownBlock ≠ some rb := ⟨fun q => by have := (hu.block _ q).1; omega, fun q => by have := (hu.block _ q).1; omega⟩
  have hT : ∀ i, i < (M ++ [(([a, b, c], l) : KD)]).length → (if i = M.length then u else ts i).ownBlock ≠ some K ∧ (if i = M.length then u else ts i).ownBlock ≠ some rb := fun i hi => by
    rcases key i hi with rfl | hl
    · simp only [if_true]; exact hun
    · simp only [show ¬ i = M.length from by omega, if_false]; exact h.offT i hl
  have hr6 := h5.row.add (l := l) ho
  have hk6 := h.kin.add (a := a) (b := b) (c := c) h5.row hd hu hB hg
  refine ⟨(h5.var.agree (hg.block K h5.var.lt (fun e => h.offL.1 e.symm)) hg.size).log v6, h5.map.agree (blk rb h5.map.lt h.offL.2 (fun e => h.ne e.symm)), ?_, ⟨fun i hi => (hk6.own i hi).agree fun q hq => Below.heap_setCell _ _ _ _ (fun e => (hT i hi).1 (by rw [hq]; exact congrArg some e)), hk6.dis⟩, fun k hk => agr (h5.own k hk) (h.offU k hk).1, h.zer, hoff, h.offU, hT, h.bK, h.bR, h.ne⟩
  exact ⟨row_agree hr6.row (fun q hq => Below.heap_setCell _ _ _ _ (fun e => hoff.1 (by rw [hq]; exact congrArg some e))), hr6.len, hr6.num, hr6.kin⟩
end
theorem com_new (w : World) (a b c : Int) (u : Value) : ∀ j y, [Value.int .i64 a, .int .i64 b, .int .i64 c, u][j]? = some y → (w.alloc (.cells #[.int .i64 a, .int .i64 b, .int .i64 c, u] 64)).cell? ((⟨w.heap.size, 0, none⟩ : Addr).add j) = some y := by
  intro j y hy
  have e : (⟨w.heap.size, 0, none⟩ : Addr).add j = ⟨w.heap.size, j, none⟩ := by cases j <;> simp [Addr.add]
  rw [e]
  match j, hy with
  | 0, hy => cases hy; go_cell
  | 1, hy => cases hy; go_cell
  | 2, hy => cases hy; go_cell
  | 3, hy => cases hy; go_cell
theorem Tryz.infoCom_K : (Tryz.prog.info? 64).map (fun i => (i.zero, i.size, i.bytes)) = some (some (.agg #[.int .i64 0, .int .i64 0, .int .i64 0, .slice none 0 0]), 4, 48) := by kernel_rfl

/-- append onto an owned row, as one step of a region that draws its order, with where it lies. -/
theorem step_append_at {P : Program} {ops : Array Oper} {o : Oper} {a : Act} {w : World} {K : Act → World → Prop} {Q : Exit → Act → World → Prop} {E : Prop} (hgd : o.guard = none) (s x : Operand) (t : TypeId)
    (ho : o.op = .call { callee := .builtin .append, args := #[s, x], argTypes := #[t, t] })
    (base : Nat) (e : TypeId) (i : TypeInfo) (z : Value) (size bytes : Nat) (ht : P.underlying t = some (.slice e)) (hi : P.info? e = some i) (hz : i.zero = some z)
    (hsize : i.size = size) (hby : i.bytes = bytes) (hzs : z.cells.size = size) (hsz : 0 < size)
    (v : Value) (n : Nat) (xs : List Value) (hs : a.eval s = v) (hown : w.ownsRow base e size v n xs)
    (ad : Addr) (m c : Nat) (news : List Value) (hx : a.eval x = .slice (some ad) m c) (hl : news.length = m * size) (hnews : ∀ j u, news[j]? = some u → w.cell? (ad.add j) = some u) (h1 : ∀ u ∈ news, u.oneCell' = true)
    (h63 : n + m ≤ maxLen) (hbytes : (n + m) * bytes ≤ 140737488355328) (hbase : base ≤ w.heap.size)
    (h : ∀ v' w', w'.ownsRow base e size v' (n + m) (xs ++ news) → w.grownBy w' v.ownBlock → (v'.ownBlock = v.ownBlock ∨ v'.ownBlock = some w.heap.size) → K (a.put o.dst v') w') :
    if Region.wanted o (yielded ops a.tmps) = true then Oper.wp P o a w K Q else E := by
  have hw : Region.wanted o (yielded ops a.tmps) = true := by simp [Region.wanted, hgd]
  rw [if_pos hw]
  obtain ⟨v', w', hr, h2, h3, _, h4⟩ := run_append_own_at (P := P) w base t o.type e i z size bytes ht hi hz hsize hby hzs hsz v n xs hown ad m c news hl hnews h1 h63 hbytes hbase
  unfold Oper.wp
  simp [execOp, ho, resolve, invoke, builtin, hs, hx, hr, Result.andThen]
  exact h v' w' h2 h3 h4

/-- Behind the row's writing. -/
def CutT (w : World) (B K rb n : Nat) (p f st : Int) (db : Nat) (iv : Value) (sb : Nat) (N : Int → KD) (M : List KD) (lv : Value) (us : Int → Value) (xs : List Value) (ts : Nat → Value) (key v nm : Int) (l : List (Int × Int)) (A : Nat) (uo : Option Addr) (uc : Nat) (wx : World) : Prop :=
  ∃ u, Tru wx B K rb (n + 1) p f st db iv sb (putN N key ([v, nm], l)) M lv (putU us key u) xs ts ∧ wx.cell? ⟨A, 0, none⟩ = some (.int .i64 nm) ∧ wx.cell? ⟨A, 1, none⟩ = some (.slice uo l.length uc) ∧ A < wx.heap.size ∧ Below B w wx
set_option maxRecDepth 100000 in
set_option maxHeartbeats 4000000 in
theorem commit_any (w0 w : World) (B K rb n : Nat) (p f st : Int) (db : Nat) (iv : Value) (sb : Nat) (N : Int → KD) (M : List KD) (lv : Value) (us : Int → Value) (xs : List Value) (ts : Nat → Value) (key nm : Int) (u : Value) (l : List (Int × Int))
    (h : Tru w B K rb n p f st db iv sb N M lv us xs ts) (hu : Rd w0 u l) (hl : l.length ≤ 1099511627776) (h0 : Below w0.heap.size w0 w) (hB0 : w0.heap.size ≤ B) (hM : M.length ≤ 1000) (hv0 : 0 ≤ (N key).1.getD 0 0) (hv1 : (N key).1.getD 0 0 ≤ 1000) :
    Calls Tryz.prog 105 #[.pointer (some ⟨K, 0, none⟩), .int .i64 key, .agg #[.int .i64 nm, u]] w fun e w' => e = .returned (.tuple #[]) ∧
      (∃ lv' us' xs' ts', Tru w' B K rb (n + 1) p f st db iv sb (putN N key ([(N key).1.getD 0 0 + 1, nm], l)) (M ++ [([key, (N key).1.getD 0 0 + 1, nm], l)]) lv' us' xs' ts') ∧ Below B w w' := by
  have H := hid h
  have HU := hid hu
  have HB0 := hid h0
  obtain ⟨uo, uc, rfl, _⟩ := hu
  obtain ⟨lo, lc, hlv, _⟩ := h.row.rdM (fun i hi => (h.kin.own i hi).rd)
  subst hlv
  obtain ⟨ver, hver⟩ : ∃ z, (N key).1.getD 0 0 = z := ⟨_, rfl⟩
  have HVER := hid hver
  rw [hver] at hv0 hv1 ⊢
  obtain ⟨i0, hi, hz0, hz1, hz2⟩ := info_parts Tryz.infoCom_K
  have hBw : B ≤ w.heap.size := Nat.le_of_lt (Nat.lt_of_le_of_lt h.bK h.var.lt)
  have hKw : Hid (K < w.heap.size ∧ rb < w.heap.size) := hid ⟨h.var.lt, h.map.lt⟩
  clear h h0
  go_enter Tryz.func105, Tryz.ntmps105
  go_upto_region 1 with fail
  generalize hW1 : (w.alloc (.cells #[.int .i64 nm, .slice uo l.length uc] 47)) = w1
  have a0_1 : w1.cell? ⟨w.heap.size, 0, none⟩ = some (.int .i64 nm) := by subst hW1; go_cell
  have a1_1 : w1.cell? ⟨w.heap.size, 1, none⟩ = some (.slice uo l.length uc) := by subst hW1; go_cell
  have al_1 : w.heap.size < w1.heap.size := by subst hW1; first | (simp; done) | (simp; omega)
  have c1 : Below w.heap.size w w1 := by subst hW1; go_grown
  have s1 : w1.heap.size = w.heap.size + 1 := by subst hW1; simp
  clear hW1
  have qa0_1 := cell_regrown a0_1
  have qa1_1 := cell_regrown a1_1
  have HS1 := hid s1
  have H1 := hid (H.out.later c1)
  clear s1
  have k3 := H1.out.var.c3
  have hlk := H1.out.lookup key
  rw [HVER.out] at hlk
  generalize (N key).1.getD 1 0 = num0 at hlk
  generalize (if ver = 0 then Value.slice none 0 0 else us key) = u0 at hlk
  have hf : (Instr.field 86 (.agg #[.int .i64 ver, .int .i64 num0, u0]) 0).run Tryz.prog w1 = .ok (.int .i64 ver) w1 := by kernel_rfl
  go_upto_region 2 with fail
  clear hlk hf
  go_cut [6] from 15 (fun s wx => s = .int .i64 (ver + 1) ∧ CutT w B K rb n p f st db iv sb N M (.slice lo M.length lc) us xs ts key (ver + 1) nm l w.heap.size uo uc wx)
  case first =>
    go_region_law (first
      | (refine step_callK rfl 112 _ _ rfl _ (by first | (simp [Act.eval]; done) | rfl) Tryz.call112 _ (valApart_any nm (.slice uo l.length uc) l _ ((HU.out.later HB0.out).later (c1.drew)) hl) ?_; rintro e w2 ⟨⟨u2, rfl, ho⟩, b2⟩; refine ⟨_, rfl, ?_⟩; obtain ⟨uo2, uc2, hu2, _⟩ := ho.rd; subst hu2; have d2 : Below w1.heap.size w1 w2 := (Below.trans (by go_grown) (b2.mono (by first | omega | (simp; done) | (simp; omega)))); have c2 : Below w.heap.size w w2 := c1.trans (d2.mono c1.size); have a0_2 : w2.cell? ⟨w.heap.size, 0, none⟩ = some (.int .i64 nm) := (by rw [b2.cell (by first | omega | (simp; done) | (simp; omega))]; go_cell); have a1_2 : w2.cell? ⟨w.heap.size, 1, none⟩ = some (.slice uo l.length uc) := (by rw [b2.cell (by first | omega | (simp; done) | (simp; omega))]; go_cell); have al_2 : w.heap.size < w2.heap.size := (by have := b2.size; first | omega | (revert this; simp; done) | (revert this; simp; omega)); clear a0_1 a1_1 al_1; have H2 := hid (H1.out.later d2); have k3_2 := H2.out.var.c3; obtain ⟨w3, hrun3, hm3, hg3⟩ := H2.out.map.put num_run Tryz.underlying132 (isNum key) (rowOf_put N us key (ver + 1) nm (.slice uo2 l.length uc2) l (by omega)) (rowOf_other N us key (ver + 1) nm (.slice uo2 l.length uc2) l); have HM3 := hid hm3; have HG3 := hid hg3; have HO2 := hid ho; clear hm3 hg3 ho))
    all_goals
      go_wp2_with fail
      go_meet
      have hn1 : some w.heap.size ≠ some rb := fun e => by have := Option.some.inj e; have := hKw.out; omega
      have hun : ∀ q, (Value.slice uo2 l.length uc2).ownBlock = some q → q ≠ K ∧ q ≠ rb := fun q hq => by have h1 := (HO2.out.block q hq).1; have h2 := c1.size; have h3 := hKw.out; have h4 : w1.drew.heap.size = w1.heap.size := rfl; omega
      refine ⟨rfl, _, H2.out.put (by omega) HG3.out HM3.out (HO2.out.mono (by have h2 := c1.size; have h4 : w1.drew.heap.size = w1.heap.size := rfl; omega)) ⟨fun e => (hun K e).1 rfl, fun e => (hun rb e).2 rfl⟩, HG3.out.cell a0_2 hn1, HG3.out.cell a1_2 hn1, Nat.lt_of_lt_of_le al_2 HG3.out.size, (c2.mono hBw).trans (Below.of_grown HG3.out (Nat.le_trans hBw c2.size) (fun k hk => by cases hk; exact H2.out.bR))⟩
  case rest =>
    obtain ⟨rfl, u3, hT, a0_10, a1_10, al_10, hbel⟩ := hcut
    obtain ⟨w10, hw10⟩ : ∃ y, y = wc := ⟨_, rfl⟩
    subst hw10
    have H10 := hid hT
    have HB10 := hid hbel
    have k7_10 := hT.var.c7
    have hKl : K < w10.heap.size := hT.var.lt
    have f7_10 := hT.var.fz 7
    have hk1 : M.length + 1 ≤ maxLen := by unfold maxLen; omega
    have hk2 : (M.length + 1) * 48 ≤ 140737488355328 := by omega
    have hz10 : B ≤ w10.heap.size := Nat.le_trans hT.bK (Nat.le_of_lt hKl)
    clear hT hbel k3 H1
    go_upto_region 3 with fail
    go_region_law (first
      | (refine step_callK rfl 112 _ _ rfl _ (by first | (simp [Act.eval]; done) | rfl) Tryz.call112 _ (valApart_any nm (.slice uo l.length uc) l _ ((HU.out.later (HB0.out.trans (HB10.out.mono hB0))).later (Below.refl _ w10).drew) hl) ?_; rintro e w11 ⟨⟨u4, rfl, ho⟩, b11⟩; refine ⟨_, rfl, ?_⟩; obtain ⟨uo4, uc4, hu4, _⟩ := ho.rd; subst hu4; have d11 : Below w10.heap.size w10 w11 := (Below.refl _ w10).drew.trans b11; have k7_11 := (d11.cell (p := ⟨K, 7, none⟩) hKl).trans k7_10; have B12 : Hid (Below w10.heap.size w10 (w11.alloc (.cells #[.int .i64 key, .int .i64 (ver + 1), .int .i64 nm, .slice uo4 l.length uc4] 64))) := hid (d11.alloc d11.size _); have HO12 := hid (row_later (Own.mono ho (B' := w10.heap.size) (Nat.le_refl _)) (show Below w11.heap.size w11 (w11.alloc (.cells #[.int .i64 key, .int .i64 (ver + 1), .int .i64 nm, .slice uo4 l.length uc4] 64)) by go_grown)); have H12 := hid (H10.out.later B12.out); have HNW := hid (com_new w11 key (ver + 1) nm (.slice uo4 l.length uc4)); have k7_12 := (B12.out.cell (p := ⟨K, 7, none⟩) hKl).trans k7_10; have f7_12 := (B12.out.frozen (p := ⟨K, 7, none⟩) hKl).trans f7_10; have hz12 : B ≤ (w11.alloc (.cells #[.int .i64 key, .int .i64 (ver + 1), .int .i64 nm, .slice uo4 l.length uc4] 64)).heap.size := Nat.le_trans hz10 B12.out.size; clear ho b11)
      | (refine step_append_at rfl _ _ 41 rfl B 64 i0 (.agg #[.int .i64 0, .int .i64 0, .int .i64 0, .slice none 0 0]) 4 48 Tryz.underlying41 hi hz0 hz1 hz2 rfl (by decide) (.slice lo M.length lc) M.length xs (by simp [Act.eval]) H12.out.row.row ⟨w11.heap.size, 0, none⟩ 1 1 [.int .i64 key, .int .i64 (ver + 1), .int .i64 nm, .slice uo4 l.length uc4] (by simp [Act.eval]) rfl HNW.out (by simp [Value.oneCell']) hk1 hk2 hz12 ?_; intro v6 w13 hown hgr hat; obtain ⟨g6, c6, hv6⟩ := ownsRow_succ hown; subst hv6; have k7_13 := hgr.cell k7_12 (fun e => H10.out.offL.1 e.symm); have f7_13 := (World.frozen?_of_block (a := ⟨K, 7, none⟩) (hgr.block K (Nat.lt_of_lt_of_le hKl B12.out.size) (fun e => H10.out.offL.1 e.symm))).trans f7_12; have HOW := hid hown; have HGR := hid hgr; have HAT := hid hat; clear hown hgr hat))
    all_goals
      have T14 := hid (H10.out.add B12.out HO12.out hz10 HGR.out HOW.out (HAT.out.imp_right fun e q hq => by rw [e] at hq; cases hq; exact B12.out.size))
      have C14 := hid ((((HB10.out.trans (B12.out.mono hz10)).trans (Below.of_grown HGR.out hz12 (fun k hk => (H12.out.row.row.lt k hk).1))).setCell (p := ⟨K, 7, none⟩) H10.out.bK (.slice (some ⟨g6, 0, none⟩) (M.length + 1) c6)))
      go_wp2
      exact bodyPost_end (v := .tuple #[]) (by simp [results, Tryz.results105]) rfl ⟨rfl, ⟨_, _, _, _, T14.out⟩, C14.out⟩
end Go.Proofs.YtefhpbcdjgllnaaGreat
