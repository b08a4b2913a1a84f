/- The draw of a list: contract. -/
import Derived.Test.YtilbaiohcfhcaaaGrF
import Derived.Test.YtilbaiohcfhcaaaGrE
import Derived.Test.YtilbaiohcfhcaaaAdQ
namespace Go.Proofs.Ytilbaiohcfhcaaa
open Go.RowKit
attribute [local go_sem ↓] Go.wp_at_zero Go.wp_at_succ

theorem grown_wide {w w' : World} {row : Option Nat} (h : w.grownBy w' none) : w.grownBy w' row := ⟨h.os, h.tape, h.output, h.size, fun k hk _ => h.block k hk (by simp)⟩

/-- The list that is drawn, and the reader, since world w0. -/
def Ls (w0 wr : World) (B g p : Nat) (v : Value) (l : List (Int × Int)) : Prop := Own wr w0.heap.size v l ∧ Rdr wr B g p ∧ w0.grownBy wr (some g) ∧ g < w0.heap.size
theorem Ls.ne {w0 wr : World} {B g p : Nat} {v : Value} {l : List (Int × Int)} (h : Ls w0 wr B g p v l) : v.ownBlock = none ∨ v.ownBlock ≠ some g := by
  cases e : v.ownBlock with
  | none => exact .inl rfl
  | some k =>
    refine .inr fun e' => ?_
    have h1 := (h.1.block k e).1
    have h2 := h.2.2.2
    have : k = g := Option.some.inj e'
    omega
theorem Ls.kept {w0 wr w' : World} {B g p q : Nat} {v : Value} {l : List (Int × Int)} (h : Ls w0 wr B g p v l) (hR : Rdr w' B g q) (hg : wr.grownBy w' (some g)) : Ls w0 w' B g q v l :=
  ⟨World.ownsRow.kept h.1 hg h.ne, hR, grown_trans h.2.2.1 hg, h.2.2.2⟩
theorem Ls.below {w0 wr w' : World} {B g p : Nat} {v : Value} {l : List (Int × Int)} (h : Ls w0 wr B g p v l) (hb : Below wr.heap.size wr w') : Ls w0 w' B g p v l :=
  ⟨h.1.later hb, h.2.1.later hb, grown_trans h.2.2.1 (grown_wide (grownBelowR hb)), h.2.2.2⟩
theorem Ls.other {w0 wr w' : World} {B g p : Nat} {v v' : Value} {l l' : List (Int × Int)} (h : Ls w0 wr B g p v l) (hb : Below wr.heap.size wr w') (ho : Own w' wr.heap.size v' l') : Ls w0 w' B g p v' l' :=
  ⟨ho.mono h.2.2.1.size, (h.below hb).2⟩

theorem grown_set_new {w0 wr : World} {row : Option Nat} (h : w0.grownBy wr row) {a : Addr} (ha : w0.heap.size ≤ a.block) (v : Value) : w0.grownBy (wr.setCell a v) row :=
  ⟨h.os, h.tape, h.output, by simpa using h.size, fun k hk hne => (Below.heap_setCell wr a v k (by omega)).trans (h.block k hk hne)⟩
theorem ecells_set2 (l : List (Int × Int)) (k : Nat) (z : Int) : (ecells l).set (k * 2 + 1) (.int .i64 z) = ecells (l.set k ((l.getD k (0, 0)).1, z)) := by
  induction l generalizing k with
  | nil => simp [ecells]
  | cons e r ih =>
    cases k with
    | zero => simp [ecells]
    | succ k =>
      rw [show (k + 1) * 2 + 1 = (k * 2 + 1) + 1 + 1 from by omega]
      simpa [ecells] using ih k
theorem ecells_set1 (l : List (Int × Int)) (k : Nat) (z : Int) : (ecells l).set (k * 2) (.int .i64 z) = ecells (l.set k (z, (l.getD k (0, 0)).2)) := by
  induction l generalizing k with
  | nil => simp [ecells]
  | cons e r ih =>
    cases k with
    | zero => simp [ecells]
    | succ k =>
      rw [show (k + 1) * 2 = k * 2 + 1 + 1 from by omega]
      simpa [ecells] using ih k
theorem Ls.set2 {w0 wr : World} {B g p gg cap : Nat} {l : List (Int × Int)} (h : Ls w0 wr B g p (.slice (some ⟨gg, 0, none⟩) l.length cap) l) (k : Nat) (z : Int) :
    Ls w0 (wr.setCell ⟨gg, k * 2 + 1, none⟩ (.int .i64 z)) B g p (.slice (some ⟨gg, 0, none⟩) l.length cap) (l.set k ((l.getD k (0, 0)).1, z)) := by
  have hgg := (h.1.block gg rfl).1
  have hg := h.2.2.2
  refine ⟨?_, h.2.1.kept (grown_set wr ⟨gg, k * 2 + 1, none⟩ _) (fun j e => by cases e; have := h.2.1.1; show B ≤ gg; omega) (fun e => by have : gg = g := Option.some.inj e; omega), grown_set_new h.2.2.1 hgg _, hg⟩
  have := (World.ownsRow.stored h.1 (k * 2 + 1) (.int .i64 z)).1
  unfold Own
  rw [ecells_set2] at this
  rw [List.length_set]; exact this
theorem Ls.set1 {w0 wr : World} {B g p gg cap : Nat} {l : List (Int × Int)} (h : Ls w0 wr B g p (.slice (some ⟨gg, 0, none⟩) l.length cap) l) (k : Nat) (z : Int) :
    Ls w0 (wr.setCell ⟨gg, k * 2, none⟩ (.int .i64 z)) B g p (.slice (some ⟨gg, 0, none⟩) l.length cap) (l.set k (z, (l.getD k (0, 0)).2)) := by
  have hgg := (h.1.block gg rfl).1
  have hg := h.2.2.2
  refine ⟨?_, h.2.1.kept (grown_set wr ⟨gg, k * 2, none⟩ _) (fun j e => by cases e; have := h.2.1.1; show B ≤ gg; omega) (fun e => by have : gg = g := Option.some.inj e; omega), grown_set_new h.2.2.1 hgg _, hg⟩
  have := (World.ownsRow.stored h.1 (k * 2) (.int .i64 z)).1
  unfold Own
  rw [ecells_set1] at this
  rw [List.length_set]; exact this

/-- The numbers of a drawn list are small. -/
def BdL (l : List (Int × Int)) : Prop := ∀ x ∈ l, (-1 ≤ x.1 ∧ x.1 ≤ 8) ∧ (-1 ≤ x.2 ∧ x.2 ≤ 1001)
theorem bd_of_ok {l : List (Int × Int)} (h : okL l = true) : BdL l := by
  induction l with
  | nil => intro x hx; cases hx
  | cons e r ih =>
    obtain ⟨he, _, hr⟩ := okL_cons.1 h
    intro x hx
    rcases List.mem_cons.1 hx with rfl | hx
    · have := rightB_iff.1 he; omega
    · exact ih hr x hx
theorem BdL.at {l : List (Int × Int)} (h : BdL l) {k : Nat} (hk : k < l.length) : (-1 ≤ (l.getD k (0, 0)).1 ∧ (l.getD k (0, 0)).1 ≤ 8) ∧ (-1 ≤ (l.getD k (0, 0)).2 ∧ (l.getD k (0, 0)).2 ≤ 1001) := by
  rw [List.getD_eq_getElem?_getD, List.getElem?_eq_getElem hk]
  exact h _ (List.getElem_mem hk)
theorem BdL.set {l : List (Int × Int)} (h : BdL l) (k : Nat) (a : Int × Int) (ha : (-1 ≤ a.1 ∧ a.1 ≤ 8) ∧ (-1 ≤ a.2 ∧ a.2 ≤ 1001)) : BdL (l.set k a) := fun x hx => by
  rcases List.mem_or_eq_of_mem_set hx with hx | rfl
  · exact h x hx
  · exact ha

theorem nums_six (w : World) : Nums (w.alloc (.cells #[.int .i64 0, .int .i64 1, .int .i64 2, .int .i64 5, .int .i64 5, .int .i64 1000] 3)) w.heap.size 6 (fun z => 0 ≤ z ∧ z ≤ 1000) := by
  refine ⟨by simp, fun i hi => ?_⟩
  rcases i with _ | _ | _ | _ | _ | _ | i
  · exact ⟨0, by go_cell, by omega⟩
  · exact ⟨1, by go_cell, by omega⟩
  · exact ⟨2, by go_cell, by omega⟩
  · exact ⟨5, by go_cell, by omega⟩
  · exact ⟨5, by go_cell, by omega⟩
  · exact ⟨1000, by go_cell, by omega⟩
  · omega
theorem nums_three (w : World) (a b c : Int) : Nums (w.alloc (.cells #[.int .i64 a, .int .i64 b, .int .i64 c] 3)) w.heap.size 3 (fun z => z = a ∨ z = b ∨ z = c) := by
  refine ⟨by simp, fun i hi => ?_⟩
  rcases i with _ | _ | _ | i
  · exact ⟨a, by go_cell, by omega⟩
  · exact ⟨b, by go_cell, by omega⟩
  · exact ⟨c, by go_cell, by omega⟩
  · omega

set_option maxRecDepth 100000 in
set_option maxHeartbeats 2000000 in
theorem l1List_any (g p B : Nat) (w : World) (h : Rdr w B g p) (hp : p ≤ 1000000000) :
    Calls Try.prog 52 #[.pointer (some ⟨g, 0, none⟩)] w fun e w' => ∃ v l q, e = .returned v ∧ Ls w w' B g q v l ∧ l.length ≤ 7 ∧ p ≤ q ∧ q ≤ p + 20 ∧ BdL l := by
  have hgw := h.2.1
  go_enter Try.func52, Try.ntmps52
  go_wp2_with fail
  have L0 : Ls w (w.alloc (.cells #[] 52)) B g p (.slice (some ⟨w.heap.size, 0, none⟩) 0 0) [] :=
    ⟨World.ownsRow_lit w #[] 0 (Nat.le_refl _) (Nat.zero_le _) rfl, h.later (by go_grown), World.grownBy_alloc w _ _, hgw⟩
  refine (pick_any g p 6 B _ L0.2.1 (by omega) (by omega)).mono ?_
  rintro e w1 ⟨n, rfl, n0, n1, R1, g1⟩
  have L1 := hid (L0.kept R1 g1)
  have n2 := n1 (by omega)
  clear n1 L0 R1 g1
  go_wp2_with fail
  go_loopw [3, 4] (fun o i wr => ∃ (t : Int) (l : List (Int × Int)) (q : Nat), 0 ≤ t ∧ t ≤ n ∧ i = .int .i64 t ∧ Hid (Ls w wr B g q o l) ∧ (l.length : Int) ≤ n - t ∧ okL l = true ∧ p + 1 ≤ q ∧ (q : Int) ≤ p + 1 + 2 * (n - t)) (fun _ i _ => (intOf i).toNat)
  case atStart => exact ⟨n, [], p + 1, by omega, by omega, rfl, L1, by simp, rfl, by omega, by omega⟩
  case round =>
    obtain ⟨t, l, q, t0, t1, rfl, L2, hln, hok, q0, q1⟩ := hrel
    clear L1
    by_cases ht : 0 < t
    · go_wp2_with fail
      refine (pick_any g q 8 B _ L2.out.2.1 (by omega) (by omega)).mono ?_
      rintro e w2 ⟨a, rfl, a0, a1, R2, g2⟩
      have L3 := hid (L2.out.kept R2 g2)
      have a2 := a1 (by omega)
      clear a1 R2 g2 L2
      go_wp2_with fail
      have hlt3 := Nat.lt_of_lt_of_le L3.out.2.2.2 L3.out.2.2.1.size
      refine (num_any g (q + 1) w2.heap.size 6 6 B _ _ (L3.out.2.1.later (by go_grown)) (by omega) (by omega) (by omega) (by omega) (nums_six w2)).mono ?_
      rintro e w3 ⟨z, rfl, hz, R3, g3⟩
      have L4 := hid ((L3.out.below (w' := w2.alloc (.cells #[.int .i64 0, .int .i64 1, .int .i64 2, .int .i64 5, .int .i64 5, .int .i64 1000] 3)) (by go_grown)).kept R3 g3)
      clear L3 R3 g3
      go_wp2_with fail
      refine (l1Add_any _ l a z _ L4.out.1.rd (by omega) hok).mono ?_
      rintro e w4 ⟨v', rfl, o4, b4⟩
      have L5 := hid (L4.out.other b4 o4)
      have hr := okL_add (who := a) (at' := z) hok (rightB_iff.2 ⟨a0, a2, hz.1, hz.2⟩)
      have hle : (insL (l.filter (notWho a)) (a, z)).length ≤ l.length + 1 := by
        rw [insL_length]; have := List.length_filter_le (notWho a) l; omega
      clear o4 b4 L4
      go_wp2
      go_roundw
      case rel => exact ⟨t - 1, _, q + 2, by omega, by omega, by go_num, L5, by omega, hr, by omega, by omega⟩
      case measure => simp [intOf]; omega
    · obtain rfl : t = 0 := by omega
      have hl5 : l.length ≤ 5 := by omega
      have HBD := hid (bd_of_ok hok)
      clear hok hln
      by_cases hl0 : l.length = 0
      · have hnil : l = [] := List.eq_nil_of_length_eq_zero hl0
        subst hnil
        obtain ⟨ao, cap, hv, _⟩ := L2.out.1.rd
        subst hv
        go_wp2_with fail
        go_ret
        have h7 : ([] : List (Int × Int)).length ≤ 7 := by simp
        exact ⟨_, rfl, _, _, L2.out, h7, by omega, by omega, HBD.out⟩
      · have hform : ∃ gg cap, u3 = .slice (some ⟨gg, 0, none⟩) l.length cap := by
          rcases L2.out.1.2 with ⟨_, hn⟩ | ⟨gg, cap, _, hv, _⟩
          · exact absurd hn hl0
          · exact ⟨gg, cap, hv⟩
        obtain ⟨gg, cap, hv⟩ := hform
        subst hv
        go_wp2_with fail
        refine (pick_any g q l.length B _ L2.out.2.1 (by omega) (by omega)).mono ?_
        rintro e w2 ⟨r, rfl, r0, r1, R2, g2⟩
        have L3 := hid (L2.out.kept R2 g2)
        have r2 := r1 (by omega)
        obtain ⟨k, rfl⟩ : ∃ k : Nat, r = (k : Int) := ⟨r.toNat, by omega⟩
        have hk : k < l.length := by omega
        clear r1 R2 g2 L2
        go_wp2_with fail
        refine (pick_any g (q + 1) 30 B _ L3.out.2.1 (by omega) (by omega)).mono ?_
        rintro e w3 ⟨c, rfl, d0, d1, R3, g3⟩
        have L4 := hid (L3.out.kept R3 g3)
        clear d1 R3 g3 L3
        by_cases c0 : c = 0
        · subst c0
          go_wp2_with fail
          have hlt3 := Nat.lt_of_lt_of_le L4.out.2.2.2 L4.out.2.2.1.size
          refine (num_any g (q + 2) w3.heap.size 3 3 B _ _ (L4.out.2.1.later (by go_grown)) (by omega) (by omega) (by omega) (by omega) (nums_three w3 (-1) 1001 3)).mono ?_
          rintro e w4 ⟨z, rfl, hz, R4, g4⟩
          have L5 := hid ((L4.out.below (w' := w3.alloc (.cells #[.int .i64 (-1), .int .i64 1001, .int .i64 3] 3)) (by go_grown)).kept R4 g4)
          clear L4 R4 g4
          obtain ⟨x0, x1⟩ := L5.out.1.at hk
          have y1 := L5.out.1.frozenAt (k * 2 + 1)
          have L6 := hid (L5.out.set2 k z)
          clear L5
          go_wp2_with fail
          go_ret
          exact ⟨_, _, _, rfl, L6.out, by rw [List.length_set]; omega, by omega, by omega, HBD.out.set k _ ⟨(HBD.out.at hk).1, by omega⟩⟩
        · by_cases c1 : c = 1
          · subst c1
            go_wp2_with fail
            have hlt3 := Nat.lt_of_lt_of_le L4.out.2.2.2 L4.out.2.2.1.size
            refine (num_any g (q + 2) w3.heap.size 3 3 B _ _ (L4.out.2.1.later (by go_grown)) (by omega) (by omega) (by omega) (by omega) (nums_three w3 (-1) 8 0)).mono ?_
            rintro e w4 ⟨z, rfl, hz, R4, g4⟩
            have L5 := hid ((L4.out.below (w' := w3.alloc (.cells #[.int .i64 (-1), .int .i64 8, .int .i64 0] 3)) (by go_grown)).kept R4 g4)
            clear L4 R4 g4
            obtain ⟨x0, x1⟩ := L5.out.1.at hk
            have y0 := L5.out.1.frozenAt (k * 2)
            have L6 := hid (L5.out.set1 k z)
            clear L5
            go_wp2_with fail
            go_ret
            exact ⟨_, _, _, rfl, L6.out, by rw [List.length_set]; omega, by omega, by omega, HBD.out.set k _ ⟨by omega, (HBD.out.at hk).2⟩⟩
          · have e0 : (c == 0) = false := by simpa using c0
            have e1 : (c == 1) = false := by simpa using c1
            by_cases c2 : c = 2
            · subst c2
              clear e0 e1 c0 c1
              obtain ⟨x0, x1⟩ := L4.out.1.at hk
              obtain ⟨i0, hi, hz0, hz1, hz2⟩ := info_parts Try.info52
              have hk1 : l.length + 1 ≤ maxLen := by unfold maxLen; omega
              have hk2 : (l.length + 1) * 16 ≤ 140737488355328 := by omega
              have HBX := hid (HBD.out.at hk)
              generalize l.getD k (0, 0) = x at x0 x1 HBX
              have LA := hid (L4.out.below (w' := w3.alloc (.cells #[.int .i64 x.1, .int .i64 x.2] 52)) (by go_grown))
              have hbs := hid LA.out.2.2.1.size
              go_wp2_with (first | (at_builtin; refine wpList_append_own _ rfl _ _ 27 rfl w.heap.size 52 i0 (.agg #[.int .i64 0, .int .i64 0]) 2 16 Try.underlying27 hi hz0 hz1 hz2 rfl (by decide) _ _ _ rfl LA.out.1 ⟨w3.heap.size, 0, none⟩ 1 1 [.int .i64 x.1, .int .i64 x.2] rfl rfl (cells_two_new _ _ _ _) (by simp [Value.oneCell']) hk1 hk2 hbs.out ?_; intro v' w5 hown' hgrow' _; have HO := hid hown'; have HG := hid hgrow'; clear hown' hgrow'))
              go_ret
              have hgg := (LA.out.1.block gg rfl).1
              have hg0 := LA.out.2.2.2
              have hB0 := LA.out.2.1.1
              refine ⟨_, l ++ [x], _, rfl, ⟨?_, LA.out.2.1.kept HG.out (fun j e => by have : gg = j := Option.some.inj e; omega) (fun e => by have : gg = g := Option.some.inj e; omega), ?_, hg0⟩, by rw [List.length_append]; simp; omega, by omega, by omega, fun y hy => ?_⟩
              · have := HO.out
                unfold Own
                rw [ecells_append, List.length_append]
                simpa [ecells] using this
              · have hga := LA.out.2.2.1
                have hgb := HG.out
                exact ⟨hgb.os.trans hga.os, hgb.tape.trans hga.tape, hgb.output.trans hga.output, Nat.le_trans hga.size hgb.size, fun j hj hne => (hgb.block j (Nat.lt_of_lt_of_le hj hga.size) (fun e => by have : j = gg := Option.some.inj e; omega)).trans (hga.block j hj hne)⟩
              · rcases List.mem_append.1 hy with hy | hy
                · exact HBD.out y hy
                · rw [List.mem_singleton.1 hy]; exact HBX.out
            · have e2 : (c == 2) = false := by simpa using c2
              go_wp2_with fail
              go_ret
              exact ⟨_, l, _, rfl, L4.out, by omega, by omega, by omega, HBD.out⟩

/-- What a law is handed, drawn since world w0 out of bytes below its end: a list. -/
theorem Ls.facts {w0 wr : World} {B g p : Nat} {v : Value} {l : List (Int × Int)} (h : Ls w0 wr B g p v l) (hB : B ≤ w0.heap.size) : Own wr B v l := h.1.mono hB

end Go.Proofs.Ytilbaiohcfhcaaa
