/- Proved here: FnVal returns true for every two slices of bytes (no condition on them; the library's tables and errors hold what start-up lays: the card ties them); what it was handed reads as before. -/
import Derived.Test.YtiplklcabcpccaaGreatDoorRk
import Derived.Test.YtiplklcabcpccaaGreatDoorNm
import Derived.Test.YtiplklcabcpccaaGreatDoorAdS
import Derived.Test.YtiplklcabcpccaaGreatDoorAdQ
import Derived.Test.YtiplklcabcpccaaGreatDoorTt
import Derived.Test.YtiplklcabcpccaaGreatDoorKk
import Derived.Test.YtiplklcabcpccaaGreatDoorVt
import Derived.Test.YtiplklcabcpccaaGreatDoorTn
import Derived.Test.YtiplklcabcpccaaGreatDoorWo
import Derived.Test.YtiplklcabcpccaaGreatDoorOkP
import Derived.Test.YtiplklcabcpccaaGreatDoorVx
import Derived.Test.YtiplklcabcpccaaGreatDoorVs
import Derived.Deep.Cut
import Derived.Test.YtiplklcabcpccaaGreatDoorRw
import Derived.HandedShaped
import Derived.Handed
import Derived.Shelf.Vars
import Derived.MakeChecks
import Derived.Stop.LaidErr
import Derived.LaidMore
import Derived.Test.YtiplklcabcpccaaGreatDoorRows
import Derived.WalkKit
import Derived.ProofKit
import Derived.OpenShut
import Derived.Deep.SlicePairs
import Derived.Test.YtiplklcabcpccaaGreatDoorCards
import Derived.Test.YtiplklcabcpccaaGreatDoorTie
import Derived.Lay
import Derived.ChangeMaps5
import Derived.Stop.Joined
import Derived.SevenTiedAt
/- Part: The draw of a kind and somebody: contract. -/
namespace Go.Proofs.YtiplklcabcpccaaGreatDoor
open Go.RowKit

/-- A slice of n bytes. -/
def Bs (w : World) (v : Value) (n : Nat) : Prop := ∃ ao cap, v = .slice ao n cap ∧ n ≤ maxLen ∧ n ≤ cap ∧ cap ≤ maxLen ∧ Byt w w.heap.size ao n
theorem Bs.later {w w' : World} {v : Value} {n : Nat} (h : Bs w v n) (hb : Below w.heap.size w w') : Bs w' v n := by
  obtain ⟨ao, cap, hv, h0, h1, h2, h3⟩ := h
  refine ⟨ao, cap, hv, h0, h1, h2, fun hn => ?_⟩
  obtain ⟨b, off, ha, hlt, hc⟩ := (h3.kept (grownBelowR hb) (fun _ e => by cases e)) hn
  exact ⟨b, off, ha, Nat.lt_of_lt_of_le hlt hb.size, hc⟩

end Go.Proofs.YtiplklcabcpccaaGreatDoor

/- Part: The draw of a list: contract. -/
namespace Go.Proofs.YtiplklcabcpccaaGreatDoor
open Go.RowKit
attribute [local go_sem ↓] Go.wp_at_zero Go.wp_at_succ

theorem grown_wide {w w' : World} {row : Option Nat} (h : w.grownBy w' none) : w.grownBy w' row := ⟨h.os, h.tape, h.output, h.size, fun k hk _ => h.block k hk (by simp)⟩

/-- The list that is drawn, and the reader, since world w0. -/
def Ls (w0 wr : World) (B g p : Nat) (v : Value) (l : List (Int × Int)) : Prop := Own wr w0.heap.size v l ∧ Rdr wr B g p ∧ w0.grownBy wr (some g) ∧ g < w0.heap.size
theorem Ls.ne {w0 wr : World} {B g p : Nat} {v : Value} {l : List (Int × Int)} (h : Ls w0 wr B g p v l) : v.ownBlock = none ∨ v.ownBlock ≠ some g := by
  cases e : v.ownBlock with
  | none => exact .inl rfl
  | some k =>
    refine .inr fun e' => ?_
    have h1 := (h.1.block k e).1
    have h2 := h.2.2.2
    have : k = g := Option.some.inj e'
    omega
theorem Ls.kept {w0 wr w' : World} {B g p q : Nat} {v : Value} {l : List (Int × Int)} (h : Ls w0 wr B g p v l) (hR : Rdr w' B g q) (hg : wr.grownBy w' (some g)) : Ls w0 w' B g q v l :=
  ⟨World.ownsRow.kept h.1 hg h.ne, hR, grown_trans h.2.2.1 hg, h.2.2.2⟩
theorem Ls.below {w0 wr w' : World} {B g p : Nat} {v : Value} {l : List (Int × Int)} (h : Ls w0 wr B g p v l) (hb : Below wr.heap.size wr w') : Ls w0 w' B g p v l :=
  ⟨h.1.later hb, h.2.1.later hb, grown_trans h.2.2.1 (grown_wide (grownBelowR hb)), h.2.2.2⟩
theorem Ls.other {w0 wr w' : World} {B g p : Nat} {v v' : Value} {l l' : List (Int × Int)} (h : Ls w0 wr B g p v l) (hb : Below wr.heap.size wr w') (ho : Own w' wr.heap.size v' l') : Ls w0 w' B g p v' l' :=
  ⟨ho.mono h.2.2.1.size, (h.below hb).2⟩

theorem grown_set_new {w0 wr : World} {row : Option Nat} (h : w0.grownBy wr row) {a : Addr} (ha : w0.heap.size ≤ a.block) (v : Value) : w0.grownBy (wr.setCell a v) row :=
  ⟨h.os, h.tape, h.output, by simpa using h.size, fun k hk hne => (Below.heap_setCell wr a v k (by omega)).trans (h.block k hk hne)⟩
theorem ecells_set2 (l : List (Int × Int)) (k : Nat) (z : Int) : (ecells l).set (k * 2 + 1) (.int .i64 z) = ecells (l.set k ((l.getD k (0, 0)).1, z)) := by
  induction l generalizing k with
  | nil => simp [ecells]
  | cons e r ih =>
    cases k with
    | zero => simp [ecells]
    | succ k =>
      rw [show (k + 1) * 2 + 1 = (k * 2 + 1) + 1 + 1 from by omega]
      simpa [ecells] using ih k
theorem ecells_set1 (l : List (Int × Int)) (k : Nat) (z : Int) : (ecells l).set (k * 2) (.int .i64 z) = ecells (l.set k (z, (l.getD k (0, 0)).2)) := by
  induction l generalizing k with
  | nil => simp [ecells]
  | cons e r ih =>
    cases k with
    | zero => simp [ecells]
    | succ k =>
      rw [show (k + 1) * 2 = k * 2 + 1 + 1 from by omega]
      simpa [ecells] using ih k
theorem Ls.set2 {w0 wr : World} {B g p gg cap : Nat} {l : List (Int × Int)} (h : Ls w0 wr B g p (.slice (some ⟨gg, 0, none⟩) l.length cap) l) (k : Nat) (z : Int) :
    Ls w0 (wr.setCell ⟨gg, k * 2 + 1, none⟩ (.int .i64 z)) B g p (.slice (some ⟨gg, 0, none⟩) l.length cap) (l.set k ((l.getD k (0, 0)).1, z)) := by
  have hgg := (h.1.block gg rfl).1
  have hg := h.2.2.2
  refine ⟨?_, h.2.1.kept (grown_set wr ⟨gg, k * 2 + 1, none⟩ _) (fun j e => by cases e; have := h.2.1.1; show B ≤ gg; omega) (fun e => by have : gg = g := Option.some.inj e; omega), grown_set_new h.2.2.1 hgg _, hg⟩
  have := (World.ownsRow.stored h.1 (k * 2 + 1) (.int .i64 z)).1
  unfold Own
  rw [ecells_set2] at this
  rw [List.length_set]; exact this
theorem Ls.set1 {w0 wr : World} {B g p gg cap : Nat} {l : List (Int × Int)} (h : Ls w0 wr B g p (.slice (some ⟨gg, 0, none⟩) l.length cap) l) (k : Nat) (z : Int) :
    Ls w0 (wr.setCell ⟨gg, k * 2, none⟩ (.int .i64 z)) B g p (.slice (some ⟨gg, 0, none⟩) l.length cap) (l.set k (z, (l.getD k (0, 0)).2)) := by
  have hgg := (h.1.block gg rfl).1
  have hg := h.2.2.2
  refine ⟨?_, h.2.1.kept (grown_set wr ⟨gg, k * 2, none⟩ _) (fun j e => by cases e; have := h.2.1.1; show B ≤ gg; omega) (fun e => by have : gg = g := Option.some.inj e; omega), grown_set_new h.2.2.1 hgg _, hg⟩
  have := (World.ownsRow.stored h.1 (k * 2) (.int .i64 z)).1
  unfold Own
  rw [ecells_set1] at this
  rw [List.length_set]; exact this

/-- The numbers of a drawn list are small. -/
def BdL (l : List (Int × Int)) : Prop := ∀ x ∈ l, (-1 ≤ x.1 ∧ x.1 ≤ 8) ∧ (-1 ≤ x.2 ∧ x.2 ≤ 1001)
theorem bd_of_ok {l : List (Int × Int)} (h : okL l = true) : BdL l := by
  induction l with
  | nil => intro x hx; cases hx
  | cons e r ih =>
    obtain ⟨he, _, hr⟩ := okL_cons.1 h
    intro x hx
    rcases List.mem_cons.1 hx with rfl | hx
    · have := rightB_iff.1 he; omega
    · exact ih hr x hx
theorem BdL.at {l : List (Int × Int)} (h : BdL l) {k : Nat} (hk : k < l.length) : (-1 ≤ (l.getD k (0, 0)).1 ∧ (l.getD k (0, 0)).1 ≤ 8) ∧ (-1 ≤ (l.getD k (0, 0)).2 ∧ (l.getD k (0, 0)).2 ≤ 1001) := by
  rw [List.getD_eq_getElem?_getD, List.getElem?_eq_getElem hk]
  exact h _ (List.getElem_mem hk)
theorem BdL.set {l : List (Int × Int)} (h : BdL l) (k : Nat) (a : Int × Int) (ha : (-1 ≤ a.1 ∧ a.1 ≤ 8) ∧ (-1 ≤ a.2 ∧ a.2 ≤ 1001)) : BdL (l.set k a) := fun x hx => by
  rcases List.mem_or_eq_of_mem_set hx with hx | rfl
  · exact h x hx
  · exact ha

theorem nums_six (w : World) : Nums (w.alloc (.cells #[.int .i64 0, .int .i64 1, .int .i64 2, .int .i64 5, .int .i64 5, .int .i64 1000] 3)) w.heap.size 6 (fun z => 0 ≤ z ∧ z ≤ 1000) := by
  refine ⟨by simp, fun i hi => ?_⟩
  rcases i with _ | _ | _ | _ | _ | _ | i
  · exact ⟨0, by go_cell, by omega⟩
  · exact ⟨1, by go_cell, by omega⟩
  · exact ⟨2, by go_cell, by omega⟩
  · exact ⟨5, by go_cell, by omega⟩
  · exact ⟨5, by go_cell, by omega⟩
  · exact ⟨1000, by go_cell, by omega⟩
  · omega
theorem nums_three (w : World) (a b c : Int) : Nums (w.alloc (.cells #[.int .i64 a, .int .i64 b, .int .i64 c] 3)) w.heap.size 3 (fun z => z = a ∨ z = b ∨ z = c) := by
  refine ⟨by simp, fun i hi => ?_⟩
  rcases i with _ | _ | _ | i
  · exact ⟨a, by go_cell, by omega⟩
  · exact ⟨b, by go_cell, by omega⟩
  · exact ⟨c, by go_cell, by omega⟩
  · omega

set_option maxRecDepth 100000 in
set_option maxHeartbeats 2000000 in
theorem l1List_any (g p B : Nat) (w : World) (h : Rdr w B g p) (hp : p ≤ 1000000000) :
    Calls Tryz.prog 41 #[.pointer (some ⟨g, 0, none⟩)] w fun e w' => ∃ v l q, e = .returned v ∧ Ls w w' B g q v l ∧ l.length ≤ 7 ∧ p ≤ q ∧ q ≤ p + 20 ∧ BdL l := by
  have hgw := h.2.1
  go_enter Tryz.func41, Tryz.ntmps41
  go_wp2_with fail
  have L0 : Ls w (w.alloc (.cells #[] 68)) B g p (.slice (some ⟨w.heap.size, 0, none⟩) 0 0) [] :=
    ⟨World.ownsRow_lit w #[] 0 (Nat.le_refl _) (Nat.zero_le _) rfl, h.later (by go_grown), World.grownBy_alloc w _ _, hgw⟩
  refine (pick_any g p 6 B _ L0.2.1 (by omega) (by omega)).mono ?_
  rintro e w1 ⟨n, rfl, n0, n1, R1, g1⟩
  have L1 := hid (L0.kept R1 g1)
  have n2 := n1 (by omega)
  clear n1 L0 R1 g1
  go_wp2_with fail
  go_loopw [3, 4] (fun o i wr => ∃ (t : Int) (l : List (Int × Int)) (q : Nat), 0 ≤ t ∧ t ≤ n ∧ i = .int .i64 t ∧ Hid (Ls w wr B g q o l) ∧ (l.length : Int) ≤ n - t ∧ okL l = true ∧ p + 1 ≤ q ∧ (q : Int) ≤ p + 1 + 2 * (n - t)) (fun _ i _ => (intOf i).toNat)
  case atStart => exact ⟨n, [], p + 1, by omega, by omega, rfl, L1, by simp, rfl, by omega, by omega⟩
  case round =>
    obtain ⟨t, l, q, t0, t1, rfl, L2, hln, hok, q0, q1⟩ := hrel
    clear L1
    by_cases ht : 0 < t
    · go_wp2_with fail
      refine (pick_any g q 8 B _ L2.out.2.1 (by omega) (by omega)).mono ?_
      rintro e w2 ⟨a, rfl, a0, a1, R2, g2⟩
      have L3 := hid (L2.out.kept R2 g2)
      have a2 := a1 (by omega)
      clear a1 R2 g2 L2
      go_wp2_with fail
      have hlt3 := Nat.lt_of_lt_of_le L3.out.2.2.2 L3.out.2.2.1.size
      refine (num_any g (q + 1) w2.heap.size 6 6 B _ _ (L3.out.2.1.later (by go_grown)) (by omega) (by omega) (by omega) (by omega) (nums_six w2)).mono ?_
      rintro e w3 ⟨z, rfl, hz, R3, g3⟩
      have L4 := hid ((L3.out.below (w' := w2.alloc (.cells #[.int .i64 0, .int .i64 1, .int .i64 2, .int .i64 5, .int .i64 5, .int .i64 1000] 3)) (by go_grown)).kept R3 g3)
      clear L3 R3 g3
      go_wp2_with fail
      refine (l1Add_any _ l a z _ L4.out.1.rd (by omega) hok).mono ?_
      rintro e w4 ⟨v', rfl, o4, b4⟩
      have L5 := hid (L4.out.other b4 o4)
      have hr := okL_add (who := a) (at' := z) hok (rightB_iff.2 ⟨a0, a2, hz.1, hz.2⟩)
      have hle : (insL (l.filter (notWho a)) (a, z)).length ≤ l.length + 1 := by
        rw [insL_length]; have := List.length_filter_le (notWho a) l; omega
      clear o4 b4 L4
      go_wp2
      go_roundw
      case rel => exact ⟨t - 1, _, q + 2, by omega, by omega, by go_num, L5, by omega, hr, by omega, by omega⟩
      case measure => simp [intOf]; omega
    · obtain rfl : t = 0 := by omega
      have hl5 : l.length ≤ 5 := by omega
      have HBD := hid (bd_of_ok hok)
      clear hok hln
      by_cases hl0 : l.length = 0
      · have hnil : l = [] := List.eq_nil_of_length_eq_zero hl0
        subst hnil
        obtain ⟨ao, cap, hv, _⟩ := L2.out.1.rd
        subst hv
        go_wp2_with fail
        go_ret
        have h7 : ([] : List (Int × Int)).length ≤ 7 := by simp
        exact ⟨_, rfl, _, _, L2.out, h7, by omega, by omega, HBD.out⟩
      · have hform : ∃ gg cap, u3 = .slice (some ⟨gg, 0, none⟩) l.length cap := by
          rcases L2.out.1.2 with ⟨_, hn⟩ | ⟨gg, cap, _, hv, _⟩
          · exact absurd hn hl0
          · exact ⟨gg, cap, hv⟩
        obtain ⟨gg, cap, hv⟩ := hform
        subst hv
        go_wp2_with fail
        refine (pick_any g q l.length B _ L2.out.2.1 (by omega) (by omega)).mono ?_
        rintro e w2 ⟨r, rfl, r0, r1, R2, g2⟩
        have L3 := hid (L2.out.kept R2 g2)
        have r2 := r1 (by omega)
        obtain ⟨k, rfl⟩ : ∃ k : Nat, r = (k : Int) := ⟨r.toNat, by omega⟩
        have hk : k < l.length := by omega
        clear r1 R2 g2 L2
        go_wp2_with fail
        refine (pick_any g (q + 1) 30 B _ L3.out.2.1 (by omega) (by omega)).mono ?_
        rintro e w3 ⟨c, rfl, d0, d1, R3, g3⟩
        have L4 := hid (L3.out.kept R3 g3)
        clear d1 R3 g3 L3
        by_cases c0 : c = 0
        · subst c0
          go_wp2_with fail
          have hlt3 := Nat.lt_of_lt_of_le L4.out.2.2.2 L4.out.2.2.1.size
          refine (num_any g (q + 2) w3.heap.size 3 3 B _ _ (L4.out.2.1.later (by go_grown)) (by omega) (by omega) (by omega) (by omega) (nums_three w3 (-1) 1001 3)).mono ?_
          rintro e w4 ⟨z, rfl, hz, R4, g4⟩
          have L5 := hid ((L4.out.below (w' := w3.alloc (.cells #[.int .i64 (-1), .int .i64 1001, .int .i64 3] 3)) (by go_grown)).kept R4 g4)
          clear L4 R4 g4
          obtain ⟨x0, x1⟩ := L5.out.1.at hk
          have y1 := L5.out.1.frozenAt (k * 2 + 1)
          have L6 := hid (L5.out.set2 k z)
          clear L5
          go_wp2_with fail
          go_ret
          exact ⟨_, _, _, rfl, L6.out, by rw [List.length_set]; omega, by omega, by omega, HBD.out.set k _ ⟨(HBD.out.at hk).1, by omega⟩⟩
        · by_cases c1 : c = 1
          · subst c1
            go_wp2_with fail
            have hlt3 := Nat.lt_of_lt_of_le L4.out.2.2.2 L4.out.2.2.1.size
            refine (num_any g (q + 2) w3.heap.size 3 3 B _ _ (L4.out.2.1.later (by go_grown)) (by omega) (by omega) (by omega) (by omega) (nums_three w3 (-1) 8 0)).mono ?_
            rintro e w4 ⟨z, rfl, hz, R4, g4⟩
            have L5 := hid ((L4.out.below (w' := w3.alloc (.cells #[.int .i64 (-1), .int .i64 8, .int .i64 0] 3)) (by go_grown)).kept R4 g4)
            clear L4 R4 g4
            obtain ⟨x0, x1⟩ := L5.out.1.at hk
            have y0 := L5.out.1.frozenAt (k * 2)
            have L6 := hid (L5.out.set1 k z)
            clear L5
            go_wp2_with fail
            go_ret
            exact ⟨_, _, _, rfl, L6.out, by rw [List.length_set]; omega, by omega, by omega, HBD.out.set k _ ⟨by omega, (HBD.out.at hk).2⟩⟩
          · have e0 : (c == 0) = false := by simpa using c0
            have e1 : (c == 1) = false := by simpa using c1
            by_cases c2 : c = 2
            · subst c2
              clear e0 e1 c0 c1
              obtain ⟨x0, x1⟩ := L4.out.1.at hk
              obtain ⟨i0, hi, hz0, hz1, hz2⟩ := info_parts Tryz.info68
              have hk1 : l.length + 1 ≤ maxLen := by unfold maxLen; omega
              have hk2 : (l.length + 1) * 16 ≤ 140737488355328 := by omega
              have HBX := hid (HBD.out.at hk)
              generalize l.getD k (0, 0) = x at x0 x1 HBX
              have LA := hid (L4.out.below (w' := w3.alloc (.cells #[.int .i64 x.1, .int .i64 x.2] 68)) (by go_grown))
              have hbs := hid LA.out.2.2.1.size
              go_wp2_with (first | (at_builtin; refine wpList_append_own _ rfl _ _ 23 rfl w.heap.size 68 i0 (.agg #[.int .i64 0, .int .i64 0]) 2 16 Tryz.underlying23 hi hz0 hz1 hz2 rfl (by decide) _ _ _ rfl LA.out.1 ⟨w3.heap.size, 0, none⟩ 1 1 [.int .i64 x.1, .int .i64 x.2] rfl rfl (cells_two_new _ _ _ _) (by simp [Value.oneCell']) hk1 hk2 hbs.out ?_; intro v' w5 hown' hgrow' _; have HO := hid hown'; have HG := hid hgrow'; clear hown' hgrow'))
              go_ret
              have hgg := (LA.out.1.block gg rfl).1
              have hg0 := LA.out.2.2.2
              have hB0 := LA.out.2.1.1
              refine ⟨_, l ++ [x], _, rfl, ⟨?_, LA.out.2.1.kept HG.out (fun j e => by have : gg = j := Option.some.inj e; omega) (fun e => by have : gg = g := Option.some.inj e; omega), ?_, hg0⟩, by rw [List.length_append]; simp; omega, by omega, by omega, fun y hy => ?_⟩
              · have := HO.out
                unfold Own
                rw [ecells_append, List.length_append]
                simpa [ecells] using this
              · have hga := LA.out.2.2.1
                have hgb := HG.out
                exact ⟨hgb.os.trans hga.os, hgb.tape.trans hga.tape, hgb.output.trans hga.output, Nat.le_trans hga.size hgb.size, fun j hj hne => (hgb.block j (Nat.lt_of_lt_of_le hj hga.size) (fun e => by have : j = gg := Option.some.inj e; omega)).trans (hga.block j hj hne)⟩
              · rcases List.mem_append.1 hy with hy | hy
                · exact HBD.out y hy
                · rw [List.mem_singleton.1 hy]; exact HBX.out
            · have e2 : (c == 2) = false := by simpa using c2
              go_wp2_with fail
              go_ret
              exact ⟨_, l, _, rfl, L4.out, by omega, by omega, by omega, HBD.out⟩

/-- What a law is handed, drawn since world w0 out of bytes below its end: a list. -/
theorem Ls.facts {w0 wr : World} {B g p : Nat} {v : Value} {l : List (Int × Int)} (h : Ls w0 wr B g p v l) (hB : B ≤ w0.heap.size) : Own wr B v l := h.1.mono hB

end Go.Proofs.YtiplklcabcpccaaGreatDoor

/- Part: The reader's of (one of several texts): contract; how long a drawn list's text is. -/
namespace Go.Proofs.YtiplklcabcpccaaGreatDoor
open Go.RowKit Go.Shelf

/-- Block b holds m texts of which P is so. -/
def Strs (w : World) (b m : Nat) (P : ByteArray → Prop) : Prop := b < w.heap.size ∧ ∀ i, i < m → ∃ z, w.cell? ⟨b, i, none⟩ = some (.string z) ∧ P z

set_option maxHeartbeats 1000000 in
theorem of_any (g p b m cap : Nat) (B : Nat) (P : ByteArray → Prop) (w : World) (h : Rdr w B g p) (hp : p ≤ 1000000000000) (hm : 0 < m) (hm1 : m ≤ 1000) (hne : b ≠ g) (hl : Strs w b m P) :
    Calls Tryz.prog 28 #[.pointer (some ⟨g, 0, none⟩), .slice (some ⟨b, 0, none⟩) m cap] w fun e w' => ∃ z : ByteArray, e = .returned (.string z) ∧ P z ∧ Rdr w' B g (p + 1) ∧ w.grownBy w' (some g) := by
  go_enter Tryz.func28, Tryz.ntmps28
  go_wp2_with fail
  refine (pick_any g p m B _ h hp (by omega)).mono ?_
  rintro e w1 ⟨r, rfl, r0, r1, R1, g1⟩
  have r2 := r1 (by omega)
  obtain ⟨k, rfl⟩ : ∃ k : Nat, r = (k : Int) := ⟨r.toNat, by omega⟩
  have hk : k < m := by omega
  obtain ⟨z, hz, hP⟩ := hl.2 k hk
  have hz1 := g1.cell hz (fun e => hne (Option.some.inj e))
  clear r1 hl
  go_wp2
  go_ret
  exact ⟨z, by simp, hP, R1, g1⟩

theorem join_len (ys : List (List UInt8)) (h : ∀ y ∈ ys, y.length ≤ 43) : (Lib.join ys [32]).length ≤ 44 * ys.length := by
  cases ys with
  | nil => simp [Lib.join_nil]
  | cons x r =>
    rw [Lib.join_cons]
    have hx := h x (by simp)
    have : ∀ r : List (List UInt8), (∀ y ∈ r, y.length ≤ 43) → (Lib.joinTail [32] r).length ≤ 44 * r.length := by
      intro r
      induction r with
      | nil => intro _; simp [Lib.joinTail]
      | cons y r ih =>
        intro hr
        have hy := hr y (by simp)
        have hi := ih fun z hz => hr z (by simp [hz])
        simp [Lib.joinTail]
        simp [Lib.joinTail] at hi
        omega
    have h2 := this r fun y hy => h y (by simp [hy])
    simp only [List.length_append, List.length_cons]
    omega
theorem edgeT_len (x : Int × Int) (h1 : -9223372036854775808 ≤ x.1 ∧ x.1 ≤ 9223372036854775807) (h2 : -9223372036854775808 ≤ x.2 ∧ x.2 ≤ 9223372036854775807) : (edgeT x).length ≤ 43 := by
  have a := Lib.itoa_length_le x.1 h1.1 h1.2
  have b := Lib.itoa_length_le x.2 h2.1 h2.2
  simp [edgeT]; omega
theorem bd_wf {l : List (Int × Int)} (h : BdL l) : WfL l := fun i hi => by
  have := h.at hi
  omega
theorem text_len {l : List (Int × Int)} (h : BdL l) : (textL l).length ≤ 2 + 44 * l.length := by
  have := join_len (l.map edgeT) (fun y hy => by
    obtain ⟨x, hx, rfl⟩ := List.mem_map.1 hy
    have := h x hx
    exact edgeT_len x (by omega) (by omega))
  rw [List.length_map] at this
  simp [textL, innerL]; omega
end Go.Proofs.YtiplklcabcpccaaGreatDoor

/- Part: The draw of a text, torn or not: contract. -/
namespace Go.Proofs.YtiplklcabcpccaaGreatDoor
open Go.RowKit Go.Shelf

theorem strs_six (w : World) (a b c d e f : ByteArray) (P : ByteArray → Prop) (ha : P a) (hb : P b) (hc : P c) (hd : P d) (he : P e) (hf : P f) : Strs (w.alloc (.cells #[.string a, .string b, .string c, .string d, .string e, .string f] 9)) w.heap.size 6 P := by
  refine ⟨by simp, fun i hi => ?_⟩
  rcases i with _ | _ | _ | _ | _ | _ | i
  · exact ⟨a, by go_cell, ha⟩
  · exact ⟨b, by go_cell, hb⟩
  · exact ⟨c, by go_cell, hc⟩
  · exact ⟨d, by go_cell, hd⟩
  · exact ⟨e, by go_cell, he⟩
  · exact ⟨f, by go_cell, hf⟩
  · omega

theorem wrap_small {m : Nat} (h : m ≤ 400) : IntKind.i64.wrap (m : Int) = (m : Int) := by
  simp [IntKind.wrap, IntKind.bits, IntKind.signed]
  omega
theorem Strs.drew {w : World} {b m : Nat} {P : ByteArray → Prop} (h : Strs w b m P) : Strs w.drew b m P := ⟨by simpa using h.1, fun i hi => by simpa using h.2 i hi⟩
theorem first_strs (w : World) (P : ByteArray → Prop) (ha : P ⟨#[]⟩) (hb : P ⟨#[48]⟩) (hc : P ⟨#[64]⟩) (hd : P ⟨#[32]⟩) (he : P ⟨#[41]⟩) (hf : P ⟨#[45]⟩) : Strs (w.alloc (.cells #[.string ⟨#[]⟩, .string ⟨#[48]⟩, .string ⟨#[64]⟩, .string ⟨#[32]⟩, .string ⟨#[41]⟩, .string ⟨#[45]⟩] 9)).drew w.heap.size 6 P :=
  (strs_six w _ _ _ _ _ _ P ha hb hc hd he hf).drew

end Go.Proofs.YtiplklcabcpccaaGreatDoor

/- Part: The draws of a key: contracts. -/
namespace Go.Proofs.YtiplklcabcpccaaGreatDoor
open Go.RowKit

set_option maxRecDepth 100000 in
set_option maxHeartbeats 1000000 in
theorem l2Key_any (g p B : Nat) (w : World) (h : Rdr w B g p) (hp : p ≤ 100000000000) :
    Calls Tryz.prog 25 #[.pointer (some ⟨g, 0, none⟩)] w fun e w' => ∃ k : Int, e = .returned (.int .i64 k) ∧ (-1 ≤ k ∧ k ≤ 100) ∧ (∃ q, p ≤ q ∧ q ≤ p + 2 ∧ Rdr w' B g q) ∧ w.grownBy w' (some g) := by
  go_enter Tryz.func25, Tryz.ntmps25
  go_wp2_with fail
  refine (pick_any g p 16 B _ h (by omega) (by omega)).mono ?_
  rintro e w1 ⟨r, rfl, r0, r1, R1, g1⟩
  clear r1
  by_cases hr : r = 0
  · subst hr
    go_wp2_with fail
    have hN : Nums (w1.alloc (.cells #[.int .i64 (-1), .int .i64 24, .int .i64 100] 3)) w1.heap.size 3 (fun z => -1 ≤ z ∧ z ≤ 100) := by
      refine ⟨by simp, fun i hi => ?_⟩
      rcases i with _ | _ | _ | i
      · exact ⟨-1, by go_cell, by omega⟩
      · exact ⟨24, by go_cell, by omega⟩
      · exact ⟨100, by go_cell, by omega⟩
      · omega
    have hg1 := R1.2.1
    refine (num_any g (p + 1) w1.heap.size 3 3 B (fun z => -1 ≤ z ∧ z ≤ 100) _ (R1.later (by go_grown)) (by omega) (by omega) (by omega) (by omega) hN).mono ?_
    rintro e w2 ⟨k, rfl, hk, R2, g2⟩
    have g3 := grown_trans g1 (grown_trans (World.grownBy_alloc w1 _ (some g)) g2)
    clear hN g1 g2
    go_wp2
    go_ret
    exact ⟨k, by simp, hk, ⟨p + 2, by omega, by omega, R2⟩, g3⟩
  · have hr' : (r == 0) = false := by simpa using hr
    go_wp2_with fail
    refine (pick_any g (p + 1) 24 B _ R1 (by omega) (by omega)).mono ?_
    rintro e w2 ⟨k, rfl, k0, k1, R2, g2⟩
    have k2 := k1 (by omega)
    clear k1
    go_wp2
    go_ret
    exact ⟨k, by simp, by omega, ⟨p + 2, by omega, by omega, R2⟩, grown_trans g1 g2⟩

end Go.Proofs.YtiplklcabcpccaaGreatDoor

/- Part: The draw of a key and what it has: contracts. -/
namespace Go.Proofs.YtiplklcabcpccaaGreatDoor
open Go.RowKit
attribute [local go_sem ↓] Go.wp_at_zero Go.wp_at_succ

theorem nums_nine (w : World) : Nums (w.alloc (.cells #[.int .i64 0, .int .i64 1, .int .i64 7, .int .i64 1000000, .int .i64 1000001, .int .i64 5, .int .i64 9, .int .i64 12, .int .i64 (-1)] 3)) w.heap.size 9 (fun z => -1 ≤ z ∧ z ≤ 1000001) := by
  refine ⟨by simp, fun i hi => ?_⟩
  rcases i with _ | _ | _ | _ | _ | _ | _ | _ | _ | i
  · exact ⟨0, by go_cell, by omega⟩
  · exact ⟨1, by go_cell, by omega⟩
  · exact ⟨7, by go_cell, by omega⟩
  · exact ⟨1000000, by go_cell, by omega⟩
  · exact ⟨1000001, by go_cell, by omega⟩
  · exact ⟨5, by go_cell, by omega⟩
  · exact ⟨9, by go_cell, by omega⟩
  · exact ⟨12, by go_cell, by omega⟩
  · exact ⟨-1, by go_cell, by omega⟩
  · omega

/-- Two struct variables behind world w0's end, the reader, the rest as it was. -/
structure Two (w0 wr : World) (B g p : Nat) (n : Int) (u : Value) : Prop where
  rdr : Rdr wr B g p
  grown : w0.grownBy wr (some g)
  lt : g < w0.heap.size
  r0 : wr.cell? ⟨w0.heap.size, 0, none⟩ = some (.int .i64 0)
  r1 : wr.cell? ⟨w0.heap.size, 1, none⟩ = some (.slice none 0 0)
  v0 : wr.cell? ⟨w0.heap.size + 1, 0, none⟩ = some (.int .i64 n)
  v1 : wr.cell? ⟨w0.heap.size + 1, 1, none⟩ = some u
  f0 : wr.frozen? ⟨w0.heap.size, 0, none⟩ = false
  f1 : wr.frozen? ⟨w0.heap.size, 1, none⟩ = false
  f2 : wr.frozen? ⟨w0.heap.size + 1, 0, none⟩ = false
  f3 : wr.frozen? ⟨w0.heap.size + 1, 1, none⟩ = false
  size : w0.heap.size + 1 < wr.heap.size
theorem Two.kept {w0 wr w' : World} {B g p q : Nat} {n : Int} {u : Value} (h : Two w0 wr B g p n u) (hR : Rdr w' B g q) (hg : wr.grownBy w' (some g)) : Two w0 w' B g q n u := by
  have hl := h.lt
  have hs := h.size
  have n0 : ∀ i, some (⟨w0.heap.size, i, none⟩ : Addr).block ≠ some g := fun i e => by have : w0.heap.size = g := Option.some.inj e; omega
  have n1 : ∀ i, some (⟨w0.heap.size + 1, i, none⟩ : Addr).block ≠ some g := fun i e => by have : w0.heap.size + 1 = g := Option.some.inj e; omega
  exact ⟨hR, grown_trans h.grown hg, hl, hg.cell h.r0 (n0 0), hg.cell h.r1 (n0 1), hg.cell h.v0 (n1 0), hg.cell h.v1 (n1 1),
    (hg.frozen_far ⟨w0.heap.size, 0, none⟩ (by show w0.heap.size < _; omega) (n0 0)).trans h.f0, (hg.frozen_far ⟨w0.heap.size, 1, none⟩ (by show w0.heap.size < _; omega) (n0 1)).trans h.f1,
    (hg.frozen_far ⟨w0.heap.size + 1, 0, none⟩ hs (n1 0)).trans h.f2, (hg.frozen_far ⟨w0.heap.size + 1, 1, none⟩ hs (n1 1)).trans h.f3, Nat.lt_of_lt_of_le hs hg.size⟩
theorem Two.below {w0 wr w' : World} {B g p : Nat} {n : Int} {u : Value} (h : Two w0 wr B g p n u) (hb : Below wr.heap.size wr w') : Two w0 w' B g p n u :=
  h.kept (h.rdr.later hb) (grown_wide (grownBelowR hb))
theorem Two.new (w : World) {B g p : Nat} (h : Rdr w B g p) : Two w ((w.alloc (.cells #[.int .i64 0, .slice none 0 0] 25)).alloc (.cells #[.int .i64 0, .slice none 0 0] 25)) B g p 0 (.slice none 0 0) :=
  ⟨h.later (by go_grown), grown_trans (World.grownBy_alloc w _ _) (World.grownBy_alloc _ _ _), h.2.1, by go_cell, by go_cell, by go_cell, by go_cell, by (first | go_cell | (simp [World.frozen?, World.alloc]; done) | rfl), by (first | go_cell | (simp [World.frozen?, World.alloc]; done) | rfl), by (first | go_cell | (simp [World.frozen?, World.alloc]; done) | rfl), by (first | go_cell | (simp [World.frozen?, World.alloc]; done) | rfl), by simp⟩
theorem Two.set0 {w0 wr : World} {B g p : Nat} {n : Int} {u : Value} (h : Two w0 wr B g p n u) (z : Int) : Two w0 (wr.setCell ⟨w0.heap.size + 1, 0, none⟩ (.int .i64 z)) B g p z u := by
  have hl := h.lt
  obtain ⟨a1, a2, a3, a4, a5, a6, a7, a8, a9, a10, a11, a12⟩ := h
  exact ⟨a1.kept (grown_set wr ⟨w0.heap.size + 1, 0, none⟩ _) (fun j e => by have : w0.heap.size + 1 = j := Option.some.inj e; have := a1.1; omega) (fun e => by have : w0.heap.size + 1 = g := Option.some.inj e; omega),
    grown_set_new a2 (by show w0.heap.size ≤ w0.heap.size + 1; omega) _, hl, by go_cell, by go_cell, by go_cell, by go_cell, by simpa using a8, by simpa using a9, by simpa using a10, by simpa using a11, by simpa using a12⟩
theorem Two.set1 {w0 wr : World} {B g p : Nat} {n : Int} {u : Value} (h : Two w0 wr B g p n u) (ao : Option Addr) (m c : Nat) : Two w0 (wr.setCell ⟨w0.heap.size + 1, 1, none⟩ (.slice ao m c)) B g p n (.slice ao m c) := by
  have hl := h.lt
  obtain ⟨a1, a2, a3, a4, a5, a6, a7, a8, a9, a10, a11, a12⟩ := h
  exact ⟨a1.kept (grown_set wr ⟨w0.heap.size + 1, 1, none⟩ _) (fun j e => by have : w0.heap.size + 1 = j := Option.some.inj e; have := a1.1; omega) (fun e => by have : w0.heap.size + 1 = g := Option.some.inj e; omega),
    grown_set_new a2 (by show w0.heap.size ≤ w0.heap.size + 1; omega) _, hl, by go_cell, by go_cell, by go_cell, by go_cell, by simpa using a8, by simpa using a9, by simpa using a10, by simpa using a11, by simpa using a12⟩

theorem Own.apartSet2 {w : World} {B : Nat} {v : Value} {l : List (Int × Int)} {p : Addr} (h : Own w B v l) (hp : p.block < B) (u : Value) : Own (w.setCell p u) B v l := by
  refine ⟨h.1, ?_⟩
  rcases h.2 with hn | ⟨g, cap, cur, rfl, hbg, hgg, rest⟩
  · exact .inl hn
  · exact .inr ⟨g, cap, cur, rfl, hbg, (Below.heap_setCell w p u g (by omega)).trans hgg, rest⟩

theorem Rdr.setFar {w : World} {B g p : Nat} (h : Rdr w B g p) {a : Addr} (ha : B ≤ a.block) (hne : ¬ a.block = g) (v : Value) : Rdr (w.setCell a v) B g p :=
  h.kept (grown_set w a v) (fun k e => by cases e; exact ha) (fun e => hne (Option.some.inj e))

set_option maxRecDepth 100000 in
set_option maxHeartbeats 2000000 in
theorem l2ValR_any (g p B : Nat) (key : Int) (w : World) (h : Rdr w B g p) (hp : p ≤ 1000000) :
    Calls Tryz.prog 26 #[.pointer (some ⟨g, 0, none⟩), .int .i64 key] w fun e w' => ∃ (n : Int) (u : Value) (l : List (Int × Int)), e = .returned (.agg #[.int .i64 n, u]) ∧ Own w' (w.heap.size + 2) u l ∧ l.length ≤ 7 ∧ BdL l ∧ (-1 ≤ n ∧ n ≤ 1000001) ∧ w.grownBy w' (some g) ∧ ∃ q, q ≤ p + 30 ∧ Rdr w' B g q := by
  have hT := hid (Two.new w h)
  have hgw := h.2.1
  have hBw : B ≤ w.heap.size := Nat.le_trans h.1 (Nat.le_of_lt hgw)
  go_enter Tryz.func26, Tryz.ntmps26
  go_wp2_with fail
  refine (specKind_any key _).mono ?_
  rintro e w1 ⟨rfl, rfl⟩
  generalize (w.alloc (.cells #[.int .i64 0, .slice none 0 0] 25)).alloc (.cells #[.int .i64 0, .slice none 0 0] 25) = W at hT ⊢
  have q0 := hT.out.v0
  have q1 := hT.out.v1
  have y0 := hT.out.f2
  have y1 := hT.out.f3
  cases hk : (kindOf key == 0) with
  | true =>
    go_wp2_with fail
    have hA := hid (hT.out.below (w' := W.alloc (.cells #[.int .i64 0, .int .i64 1, .int .i64 7, .int .i64 1000000, .int .i64 1000001, .int .i64 5, .int .i64 9, .int .i64 12, .int .i64 (-1)] 3)) (by go_grown))
    have hgW := Nat.lt_of_lt_of_le hgw hT.out.grown.size
    refine (num_any g p W.heap.size 9 9 B _ _ hA.out.rdr (by omega) (by omega) (by omega) (by omega) (nums_nine W)).mono ?_
    rintro e w2 ⟨z, rfl, hz, R2, g2⟩
    have hB := hid (hA.out.kept R2 g2)
    clear q0 q1 y0 y1 hA R2 g2
    have q0 := hB.out.v0
    have y0 := hB.out.f2
    have hC := hid (hB.out.set0 z)
    go_wp2_with fail
    refine (pick_any g (p + 1) 20 B _ hC.out.rdr (by omega) (by omega)).mono ?_
    rintro e w3 ⟨r, rfl, d0, d1, R3, g3⟩
    have hD := hid (hC.out.kept R3 g3)
    clear q0 y0 hB hC R3 g3 d1
    have k0 := hD.out.r0
    have k1 := hD.out.r1
    have k2 := hD.out.v0
    have k3 := hD.out.v1
    have j0 := hD.out.f0
    have j1 := hD.out.f1
    have j2 := hD.out.f2
    by_cases hr : r = 0
    · subst hr
      have e0 : (((w3.setCell ⟨w.heap.size + 1, 0, none⟩ (.int .i64 1)).setCell ⟨w.heap.size, 0, none⟩ (.int .i64 1)).setCell ⟨w.heap.size, 1, none⟩ (.slice none 0 0)).cell? ⟨w.heap.size, 0, none⟩ = some (.int .i64 1) := by go_cell
      have e1 : (((w3.setCell ⟨w.heap.size + 1, 0, none⟩ (.int .i64 1)).setCell ⟨w.heap.size, 0, none⟩ (.int .i64 1)).setCell ⟨w.heap.size, 1, none⟩ (.slice none 0 0)).cell? ⟨w.heap.size, 1, none⟩ = some (.slice none 0 0) := by go_cell
      have HG := hid (grown_set_new (grown_set_new (grown_set_new hD.out.grown (a := ⟨w.heap.size + 1, 0, none⟩) (by show w.heap.size ≤ w.heap.size + 1; omega) (.int .i64 1)) (a := ⟨w.heap.size, 0, none⟩) (Nat.le_refl _) (.int .i64 1)) (a := ⟨w.heap.size, 1, none⟩) (Nat.le_refl _) (.slice none 0 0))
      have HR := hid (((hD.out.rdr.setFar (a := ⟨w.heap.size + 1, 0, none⟩) (by show B ≤ w.heap.size + 1; omega) (by show ¬ w.heap.size + 1 = g; omega) (.int .i64 1)).setFar (a := ⟨w.heap.size, 0, none⟩) (by show B ≤ w.heap.size; omega) (by show ¬ w.heap.size = g; omega) (.int .i64 1)).setFar (a := ⟨w.heap.size, 1, none⟩) (by show B ≤ w.heap.size; omega) (by show ¬ w.heap.size = g; omega) (.slice none 0 0))
      go_wp2
      refine bodyPost_ret (v := .agg #[.int .i64 1, .slice none 0 0]) (by simp [results, Tryz.results26, go_sem, e0, e1]) rfl ⟨_, _, _, rfl, (show World.ownsRow _ _ _ _ _ _ _ from World.ownsRow_nil _ _ _ _ : Own _ _ _ []), by simp, (fun x hx => by cases hx), by omega, HG.out, _, by omega, HR.out⟩
    · have hr' : (r == 0) = false := by simpa using hr
      clear hr
      have e0 : ((w3.setCell ⟨w.heap.size, 0, none⟩ (.int .i64 z)).setCell ⟨w.heap.size, 1, none⟩ (.slice none 0 0)).cell? ⟨w.heap.size, 0, none⟩ = some (.int .i64 z) := by go_cell
      have e1 : ((w3.setCell ⟨w.heap.size, 0, none⟩ (.int .i64 z)).setCell ⟨w.heap.size, 1, none⟩ (.slice none 0 0)).cell? ⟨w.heap.size, 1, none⟩ = some (.slice none 0 0) := by go_cell
      have HG := hid (grown_set_new (grown_set_new hD.out.grown (a := ⟨w.heap.size, 0, none⟩) (Nat.le_refl _) (.int .i64 z)) (a := ⟨w.heap.size, 1, none⟩) (Nat.le_refl _) (.slice none 0 0))
      have HR := hid ((hD.out.rdr.setFar (a := ⟨w.heap.size, 0, none⟩) (by show B ≤ w.heap.size; omega) (by show ¬ w.heap.size = g; omega) (.int .i64 z)).setFar (a := ⟨w.heap.size, 1, none⟩) (by show B ≤ w.heap.size; omega) (by show ¬ w.heap.size = g; omega) (.slice none 0 0))
      go_wp2
      refine bodyPost_ret (v := .agg #[.int .i64 z, .slice none 0 0]) (by simp [results, Tryz.results26, go_sem, e0, e1]) rfl ⟨_, _, _, rfl, (show World.ownsRow _ _ _ _ _ _ _ from World.ownsRow_nil _ _ _ _ : Own _ _ _ []), by simp, (fun x hx => by cases hx), hz, HG.out, _, by omega, HR.out⟩
  | false =>
    go_wp2_with fail
    refine (l1List_any g p B _ hT.out.rdr (by omega)).mono ?_
    rintro e w2 ⟨u, l, q, rfl, L, hl, hq0, hq1, hbd⟩
    obtain ⟨uo, uc, hu, _⟩ := L.1.rd
    subst hu
    have hB := hid (hT.out.kept L.2.1 L.2.2.1)
    have hWs := hT.out.size
    have hO := hid L.1
    have hne := hid L.ne
    clear q0 q1 y0 y1 L
    have q1 := hB.out.v1
    have y1 := hB.out.f3
    have hC := hid (hB.out.set1 uo l.length uc)
    have hO2 := hid (hO.out.apartSet2 (p := ⟨w.heap.size + 1, 1, none⟩) (by show w.heap.size + 1 < _; omega) (.slice uo l.length uc))
    go_wp2_with fail
    refine (pick_any g q 20 B _ hC.out.rdr (by omega) (by omega)).mono ?_
    rintro e w3 ⟨r, rfl, d0, d1, R3, g3⟩
    have hD := hid (hC.out.kept R3 g3)
    have hO3 := hid (Own.mono (World.ownsRow.kept hO2.out g3 hne.out) (B' := w.heap.size + 2) (by omega))
    clear q1 y1 hB hC R3 g3 d1 hO hO2
    have k0 := hD.out.r0
    have k1 := hD.out.r1
    have k2 := hD.out.v0
    have k3 := hD.out.v1
    have j0 := hD.out.f0
    have j1 := hD.out.f1
    have j2 := hD.out.f2
    by_cases hr : r = 0
    · subst hr
      have e0 : (((w3.setCell ⟨w.heap.size + 1, 0, none⟩ (.int .i64 1)).setCell ⟨w.heap.size, 0, none⟩ (.int .i64 1)).setCell ⟨w.heap.size, 1, none⟩ (.slice uo l.length uc)).cell? ⟨w.heap.size, 0, none⟩ = some (.int .i64 1) := by go_cell
      have e1 : (((w3.setCell ⟨w.heap.size + 1, 0, none⟩ (.int .i64 1)).setCell ⟨w.heap.size, 0, none⟩ (.int .i64 1)).setCell ⟨w.heap.size, 1, none⟩ (.slice uo l.length uc)).cell? ⟨w.heap.size, 1, none⟩ = some (.slice uo l.length uc) := by go_cell
      have HG := hid (grown_set_new (grown_set_new (grown_set_new hD.out.grown (a := ⟨w.heap.size + 1, 0, none⟩) (by show w.heap.size ≤ w.heap.size + 1; omega) (.int .i64 1)) (a := ⟨w.heap.size, 0, none⟩) (Nat.le_refl _) (.int .i64 1)) (a := ⟨w.heap.size, 1, none⟩) (Nat.le_refl _) (.slice uo l.length uc))
      have HR := hid (((hD.out.rdr.setFar (a := ⟨w.heap.size + 1, 0, none⟩) (by show B ≤ w.heap.size + 1; omega) (by show ¬ w.heap.size + 1 = g; omega) (.int .i64 1)).setFar (a := ⟨w.heap.size, 0, none⟩) (by show B ≤ w.heap.size; omega) (by show ¬ w.heap.size = g; omega) (.int .i64 1)).setFar (a := ⟨w.heap.size, 1, none⟩) (by show B ≤ w.heap.size; omega) (by show ¬ w.heap.size = g; omega) (.slice uo l.length uc))
      go_wp2
      refine bodyPost_ret (v := .agg #[.int .i64 1, .slice uo l.length uc]) (by simp [results, Tryz.results26, go_sem, e0, e1]) rfl ⟨_, _, _, rfl, ((hO3.out.apartSet2 (p := ⟨w.heap.size + 1, 0, none⟩) (by show w.heap.size + 1 < _; omega) (.int .i64 1)).apartSet2 (p := ⟨w.heap.size, 0, none⟩) (by show w.heap.size < _; omega) (.int .i64 1)).apartSet2 (p := ⟨w.heap.size, 1, none⟩) (by show w.heap.size < _; omega) (.slice uo l.length uc), hl, hbd, by omega, HG.out, _, by omega, HR.out⟩
    · have hr' : (r == 0) = false := by simpa using hr
      clear hr
      have e0 : ((w3.setCell ⟨w.heap.size, 0, none⟩ (.int .i64 0)).setCell ⟨w.heap.size, 1, none⟩ (.slice uo l.length uc)).cell? ⟨w.heap.size, 0, none⟩ = some (.int .i64 0) := by go_cell
      have e1 : ((w3.setCell ⟨w.heap.size, 0, none⟩ (.int .i64 0)).setCell ⟨w.heap.size, 1, none⟩ (.slice uo l.length uc)).cell? ⟨w.heap.size, 1, none⟩ = some (.slice uo l.length uc) := by go_cell
      have HG := hid (grown_set_new (grown_set_new hD.out.grown (a := ⟨w.heap.size, 0, none⟩) (Nat.le_refl _) (.int .i64 0)) (a := ⟨w.heap.size, 1, none⟩) (Nat.le_refl _) (.slice uo l.length uc))
      have HR := hid ((hD.out.rdr.setFar (a := ⟨w.heap.size, 0, none⟩) (by show B ≤ w.heap.size; omega) (by show ¬ w.heap.size = g; omega) (.int .i64 0)).setFar (a := ⟨w.heap.size, 1, none⟩) (by show B ≤ w.heap.size; omega) (by show ¬ w.heap.size = g; omega) (.slice uo l.length uc))
      go_wp2
      refine bodyPost_ret (v := .agg #[.int .i64 0, .slice uo l.length uc]) (by simp [results, Tryz.results26, go_sem, e0, e1]) rfl ⟨_, _, _, rfl, (hO3.out.apartSet2 (p := ⟨w.heap.size, 0, none⟩) (by show w.heap.size < _; omega) (.int .i64 0)).apartSet2 (p := ⟨w.heap.size, 1, none⟩) (by show w.heap.size < _; omega) (.slice uo l.length uc), hl, hbd, by omega, HG.out, _, by omega, HR.out⟩

theorem l2Val_any (g p B : Nat) (key : Int) (w : World) (h : Rdr w B g p) (hp : p ≤ 1000000) :
    Calls Tryz.prog 26 #[.pointer (some ⟨g, 0, none⟩), .int .i64 key] w fun e w' => ∃ (n : Int) (u : Value) (l : List (Int × Int)), e = .returned (.agg #[.int .i64 n, u]) ∧ Own w' (w.heap.size + 2) u l ∧ l.length ≤ 7 ∧ BdL l ∧ (-1 ≤ n ∧ n ≤ 1000001) ∧ w.grownBy w' (some g) :=
  (l2ValR_any g p B key w h hp).mono (by rintro e w' ⟨n, u, l, h0, h1, h2, h3, h4, h5, _⟩; exact ⟨n, u, l, h0, h1, h2, h3, h4, h5⟩)

/-- A struct variable in block b, elsewhere than the reader g. -/
structure One (wr : World) (b : Nat) : Prop where
  r0 : wr.cell? ⟨b, 0, none⟩ = some (.int .i64 0)
  r1 : wr.cell? ⟨b, 1, none⟩ = some (.slice none 0 0)
  f0 : wr.frozen? ⟨b, 0, none⟩ = false
  f1 : wr.frozen? ⟨b, 1, none⟩ = false
  lt : b < wr.heap.size
theorem One.kept {wr w' : World} {b g : Nat} (h : One wr b) (hg : wr.grownBy w' (some g)) (hne : b ≠ g) : One w' b :=
  ⟨hg.cell h.r0 (fun e => hne (Option.some.inj e)), hg.cell h.r1 (fun e => hne (Option.some.inj e)), (hg.frozen_far ⟨b, 0, none⟩ h.lt (fun e => hne (Option.some.inj e))).trans h.f0,
    (hg.frozen_far ⟨b, 1, none⟩ h.lt (fun e => hne (Option.some.inj e))).trans h.f1, Nat.lt_of_lt_of_le h.lt hg.size⟩
theorem One.below {wr w' : World} {b : Nat} (h : One wr b) (hb : Below wr.heap.size wr w') : One w' b :=
  ⟨(hb.cell (p := ⟨b, 0, none⟩) h.lt).trans h.r0, (hb.cell (p := ⟨b, 1, none⟩) h.lt).trans h.r1, (hb.frozen (p := ⟨b, 0, none⟩) h.lt).trans h.f0, (hb.frozen (p := ⟨b, 1, none⟩) h.lt).trans h.f1, Nat.lt_of_lt_of_le h.lt hb.size⟩
theorem One.new (w : World) : One (w.alloc (.cells #[.int .i64 0, .slice none 0 0] 25)) w.heap.size := ⟨by go_cell, by go_cell, by (first | go_cell | (simp [World.frozen?, World.alloc]; done) | rfl), by (first | go_cell | (simp [World.frozen?, World.alloc]; done) | rfl), by simp⟩

set_option maxRecDepth 100000 in
set_option maxHeartbeats 2000000 in
theorem drawValOk_any (v : Value) (n : Nat) (w : World) (h : Bs w v n) :
    Calls Tryz.prog 13 #[v] w fun e w' => ∃ (k z : Int) (u : Value) (l : List (Int × Int)), e = .returned (.tuple #[.int .i64 k, .agg #[.int .i64 z, u]]) ∧ Own w' w.heap.size u l ∧ l.length ≤ 7 ∧ BdL l ∧ (-1 ≤ z ∧ z ≤ 1000001) ∧ Below w.heap.size w w' := by
  have hOne := hid (One.new w)
  have hW0 := hid (show Below w.heap.size w (w.alloc (.cells #[.int .i64 0, .slice none 0 0] 25)) from by go_grown)
  have hWs : w.heap.size < (w.alloc (.cells #[.int .i64 0, .slice none 0 0] 25)).heap.size := by simp
  have hbs := hid (h.later hW0.out)
  obtain ⟨ao, cap, rfl, h0, h1, h2, h3⟩ := h
  go_enter Tryz.func13, Tryz.ntmps13
  go_wp2_with fail
  generalize w.alloc (.cells #[.int .i64 0, .slice none 0 0] 25) = W at hOne hW0 hWs hbs ⊢
  obtain ⟨ao', cap', hv', _, _, _, h3'⟩ := hbs.out
  cases hv'
  refine (open_any ao n cap _ h0 h1 h2 h3').mono ?_
  rintro e w1 ⟨g, rfl, R1, b1⟩
  have hne : w.heap.size ≠ g := by have := R1.1; omega
  have hA := hid (hOne.out.below b1)
  have c1 := hW0.out.trans (b1.mono hW0.out.size)
  go_wp2_with fail
  refine (l2Key_any g 0 _ _ R1 (by omega)).mono ?_
  rintro e w2 ⟨k, rfl, _, ⟨q, _, hq, R2⟩, g2⟩
  have hB := hid (hA.out.kept g2 hne)
  have hgB := R1.1
  have c2 : Below w.heap.size w w2 := c1.grown g2 c1.size (fun j e => by have : g = j := Option.some.inj e; omega)
  clear hA g2 b1
  go_wp2_with fail
  refine (l2Val_any g q _ k _ R2 (by omega)).mono ?_
  rintro e w3 ⟨z, u, l, rfl, ho, hl, hbd, hz, g3⟩
  have hC := hid (hB.out.kept g3 hne)
  have c3 : Below w.heap.size w w3 := c2.grown g3 c2.size (fun j e => by have : g = j := Option.some.inj e; omega)
  obtain ⟨uo, uc, hu, _⟩ := ho.rd
  subst hu
  have hB2 := hid (hB.out.lt)
  have HO := hid ho
  clear hB g3 ho
  have k0 := hC.out.r0
  have k1 := hC.out.r1
  have j0 := hC.out.f0
  have j1 := hC.out.f1
  have e0 : ((w3.setCell ⟨w.heap.size, 0, none⟩ (.int .i64 z)).setCell ⟨w.heap.size, 1, none⟩ (.slice uo l.length uc)).cell? ⟨w.heap.size, 0, none⟩ = some (.int .i64 z) := by go_cell
  have e1 : ((w3.setCell ⟨w.heap.size, 0, none⟩ (.int .i64 z)).setCell ⟨w.heap.size, 1, none⟩ (.slice uo l.length uc)).cell? ⟨w.heap.size, 1, none⟩ = some (.slice uo l.length uc) := by go_cell
  have HF := hid (((HO.out.apartSet2 (p := ⟨w.heap.size, 0, none⟩) (by have := hB2.out; show w.heap.size < _; omega) (.int .i64 z)).apartSet2 (p := ⟨w.heap.size, 1, none⟩) (by have := hB2.out; show w.heap.size < _; omega) (.slice uo l.length uc)).mono (B' := w.heap.size) (by have := hB2.out; omega))
  have HL := hid ((c3.setCell (p := ⟨w.heap.size, 0, none⟩) (Nat.le_refl _) (.int .i64 z)).setCell (p := ⟨w.heap.size, 1, none⟩) (Nat.le_refl _) (.slice uo l.length uc))
  go_wp2
  refine bodyPost_ret (v := .tuple #[.int .i64 k, .agg #[.int .i64 z, .slice uo l.length uc]]) (by simp [results, Tryz.results13, go_sem, e0, e1]) rfl ⟨_, _, _, _, rfl, HF.out, hl, hbd, hz, HL.out⟩
end Go.Proofs.YtiplklcabcpccaaGreatDoor

/- Part: The draw of a key and a text, torn or not: contract. -/
namespace Go.Proofs.YtiplklcabcpccaaGreatDoor
open Go.RowKit Go.Shelf
attribute [local go_sem ↓] Go.wp_at_zero Go.wp_at_succ

theorem strs_eight (w : World) (a b c d e f x y : ByteArray) (P : ByteArray → Prop) (ha : P a) (hb : P b) (hc : P c) (hd : P d) (he : P e) (hf : P f) (hx : P x) (hy : P y) : Strs (w.alloc (.cells #[.string a, .string b, .string c, .string d, .string e, .string f, .string x, .string y] 9)) w.heap.size 8 P := by
  refine ⟨by simp, fun i hi => ?_⟩
  rcases i with _ | _ | _ | _ | _ | _ | _ | _ | i
  · exact ⟨a, by go_cell, ha⟩
  · exact ⟨b, by go_cell, hb⟩
  · exact ⟨c, by go_cell, hc⟩
  · exact ⟨d, by go_cell, hd⟩
  · exact ⟨e, by go_cell, he⟩
  · exact ⟨f, by go_cell, hf⟩
  · exact ⟨x, by go_cell, hx⟩
  · exact ⟨y, by go_cell, hy⟩
  · omega

theorem vtext_len {k z : Int} {l : List (Int × Int)} (h : BdL l) (hz : -1 ≤ z ∧ z ≤ 1000001) (hl : l.length ≤ 7) : (vTextL k z l).length ≤ 400 := by
  by_cases hk : kindOf k = 0
  · rw [vText_num hk]
    have := Lib.itoa_length_le z (by omega) (by omega)
    omega
  · rw [vText_kin hk]
    have := text_len h
    omega

set_option maxRecDepth 100000 in
set_option maxHeartbeats 2000000 in
theorem drawValRead_any (v : Value) (n : Nat) (w : World) (h : Bs w v n) :
    Calls Tryz.prog 11 #[v] w fun e w' => ∃ (k : Int) (s : ByteArray), e = .returned (.tuple #[.int .i64 k, .string s]) ∧ s.size ≤ 1000 ∧ Below w.heap.size w w' := by
  obtain ⟨ao, cap, rfl, h0, h1, h2, h3⟩ := h
  go_enter Tryz.func11, Tryz.ntmps11
  go_wp2_with fail
  refine (open_any ao n cap _ h0 h1 h2 h3).mono ?_
  rintro e w1 ⟨g, rfl, R1, b1⟩
  go_wp2_with fail
  refine (l2Key_any g 0 w.heap.size _ R1 (by omega)).mono ?_
  rintro e w2 ⟨k, rfl, _, ⟨q, _, hq, R2⟩, g2⟩
  have b2 : Below w.heap.size w w2 := b1.grown g2 b1.size (fun k e => by cases e; exact R1.1)
  have HR2 := hid R2
  clear R2 g2
  go_wp2_with fail
  refine (l2ValR_any g q w.heap.size k _ HR2.out (by omega)).mono ?_
  rintro e w3 ⟨z, u, l, rfl, ho, hl, hbd, hz, g3, q3, hq3, R3⟩
  have b3 : Below w.heap.size w w3 := b2.grown g3 b2.size (fun k e => by cases e; exact R1.1)
  have HO := hid ho
  have HB := hid hbd
  have HR3 := hid R3
  clear HR2 ho hbd g3 R3
  go_wp2_with fail
  refine (specVText_any k z u l _ HO.out.rd (by omega) (bd_wf HB.out) (by omega) (by omega)).mono ?_
  rintro e w4 ⟨rfl, b4⟩
  have c4 : Below w.heap.size w w4 := b3.trans (b4.mono b3.size)
  have R4 := hid (HR3.out.later b4)
  obtain ⟨s, hs⟩ : ∃ s : ByteArray, s = ⟨(vTextL k z l).toArray⟩ := ⟨_, rfl⟩
  have hs0 : s.size = (vTextL k z l).length := by rw [hs]; rfl
  have hs2 : s.size ≤ 400 := by have := vtext_len (k := k) HB.out hz hl; omega
  rw [← hs]
  clear hs hs0 b4 HR3
  go_wp2_with fail
  refine (pick_any g q3 2 w.heap.size _ R4.out (by omega) (by omega)).mono ?_
  rintro e w5 ⟨r, rfl, _, _, R5', g5⟩
  have R5 := hid R5'
  have b5 : Below w.heap.size w w5 := c4.grown g5 c4.size (fun k e => by cases e; exact R1.1)
  clear R5' g5 R4
  by_cases hr : r = 0
  · subst hr
    go_wp2
    go_ret2
    exact ⟨k, s, rfl, by omega, b5⟩
  · have R5w := R5.out.2.1
    have c5 := b5.size
    go_wp2_with fail
    refine (of_any g (q3 + 1) w5.heap.size 8 8 w.heap.size (fun z => z.size ≤ 9) _ (R5.out.later (by go_grown)) (by omega) (by omega) (by omega) (by omega) (strs_eight w5 _ _ _ _ _ _ _ _ _ (by decide) (by decide) (by decide) (by decide) (by decide) (by decide) (by decide) (by decide))).mono ?_
    rintro e w6 ⟨z, rfl, hz, R6', g6⟩
    have b6 : Below w.heap.size w w6 := (b5.trans ((((Below.refl _ w5).alloc (Nat.le_refl _) _)).mono b5.size)).grown g6 (by simp; omega) (fun k e => by cases e; exact R1.1)
    clear R6' g6
    go_wp2
    go_ret2
    exact ⟨k, z, rfl, by have hz' : z.size ≤ 9 := hz; omega, b6⟩
end Go.Proofs.YtiplklcabcpccaaGreatDoor

/- Part: impl.edgesFrom with its iterator, impl.EdgeRange, spec.EdgeRange: contracts. -/
namespace Go.Proofs.YtiplklcabcpccaaGreatDoor
open Go.RowKit Go.Shelf
attribute [local go_sem] Oper.semAt_some

/-- The edges from a place on; at most n of them. -/
def fromL (l : List (Int × Int)) (s : Int) : List (Int × Int) := if s < 0 then [] else l.drop s.toNat
def rangeL (l : List (Int × Int)) (s n : Int) : List (Int × Int) := (fromL l s).take n.toNat
theorem fromL_length (l : List (Int × Int)) (s : Int) : (fromL l s).length ≤ l.length := by
  unfold fromL
  split
  · simp
  · rw [List.length_drop]; omega
theorem rangeL_length (l : List (Int × Int)) (s n : Int) : (rangeL l s n).length ≤ l.length := by
  unfold rangeL
  rw [List.length_take]
  have := fromL_length l s
  omega
theorem drop_take_more (l : List (Int × Int)) (m q : Nat) (hm : m ≤ q) (hq : q < l.length) : (l.drop m).take (q + 1 - m) = (l.drop m).take (q - m) ++ [l.getD q (0, 0)] := by
  rw [show q + 1 - m = (q - m) + 1 from by omega, List.take_succ_eq_append_getElem (by rw [List.length_drop]; omega)]
  simp [hq, show m + (q - m) = q from by omega]

/-- Below block m all but block B is as it was. -/
def BelowX (m B : Nat) (w w' : World) : Prop := w.heap.size ≤ w'.heap.size ∧ ∀ k, k < m → k ≠ B → w'.heap[k]? = w.heap[k]?
theorem BelowX.refl (m B : Nat) (w : World) : BelowX m B w w := ⟨Nat.le_refl _, fun _ _ _ => rfl⟩
theorem BelowX.trans {m B : Nat} {a b c : World} (h : BelowX m B a b) (k : BelowX m B b c) : BelowX m B a c := ⟨Nat.le_trans h.1 k.1, fun i hi hn => (k.2 i hi hn).trans (h.2 i hi hn)⟩
theorem BelowX.of {m B : Nat} {w w' : World} (h : Below m w w') : BelowX m B w w' := ⟨h.size, fun k hk _ => h.block k hk⟩
theorem BelowX.cell {m B : Nat} {w w' : World} (h : BelowX m B w w') {p : Addr} {v : Value} (hp : p.block < m) (hn : p.block ≠ B) (hc : w.cell? p = some v) : w'.cell? p = some v := (World.cell?_of_block (w := w) (h.2 p.block hp hn)).trans hc
theorem belowX_b {m B : Nat} {w : World} (hm : m ≤ w.heap.size) (W : World) (l : Nat) (o o' : Obj) (hl : w.heap.size ≤ l) (h : W.heap[l]? = some o) (_ : o.isCells = false) (_ : o.isWalk = false) : BelowX m B W (W.putObj l o') :=
  .of ((Below.refl m W).grown (grownBy_putObj' W l o') (by have := (Array.getElem?_eq_some_iff.1 h).1; omega) (fun k e => by cases e; omega))
theorem appendedX {W w1 : World} {m B : Nat} {t e : TypeId} {size : Nat} {v v' : Value} {k k' : Nat} {xs ys : List Value} {tmp : Obj}
    (hv : Boxed W B t v) (hte : t ≠ e) (hrow : W.ownsRow m e size v k xs) (hm : m ≤ W.heap.size) (hown' : w1.ownsRow m e size v' k' ys) (hgrow : (W.alloc tmp).grownBy w1 v.ownBlock) :
    Boxed w1 B t v ∧ Boxed (w1.setCell ⟨B, 0, none⟩ v') B t v' ∧ (w1.setCell ⟨B, 0, none⟩ v').ownsRow m e size v' k' ys ∧ KeepsOthers W (w1.setCell ⟨B, 0, none⟩ v') ∧ BelowX m B W (w1.setCell ⟨B, 0, none⟩ v') := by
  have hv1 : Boxed w1 B t v := (hv.alloc tmp).kept hgrow (hv.not_row hte hrow)
  refine ⟨hv1, hv1.set v', hown'.kept (grownBy_setCell' w1 B v') (.inr (hv1.not_row hte hown').symm), ?_, ?_⟩
  · refine ((KeepsOthers.alloc W tmp).trans (KeepsOthers.of_grownBy hgrow fun j o ej hj => ?_)).trans (KeepsOthers.setCell _ _ _)
    rcases (hrow.alloc tmp).2 with ⟨rfl, _⟩ | ⟨g, cap, cur, rfl, _, hgb, _⟩
    · simp [Value.ownBlock] at ej
    · obtain rfl : g = j := by simpa [Value.ownBlock] using ej
      rw [hgb] at hj; cases hj; rfl
  · refine ⟨?_, fun j hj hne => ?_⟩
    · have h1 := hgrow.size
      simp only [World.size_alloc] at h1
      simp only [World.size_setCell]
      omega
    · rw [Below.heap_setCell _ _ _ _ hne, hgrow.block j (by simp; omega) (fun e' => by have := (hrow.lt j e'.symm).1; omega)]
      exact Below.heap_alloc _ _ _ (by omega)

theorem prefix_take {α : Type} {pre dl : List α} {x : α} {n : Int} (hp : pre ++ [x] <+: dl) (h1 : pre = [] ∨ (pre.length : Int) ≤ n) (h2 : n ≤ (pre.length : Int)) : dl.take n.toNat = pre := by
  obtain ⟨t, rfl⟩ := hp
  have e : n.toNat = pre.length := by
    rcases h1 with rfl | h1
    · simp at h2 ⊢; omega
    · omega
  rw [e, List.append_assoc, List.take_left']
  rfl

theorem rangeL_more (l : List (Int × Int)) (s n : Int) (k : Nat) (hk : k < l.length) :
    rangeL (l.take (k + 1)) s n = if 0 ≤ s ∧ s ≤ (k : Int) ∧ ((rangeL (l.take k) s n).length : Int) < n then rangeL (l.take k) s n ++ [l.getD k (0, 0)] else rangeL (l.take k) s n := by
  unfold rangeL fromL
  by_cases hs : s < 0
  · rw [if_pos hs, if_pos hs, if_neg (by omega)]
  · obtain ⟨m, rfl⟩ := Int.eq_ofNat_of_zero_le (Int.not_lt.1 hs)
    rw [if_neg hs, if_neg hs]
    simp only [Int.toNat_natCast]
    by_cases hm : m ≤ k
    · have hx : l.getD k (0, 0) = l[k] := by simp [hk]
      have e : (l.take (k + 1)).drop m = (l.take k).drop m ++ [l.getD k (0, 0)] := by
        rw [List.take_succ_eq_append_getElem hk, List.drop_append_of_le_length (by rw [List.length_take]; omega), hx]
      rw [e]
      generalize (l.take k).drop m = A
      by_cases hn : ((A.take n.toNat).length : Int) < n
      · rw [if_pos ⟨by omega, by omega, hn⟩]
        rw [List.length_take] at hn
        rw [List.take_of_length_le (by simp; omega), List.take_of_length_le (by omega)]
      · rw [if_neg (fun h => hn h.2.2)]
        rw [List.length_take] at hn
        rw [List.take_append_of_le_length (by omega)]
    · rw [if_neg (fun h => hm (by omega)), List.drop_of_length_le (by rw [List.length_take]; omega), List.drop_of_length_le (by rw [List.length_take]; omega)]

end Go.Proofs.YtiplklcabcpccaaGreatDoor

/- Part: impl.EdgeTime: its test, the iterator with it, the function; spec.EdgeTime: contracts. -/
namespace Go.Proofs.YtiplklcabcpccaaGreatDoor
open Go.RowKit Go.Shelf
attribute [local go_sem] Oper.semAt_some

def inTime (low high : Int) (x : Int × Int) : Bool := decide (low ≤ x.2) && decide (x.2 ≤ high)

end Go.Proofs.YtiplklcabcpccaaGreatDoor

/- Part: Plain: a list is its first ones and then the others; an ok list's later ones and then the earlier ones. -/
namespace Go.Proofs.YtiplklcabcpccaaGreatDoor

theorem range_both (l : List (Int × Int)) (k : Int) (h : 0 ≤ k) : rangeL l 0 k ++ rangeL l k l.length = l := by
  obtain ⟨n, rfl⟩ := Int.eq_ofNat_of_zero_le h
  have e : rangeL l (n : Int) (l.length : Int) = l.drop n := by
    rw [rangeL, fromL, if_neg (by omega), Int.toNat_natCast, Int.toNat_natCast]
    exact List.take_of_length_le (by simp)
  rw [e, rangeL, fromL, if_neg (by omega), Int.toNat_natCast]
  simp
theorem times_both {l : List (Int × Int)} (h : okL l = true) (k : Int) : l.filter (inTime (k + 1) 1000) ++ l.filter (inTime 0 k) = l := by
  induction l with
  | nil => rfl
  | cons e r ih =>
    rw [okL, Bool.and_eq_true, Bool.and_eq_true] at h
    obtain ⟨⟨h1, h2⟩, h3⟩ := h
    have hr := rightB_iff.1 h1
    have ih := ih h3
    by_cases hk : e.2 ≤ k
    · have hi : inTime 0 k e = true := by simp [inTime]; omega
      have hn : inTime (k + 1) 1000 e = false := by simp [inTime]; omega
      have hnone : r.filter (inTime (k + 1) 1000) = [] := by
        rw [List.filter_eq_nil_iff]
        intro x hx
        have := List.all_eq_true.1 h2 x hx
        simp only [Bool.and_eq_true] at this
        have := aheadB_iff.1 this.1
        simp [inTime]; omega
      rw [hnone, List.nil_append] at ih
      rw [List.filter_cons, List.filter_cons, hi, hn, hnone, ih]
      rfl
    · have hi : inTime 0 k e = false := by simp [inTime]; omega
      have hn : inTime (k + 1) 1000 e = true := by simp [inTime]; omega
      rw [List.filter_cons, List.filter_cons, hi, hn]
      show e :: _ ++ _ = _
      rw [List.cons_append]
      exact congrArg (e :: ·) ih
theorem times_length {l : List (Int × Int)} (h : okL l = true) (k : Int) : (l.filter (inTime 0 k)).length + (l.filter (inTime (k + 1) 1000)).length = l.length := by
  have := congrArg List.length (times_both h k)
  rw [List.length_append] at this
  omega
theorem digits_le (k : Nat) : ∀ u : Nat, u < 10 ^ (k + 1) → Lib.nDigits u ≤ k + 1 := by
  induction k with
  | zero => intro u h; rw [Lib.nDigits_small (by simpa using h)]; omega
  | succ k ih =>
    intro u h
    by_cases hu : u < 10
    · rw [Lib.nDigits_small hu]; omega
    · rw [Lib.nDigits_big hu]
      have := ih (u / 10) (by
        rw [Nat.pow_succ] at h
        exact Nat.div_lt_of_lt_mul (by rw [Nat.mul_comm]; exact h))
      omega
theorem itoa_le (n : Int) (k : Nat) (h0 : 0 ≤ n) (h1 : n.toNat < 10 ^ (k + 1)) : (Lib.itoa n).length ≤ k + 1 := by
  obtain ⟨u, rfl⟩ := Int.eq_ofNat_of_zero_le h0
  rw [Lib.itoa_nonneg, Lib.decDigits_length]
  exact digits_le k u (by simpa using h1)
theorem edge_short {x : Int × Int} (h : rightB x = true) : (edgeT x).length ≤ 6 := by
  have hr := rightB_iff.1 h
  have h1 := itoa_le x.1 0 hr.1 (by simp; omega)
  have h2 := itoa_le x.2 3 hr.2.2.1 (by simp; omega)
  simp [edgeT]
  omega
theorem rights_of_ok {l : List (Int × Int)} (h : okL l = true) : ∀ x ∈ l, rightB x = true := by
  induction l with
  | nil => intro x hx; cases hx
  | cons e r ih =>
    rw [okL, Bool.and_eq_true, Bool.and_eq_true] at h
    intro x hx
    rcases List.mem_cons.1 hx with rfl | hx
    · exact h.1.1
    · exact ih h.2 x hx
theorem tail_short (r : List (Int × Int)) (h : ∀ x ∈ r, (edgeT x).length ≤ 6) : (Lib.joinTail [32] (r.map edgeT)).length ≤ 7 * r.length := by
  induction r with
  | nil => simp [Lib.joinTail]
  | cons e r ih =>
    have h1 := h e (by simp)
    have h2 := ih fun x hx => h x (by simp [hx])
    simp [Lib.joinTail] at h2 ⊢
    omega
theorem text_short {l : List (Int × Int)} (h : okL l = true) : (textL l).length ≤ 2 + 7 * l.length := by
  have hs : ∀ x ∈ l, (edgeT x).length ≤ 6 := fun x hx => edge_short (rights_of_ok h x hx)
  cases l with
  | nil => simp [textL, innerL, Lib.join_nil]
  | cons e r =>
    have h1 := hs e (by simp)
    have h2 := tail_short r fun x hx => hs x (by simp [hx])
    simp [textL, innerL, Lib.join_cons] at h2 ⊢
    omega
end Go.Proofs.YtiplklcabcpccaaGreatDoor

/- Part: The law FnVal: its walk. -/
namespace Go.Proofs.YtiplklcabcpccaaGreatDoor
open Go.RowKit
attribute [local go_sem ↓] Go.wp_at_zero Go.wp_at_succ

theorem valR_ok {k : Int} {s : List UInt8} {n : Int} {l : List (Int × Int)} (h : ValR k s n l true) : okV k n l = true ∧ vTextL k n l = s ∧ WfL l ∧ l.length ≤ 200 ∧ 0 ≤ n ∧ n ≤ 1000000 := by
  rcases h with ⟨hk, rfl, h⟩ | ⟨hk, rfl, h⟩ | ⟨_, _, _, h⟩
  · rcases h with ⟨_, h0, h1, h2⟩ | ⟨h, _⟩
    · exact ⟨by rw [okV_thing hk]; exact decide_eq_true ⟨h0, h1⟩, by rw [vText_num hk, h2], fun i hi => absurd hi (by simp), by simp, h0, h1⟩
    · cases h
  · have hn := readR_length h
    rcases h with ⟨_, h0, h1, h2⟩ | ⟨h, _⟩
    · exact ⟨by rw [okV_kin0 hk, h0], by rw [vText_kin (by omega), h1], wf_ok h0, hn, by omega, by omega⟩
    · cases h
  · cases h
theorem valR_of_ok {k : Int} {n : Int} {l : List (Int × Int)} (h : okV k n l = true) (hl : l.length ≤ 7) : ValR k (vTextL k n l) n l true := by
  have hin : 0 ≤ k ∧ k < 24 := by
    apply Classical.byContradiction
    intro h'
    rw [okV_out h'] at h
    cases h
  by_cases hk : k / 8 = 0
  · have hkd : kindOf k = 0 := by rw [kindOf_in hin.1 hin.2, hk]
    have hn : 0 ≤ n ∧ n ≤ 1000000 := by
      apply Classical.byContradiction
      intro h'
      rw [okV_numNo hin.1 hin.2 hk h'] at h
      cases h
    rw [okV_numD hin.1 hin.2 hk hn.1 hn.2] at h
    have ea : l = [] := List.eq_nil_of_length_eq_zero (by simpa using h)
    subst ea
    exact Or.inl ⟨hkd, rfl, Or.inl ⟨rfl, hn.1, hn.2, vText_num hkd⟩⟩
  · have hkd : 0 < kindOf k := by rw [kindOf_in hin.1 hin.2]; omega
    rw [okV_kin hin.1 hin.2 hk, Bool.and_eq_true] at h
    have en : n = 0 := by simpa using h.1
    subst en
    have hs := text_short h.2
    exact Or.inr (Or.inl ⟨hkd, rfl, Or.inl ⟨rfl, h.2, (vText_kin (by omega)).symm, by rw [vText_kin (by omega)]; omega⟩⟩)

set_option maxRecDepth 100000 in
set_option maxHeartbeats 400000 in
theorem drawValText_any (v : Value) (n : Nat) (w : World) (h : Bs w v n) :
    Calls Tryz.prog 4 #[v] w fun e w' => ∃ (k z : Int) (u : Value) (l : List (Int × Int)), e = .returned (.tuple #[.int .i64 k, .agg #[.int .i64 z, u]]) ∧ Own w' w.heap.size u l ∧ l.length ≤ 7 ∧ BdL l ∧ (-1 ≤ z ∧ z ≤ 1000001) ∧ Below w.heap.size w w' := by
  obtain ⟨ao, cap, hv, _⟩ := id h
  subst hv
  have H := hid h
  clear h
  go_enter Tryz.func4, Tryz.ntmps4
  go_wp2_with fail
  have r0_1 : (w.alloc (.cells #[.int .i64 0, .slice none 0 0] 25)).cell? ⟨w.heap.size, 0, none⟩ = some (.int .i64 0) := by go_cell
  have rf0_1 : (w.alloc (.cells #[.int .i64 0, .slice none 0 0] 25)).frozen? ⟨w.heap.size, 0, none⟩ = false := by (first | go_cell | (simp [World.frozen?, World.alloc]; done) | rfl)
  have r1_1 : (w.alloc (.cells #[.int .i64 0, .slice none 0 0] 25)).cell? ⟨w.heap.size, 1, none⟩ = some (.slice none 0 0) := by go_cell
  have rf1_1 : (w.alloc (.cells #[.int .i64 0, .slice none 0 0] 25)).frozen? ⟨w.heap.size, 1, none⟩ = false := by (first | go_cell | (simp [World.frozen?, World.alloc]; done) | rfl)
  have rl_1 : w.heap.size < (w.alloc (.cells #[.int .i64 0, .slice none 0 0] 25)).heap.size := by first | (simp; done) | (simp; omega)
  have c1 : Below w.heap.size w (w.alloc (.cells #[.int .i64 0, .slice none 0 0] 25)) := by go_grown
  have s1 : (w.alloc (.cells #[.int .i64 0, .slice none 0 0] 25)).heap.size = w.heap.size + 1 := by simp
  generalize (w.alloc (.cells #[.int .i64 0, .slice none 0 0] 25)) = w1 at r0_1 rf0_1 r1_1 rf1_1 rl_1 c1 s1 ⊢
  have qr0_1 := cell_regrown r0_1
  have qr1_1 := cell_regrown r1_1
  refine (drawValOk_any _ n _ (H.out.later c1)).mono ?_
  rintro e w2 ⟨k, z, u, l, rfl, ho, hl, hbd, hz, b2⟩
  obtain ⟨uo, uc, hu, _⟩ := ho.rd
  subst hu
  have HO := hid ho
  have HB := hid hbd
  clear ho hbd
  have d2 : Below w1.heap.size w1 w2 := (Below.trans (by go_grown) (b2.mono (by first | omega | (simp; done) | (simp; omega))))
  have c2 : Below w.heap.size w w2 := c1.trans (d2.mono c1.size)
  have r0_2 : w2.cell? ⟨w.heap.size, 0, none⟩ = some (.int .i64 0) := (by rw [b2.cell (by first | omega | (simp; done) | (simp; omega))]; go_cell)
  have rf0_2 : w2.frozen? ⟨w.heap.size, 0, none⟩ = false := (by rw [b2.frozen (by first | omega | (simp; done) | (simp; omega))]; (first | go_cell | (simp [World.frozen?, World.alloc]; done) | rfl))
  have r1_2 : w2.cell? ⟨w.heap.size, 1, none⟩ = some (.slice none 0 0) := (by rw [b2.cell (by first | omega | (simp; done) | (simp; omega))]; go_cell)
  have rf1_2 : w2.frozen? ⟨w.heap.size, 1, none⟩ = false := (by rw [b2.frozen (by first | omega | (simp; done) | (simp; omega))]; (first | go_cell | (simp [World.frozen?, World.alloc]; done) | rfl))
  have rl_2 : w.heap.size < w2.heap.size := (by have := b2.size; first | omega | (revert this; simp; done) | (revert this; simp; omega))
  clear r0_1 rf0_1 r1_1 rf1_1 rl_1
  clear b2 d2
  have e0 : ((w2.setCell ⟨w.heap.size, 0, none⟩ (.int .i64 z)).setCell ⟨w.heap.size, 1, none⟩ (.slice uo l.length uc)).cell? ⟨w.heap.size, 0, none⟩ = some (.int .i64 z) := by go_cell
  have e1 : ((w2.setCell ⟨w.heap.size, 0, none⟩ (.int .i64 z)).setCell ⟨w.heap.size, 1, none⟩ (.slice uo l.length uc)).cell? ⟨w.heap.size, 1, none⟩ = some (.slice uo l.length uc) := by go_cell
  have HF := hid (((HO.out.apartSet2 (p := ⟨w.heap.size, 0, none⟩) (by show w.heap.size < _; omega) (.int .i64 z)).apartSet2 (p := ⟨w.heap.size, 1, none⟩) (by show w.heap.size < _; omega) (.slice uo l.length uc)).mono (B' := w.heap.size) (by omega))
  have HL := hid ((c2.setCell (p := ⟨w.heap.size, 0, none⟩) (Nat.le_refl _) (.int .i64 z)).setCell (p := ⟨w.heap.size, 1, none⟩) (Nat.le_refl _) (.slice uo l.length uc))
  go_wp2
  refine bodyPost_ret (v := .tuple #[.int .i64 k, .agg #[.int .i64 z, .slice uo l.length uc]]) (by simp [results, Tryz.results4, go_sem, e0, e1]) rfl ⟨_, _, _, _, rfl, HF.out, hl, HB.out, hz, HL.out⟩

set_option maxRecDepth 100000 in
set_option maxHeartbeats 4000000 in
theorem lawFVal_any (v : Value) (n : Nat) (v1 : Value) (m : Nat) (w : World) (h : Bs w v n) (h1 : Bs w v1 m) (hL : Lib4 w) :
    Calls Tryz.prog 3 #[v, v1] w fun e w' => e = .returned (.bool true) ∧ Below w.heap.size w w' := by
  obtain ⟨ao, cap, hv, h0, _⟩ := id h
  subst hv
  obtain ⟨bo, cbp, hv, h2, _⟩ := id h1
  subst hv
  unfold maxLen at h0 h2
  have HL := hid hL
  clear hL
  by_cases hbig : 1048576 < n
  · go_enter Tryz.func3, Tryz.ntmps3
    go_wp2
    all_goals
      go_ret
      exact ⟨rfl, Below.refl _ _⟩
  · by_cases hbig2 : 1048576 < m
    · go_enter Tryz.func3, Tryz.ntmps3
      go_wp2
      go_ret
      exact ⟨rfl, Below.refl _ _⟩
    · go_enter Tryz.func3, Tryz.ntmps3
      go_wp2_with fail
      refine (drawValText_any _ n _ h).mono ?_
      rintro e w1 ⟨k, z, u, l, rfl, o1, hl, hbd, hz, c1⟩
      obtain ⟨uo, uc, hu, _⟩ := o1.rd
      subst hu
      have HO1 := hid o1
      have HBD := hid hbd
      clear o1 hbd
      go_wp2_with fail
      have a0_2 : (w1.alloc (.cells #[.int .i64 z, .slice uo l.length uc] 25)).cell? ⟨w1.heap.size, 0, none⟩ = some (.int .i64 z) := by go_cell
      have a1_2 : (w1.alloc (.cells #[.int .i64 z, .slice uo l.length uc] 25)).cell? ⟨w1.heap.size, 1, none⟩ = some (.slice uo l.length uc) := by go_cell
      have al_2 : w1.heap.size < (w1.alloc (.cells #[.int .i64 z, .slice uo l.length uc] 25)).heap.size := by simp
      have d2 : Below w1.heap.size w1 (w1.alloc (.cells #[.int .i64 z, .slice uo l.length uc] 25)) := by go_grown
      generalize (w1.alloc (.cells #[.int .i64 z, .slice uo l.length uc] 25)) = w2 at a0_2 a1_2 al_2 d2 ⊢
      have c2 : Below w.heap.size w w2 := c1.trans (d2.mono c1.size)
      have HO2 := hid (HO1.out.later d2)
      clear d2 HO1
      refine (implVText_any k z _ l _ HO2.out.rd (by omega) (bd_wf HBD.out) (by omega) (by omega) (HL.out.tab.below c2)).mono ?_
      rintro e w3 ⟨rfl, b3⟩
      have d3 : Below w2.heap.size w2 w3 := (Below.trans (by go_grown) (b3.mono (by first | omega | (simp; done) | (simp; omega))))
      have c3 : Below w.heap.size w w3 := c2.trans (d3.mono c2.size)
      have a0_3 : w3.cell? ⟨w1.heap.size, 0, none⟩ = some (.int .i64 z) := (by rw [b3.cell (by first | omega | (simp; done) | (simp; omega))]; go_cell)
      have a1_3 : w3.cell? ⟨w1.heap.size, 1, none⟩ = some (.slice uo l.length uc) := (by rw [b3.cell (by first | omega | (simp; done) | (simp; omega))]; go_cell)
      have al_3 : w1.heap.size < w3.heap.size := (by have := b3.size; first | omega | (revert this; simp; done) | (revert this; simp; omega))
      clear a0_2 a1_2 al_2
      have HO3 := hid (HO2.out.later d3)
      clear b3 d3 HO2
      obtain ⟨tx, htx⟩ : ∃ s : ByteArray, s = ⟨(vTextL k z l).toArray⟩ := ⟨_, rfl⟩
      have htl : tx.data.toList = vTextL k z l := by rw [htx]
      have hts : tx.size ≤ 1048576 := by
        have h1 : tx.size = (vTextL k z l).length := by rw [htx]; rfl
        have := vtext_len (k := k) HBD.out hz hl
        omega
      rw [← htx]
      have HTX := hid htx
      have HTL := hid htl
      clear htx htl
      go_wp2_with fail
      refine (implVRead_any k tx _ hts (HL.out.below c3)).mono ?_
      rintro e w4 ⟨⟨n', vg, l', b', rfl, og, hgR⟩, b4⟩
      have d4 : Below w3.heap.size w3 w4 := (Below.trans (by go_grown) (b4.mono (by first | omega | (simp; done) | (simp; omega))))
      have c4 : Below w.heap.size w w4 := c3.trans (d4.mono c3.size)
      have a0_4 : w4.cell? ⟨w1.heap.size, 0, none⟩ = some (.int .i64 z) := (by rw [b4.cell (by first | omega | (simp; done) | (simp; omega))]; go_cell)
      have a1_4 : w4.cell? ⟨w1.heap.size, 1, none⟩ = some (.slice uo l.length uc) := (by rw [b4.cell (by first | omega | (simp; done) | (simp; omega))]; go_cell)
      have al_4 : w1.heap.size < w4.heap.size := (by have := b4.size; first | omega | (revert this; simp; done) | (revert this; simp; omega))
      clear a0_3 a1_3 al_3
      have HO4 := hid (HO3.out.later d4)
      have HG4 := hid og
      have HGR := hid hgR
      obtain ⟨go, gc, hgv, _⟩ := og.rd
      subst hgv
      clear b4 d4 HO3 og hgR
      go_wp2_with fail
      have x0_5 : (w4.alloc (.cells #[.int .i64 n', .slice go l'.length gc] 25)).cell? ⟨w4.heap.size, 0, none⟩ = some (.int .i64 n') := by go_cell
      have x1_5 : (w4.alloc (.cells #[.int .i64 n', .slice go l'.length gc] 25)).cell? ⟨w4.heap.size, 1, none⟩ = some (.slice go l'.length gc) := by go_cell
      have xl_5 : w4.heap.size < (w4.alloc (.cells #[.int .i64 n', .slice go l'.length gc] 25)).heap.size := by simp
      have d5 : Below w4.heap.size w4 (w4.alloc (.cells #[.int .i64 n', .slice go l'.length gc] 25)) := by go_grown
      generalize (w4.alloc (.cells #[.int .i64 n', .slice go l'.length gc] 25)) = w5 at x0_5 x1_5 xl_5 d5 ⊢
      have c5 : Below w.heap.size w w5 := c4.trans (d5.mono c4.size)
      have a0_5 : w5.cell? ⟨w1.heap.size, 0, none⟩ = some (.int .i64 z) := (by rw [d5.cell (by first | omega | (simp; done) | (simp; omega))]; go_cell)
      have a1_5 : w5.cell? ⟨w1.heap.size, 1, none⟩ = some (.slice uo l.length uc) := (by rw [d5.cell (by first | omega | (simp; done) | (simp; omega))]; go_cell)
      have al_5 : w1.heap.size < w5.heap.size := (by have := d5.size; omega)
      clear a0_4 a1_4 al_4
      have HO5 := hid (HO4.out.later d5)
      have HG5 := hid (HG4.out.later d5)
      clear d5 HO4 HG4
      have hzb : -9223372036854775808 ≤ z ∧ z ≤ 9223372036854775807 := by omega
      have CT := fun (W : World) (h : Rd W (.slice uo l.length uc) l) => specVText_any k z _ l W h (by omega) (bd_wf HBD.out) hzb.1 hzb.2
      rw [← HTX.out] at CT
      have CA := fun (W : World) (h : Rd W (.slice uo l.length uc) l) => implOkV_any k z _ l W h
      have CS := fun (W : World) (h : Rd W (.slice uo l.length uc) l) => specOkV_any k z _ l W h
      have r0 := cell_regrown a0_5
      have r1 := cell_regrown a1_5
      have r2 := cell_regrown x0_5
      have r3 := cell_regrown x1_5
      cases hok : okV k z l
      case' true =>
        obtain ⟨e1, e2, e3⟩ := ValR.unique (HTL.out ▸ valR_of_ok hok hl) HGR.out
        subst e3
        subst e1
        subst e2
        have CV := fun (W : World) (h : Rd W (.slice go l.length gc) l) (h1 : Rd W (.slice uo l.length uc) l) => implVSame_any z z _ _ l l W h h1
        rw [eqV_refl] at CV
        rw [hok] at CA CS
        refine wp_region_quiet_below (by kernel_rfl) (by kernel_rfl) ?_
        repeat (first | go_big_quiet_skip | (go_big_quiet_want; go_big_quiet_op; first | go_big_quiet_on | go_big_quiet_call (first | (go_at_call 7; exact Calls.regrown_of (CT _ (HO5.out.rd.later (below_regrown _ _ _)))) | (go_at_call 8; exact Calls.regrown_of (CA _ (HO5.out.rd.later (below_regrown _ _ _)))) | (go_at_call 9; exact Calls.regrown_of (CS _ (HO5.out.rd.later (below_regrown _ _ _)))) | (go_at_call 10; exact Calls.regrown_of (CV _ (HG5.out.rd.later (below_regrown _ _ _)) (HO5.out.rd.later (below_regrown _ _ _)))))))
        refine wpQuiet_nil ?_
        rintro wq ⟨pq, hwq⟩
        have hq : Below w5.heap.size w5 wq := by rw [hwq]; exact below_regrown _ _ _
        clear hwq pq
      case' false =>
        rw [hok] at CA CS
        refine wp_region_quiet_below (by kernel_rfl) (by kernel_rfl) ?_
        repeat (first | go_big_quiet_skip | (go_big_quiet_want; go_big_quiet_op; first | go_big_quiet_on | go_big_quiet_call (first | (go_at_call 7; exact Calls.regrown_of (CT _ (HO5.out.rd.later (below_regrown _ _ _)))) | (go_at_call 8; exact Calls.regrown_of (CA _ (HO5.out.rd.later (below_regrown _ _ _)))) | (go_at_call 9; exact Calls.regrown_of (CS _ (HO5.out.rd.later (below_regrown _ _ _)))))))
        refine wpQuiet_nil ?_
        rintro wq ⟨pq, hwq⟩
        have hq : Below w5.heap.size w5 wq := by rw [hwq]; exact below_regrown _ _ _
        clear hwq pq
      all_goals
        clear r0 r1 r2 r3 CT CA CS
        have c9 := c5.trans (hq.mono c5.size)
        generalize wq = w9 at *
        clear hq HO5 HG5 a0_5 a1_5 al_5 x0_5 x1_5 xl_5
        go_wp2_with fail
        refine (drawValRead_any _ m _ (h1.later c9)).mono ?_
        rintro e w10 ⟨k2, ty, rfl, hty, b10⟩
        have c10 := c9.trans (b10.mono c9.size)
        go_wp2_with fail
        refine (implVRead_any k2 ty _ (by omega) (HL.out.below c10)).mono ?_
        rintro e w11 ⟨⟨n2, vy, ly, bb, rfl, oy, hR⟩, b11⟩
        have c11 := c10.trans (b11.mono c10.size)
        have HY11 := hid oy
        have HRY := hid hR
        obtain ⟨yo, yc, hyv, _⟩ := oy.rd
        subst hyv
        clear b10 b11 oy hR c9
        go_wp2_with fail
        have y0_12 : (w11.alloc (.cells #[.int .i64 n2, .slice yo ly.length yc] 25)).cell? ⟨w11.heap.size, 0, none⟩ = some (.int .i64 n2) := by go_cell
        have y1_12 : (w11.alloc (.cells #[.int .i64 n2, .slice yo ly.length yc] 25)).cell? ⟨w11.heap.size, 1, none⟩ = some (.slice yo ly.length yc) := by go_cell
        have yl_12 : w11.heap.size < (w11.alloc (.cells #[.int .i64 n2, .slice yo ly.length yc] 25)).heap.size := by simp
        have d12 : Below w11.heap.size w11 (w11.alloc (.cells #[.int .i64 n2, .slice yo ly.length yc] 25)) := by go_grown
        generalize (w11.alloc (.cells #[.int .i64 n2, .slice yo ly.length yc] 25)) = w12 at y0_12 y1_12 yl_12 d12 ⊢
        have c12 : Below w.heap.size w w12 := c11.trans (d12.mono c11.size)
        have HY12 := hid (HY11.out.later d12)
        clear d12 HY11
        refine (specVRead_any k2 ty _ (by omega)).mono ?_
        rintro e w13 ⟨⟨n3, vt, lt, bt, rfl, hvt, hR, _⟩, b13⟩
        obtain ⟨-, -, rfl⟩ := ValR.unique HRY.out hR
        obtain ⟨to', tc, hv, _⟩ := hvt
        subst hv
        have d13 : Below w12.heap.size w12 w13 := (Below.trans (by go_grown) (b13.mono (by first | omega | (simp; done) | (simp; omega))))
        have c13 : Below w.heap.size w w13 := c12.trans (d13.mono c12.size)
        have y0_13 : w13.cell? ⟨w11.heap.size, 0, none⟩ = some (.int .i64 n2) := (by rw [b13.cell (by first | omega | (simp; done) | (simp; omega))]; go_cell)
        have y1_13 : w13.cell? ⟨w11.heap.size, 1, none⟩ = some (.slice yo ly.length yc) := (by rw [b13.cell (by first | omega | (simp; done) | (simp; omega))]; go_cell)
        have yl_13 : w11.heap.size < w13.heap.size := (by have := b13.size; first | omega | (revert this; simp; done) | (revert this; simp; omega))
        clear y0_12 y1_12 yl_12
        have HY13 := hid (HY12.out.later d13)
        clear b13 d13 HY12 hR
        cases bb
        case false =>
          go_wp2
          go_ret
          exact ⟨by simp, c13.trans ((show Below w13.heap.size w13 _ from by go_grown).mono c13.size)⟩
        case true =>
          obtain ⟨hoy, hty2, hwy, hly, hn0, hn1⟩ := valR_ok HRY.out
          have hty3 : (⟨(vTextL k2 n2 ly).toArray⟩ : ByteArray) = ty := by rw [hty2]
          have HTY := hid hty3
          clear hty2 hty3
          go_wp2_with fail
          have t0_14 : (w13.alloc (.cells #[.int .i64 n3, .slice to' lt.length tc] 25)).cell? ⟨w13.heap.size, 0, none⟩ = some (.int .i64 n3) := by go_cell
          have t1_14 : (w13.alloc (.cells #[.int .i64 n3, .slice to' lt.length tc] 25)).cell? ⟨w13.heap.size, 1, none⟩ = some (.slice to' lt.length tc) := by go_cell
          have tl_14 : w13.heap.size < (w13.alloc (.cells #[.int .i64 n3, .slice to' lt.length tc] 25)).heap.size := by simp
          have d14 : Below w13.heap.size w13 (w13.alloc (.cells #[.int .i64 n3, .slice to' lt.length tc] 25)) := by go_grown
          generalize (w13.alloc (.cells #[.int .i64 n3, .slice to' lt.length tc] 25)) = w14 at t0_14 t1_14 tl_14 d14 ⊢
          have c14 : Below w.heap.size w w14 := c13.trans (d14.mono c13.size)
          have y0_14 : w14.cell? ⟨w11.heap.size, 0, none⟩ = some (.int .i64 n2) := (by rw [d14.cell (by first | omega | (simp; done) | (simp; omega))]; go_cell)
          have y1_14 : w14.cell? ⟨w11.heap.size, 1, none⟩ = some (.slice yo ly.length yc) := (by rw [d14.cell (by first | omega | (simp; done) | (simp; omega))]; go_cell)
          have yl_14 : w11.heap.size < w14.heap.size := (by have := d14.size; omega)
          clear y0_13 y1_13 yl_13
          have HY14 := hid (HY13.out.later d14)
          clear d14 HY13
          refine (implOkV_any k2 n2 _ ly _ HY14.out.rd).mono ?_
          rintro e w15 ⟨rfl, b15⟩
          rw [hoy]
          have d15 : Below w14.heap.size w14 w15 := (Below.trans (by go_grown) (b15.mono (by first | omega | (simp; done) | (simp; omega))))
          have c15 : Below w.heap.size w w15 := c14.trans (d15.mono c14.size)
          have y0_15 : w15.cell? ⟨w11.heap.size, 0, none⟩ = some (.int .i64 n2) := (by rw [b15.cell (by first | omega | (simp; done) | (simp; omega))]; go_cell)
          have y1_15 : w15.cell? ⟨w11.heap.size, 1, none⟩ = some (.slice yo ly.length yc) := (by rw [b15.cell (by first | omega | (simp; done) | (simp; omega))]; go_cell)
          have yl_15 : w11.heap.size < w15.heap.size := (by have := b15.size; first | omega | (revert this; simp; done) | (revert this; simp; omega))
          clear y0_14 y1_14 yl_14
          have HY15 := hid (HY14.out.later d15)
          clear b15 d15 HY14
          go_wp2_with fail
          refine (implVText_any k2 n2 _ ly _ HY15.out.rd (by omega) hwy (by omega) (by omega) (HL.out.tab.below c15)).mono ?_
          rintro e w16 ⟨rfl, b16⟩
          rw [HTY.out]
          have c16 := c15.trans (b16.mono c15.size)
          clear b16
          go_wp2
          go_ret
          exact ⟨by simp, c16⟩
end Go.Proofs.YtiplklcabcpccaaGreatDoor

/- Part: What a row gives a walk: the laid variables and the world's shape together; the number and the errors that the library reads. -/
namespace Go.Proofs.YtiplklcabcpccaaGreatDoor
open Go.RowKit

/-- The frame of a row, at a condition X of the first world, its shape besides. -/
theorem handed_both {H : Type} {enc : TypeId × Value → H} {C : Checked} {os : Os} {f : FuncId} {fn : Func} {s : ChangeSpec} {conds : List PathCond} {apart fresh handsOn again : Bool} {X : World → Array Value → Prop}
    (hX : ∀ (w w' : World) (args : Array Value), w.heap = w'.heap → X w args → X w' args)
    (own : ownKnob C.prog.godebug = none) (started : os.Started) (noInit : C.prog.inits.idxOf? f = none) (hfn : C.prog.funcs[f]? = some fn)
    (witness : ∃ (w : World) (tape : Tape) (i : Input), w.os = os ∧ (w.forCall tape i).Shaped C.prog ∧ i.vars = [] ∧ Input.okWide C.prog (w.forCall tape i) .any w.heap.size f i ∧
      ((s.pre enc C.prog fn conds apart (w.forCall tape i).memory i.args ∧ X (w.forCall tape i).memory i.args) ∧ sizedMet enc C.prog fn (OpenSpec.ofChange s) apart (w.forCall tape i).memory i.args) ∧ ({} : Assume).holds C.prog (lone (Frame.enter C.prog f i.args .normal) [] (w.forCall tape i)))
    (contract : ∀ (W : World) (base : Nat) (args : Array Value) (ds gs : List (DataW H)) (before : List MemPlace),
      (∀ (j : Nat) t v, fn.params[j]? = some t → args[j]? = some v → Value.okWide C.prog W .any base t v) →
      DataW.Whole enc C.prog fn.params.toList s.vars apart W args.toList ds gs before → X W args → W.ShapedOpen C.prog →
      Calls C.prog f args W fun e W' => ∃ v, e = .returned v ∧ s.post enc C.prog fn apart fresh handsOn again W args v W') :
    ReturnsInHanded {} C os f .any (fun w args => (s.pre enc C.prog fn conds apart w args ∧ X w args) ∧ sizedMet enc C.prog fn (OpenSpec.ofChange s) apart w args) (s.post enc C.prog fn apart fresh handsOn again) := by
  refine returnsInHanded_of_calls own started noInit witness fun w tape i _ hshape _ hok ⟨⟨⟨ds, gs, before, hw, _⟩, hx⟩, _⟩ _ => ?_
  obtain ⟨_, _, _, fn', hfn', _, _, _, _, hval⟩ := hok
  obtain rfl : fn' = fn := Option.some.inj (hfn'.symm.trans hfn)
  refine (contract (w.forCall tape i) w.heap.size i.args ds gs before hval (hw.of_heap (by rfl)) (hX _ _ _ (by rfl) hx) hshape).mono ?_
  rintro e W' ⟨v, rfl, hp⟩
  exact ChangeSpec.post_blind hp

theorem max_of_shape {W : World} (h : W.ShapedOpen Tryz.prog) : MaxVar W :=
  cell_of_shapedOpen_int (g := 3) (t := 3) (zero := #[.int .i64 0]) h (of_decide_eq_true (by kernel_rfl)) (by kernel_rfl) rfl (by kernel_rfl) (by kernel_rfl) Tryz.underlying3

theorem Tryz.star : "*" ++ "errors.errorString" = "*errors.errorString" := by decide
theorem Tryz.rowErr (u : TypeId) (h : Tryz.prog.typeName? 3 u = some "*errors.errorString") : u = 134 :=
  typeName_ptr_named (nm := "errors.errorString") (by rw [Tryz.star]; kernel_rfl) (by kernel_rfl) (by decide) u (by rw [Tryz.star]; exact h)
theorem err_of_head {n : String} {g : Nat} {text : List UInt8} {r : List (String × DataW Unit)} {W : World} (hg : Tryz.prog.globalNamed n = some g) (ht : (Tryz.prog.globals[g]?).map (·.type) = some 64)
    (h : laidMet Tryz.prog ((n, .iface "*errors.errorString" (.ptr (.agg [.lit (.string text)]))) :: r) W) : ∃ tp p, W.var? Tryz.prog n = some #[.iface tp p] := by
  obtain ⟨a, s, hv, _⟩ := laid_sentinel h hg ht Tryz.underlying64 Tryz.rowErr Tryz.underlying134 Tryz.underlying136 rfl rfl Tryz.underlying9 (by kernel_rfl) (by kernel_rfl)
  exact ⟨_, _, hv⟩
end Go.Proofs.YtiplklcabcpccaaGreatDoor

/- Part: What every row here asks of the program: two closed facts. -/
namespace Go.Proofs.YtiplklcabcpccaaGreatDoor
open Go.ChangeShapes Go.WideShapes Go.ChangeAt Go.RowKit
theorem Tryz.own : ownKnob Tryz.prog.godebug = none := by kernel_rfl
theorem Tryz.laidOut : laidOutB Tryz.prog = true := by kernel_rfl
end Go.Proofs.YtiplklcabcpccaaGreatDoor

/- Part: An argument that is a slice of bytes. -/
namespace Go.Proofs.YtiplklcabcpccaaGreatDoor
open Go.ChangeShapes Go.WideShapes Go.ChangeAt Go.RowKit Go.Deep

theorem Tryz.cells5 : Tryz.prog.cellsOf 5 = 1 := by kernel_rfl

set_option maxRecDepth 100000 in
theorem by_of {H : Type} {enc : TypeId × Value → H} {W : World} {base : Nat} {v : Value} {d : DataW H} {p : List MemPlace} (hv : Value.okWide Tryz.prog W .any base 22 v)
    (h : DataW.Trod enc Tryz.prog W 0 (fun _ => true) true 22 v d p) (hlt : ∀ x ∈ p, x.block < W.heap.size) : ∃ n, Bs W v n := by
  obtain ⟨a0, len, cap, rfl⟩ := okWide_slice Tryz.underlying22 hv
  obtain ⟨fuel, hf⟩ := h
  rcases open_ints Tryz.underlying22 Tryz.underlying5 Tryz.cells5 hf with ⟨hcs, _⟩ | ⟨a, len', cap', zs, hcs, hh, hl, hm, hz, hx, hcell, hwz⟩
  · simp [Value.cells] at hcs
    obtain ⟨rfl, rfl, rfl⟩ := hcs
    exact ⟨0, none, 0, rfl, Nat.zero_le _, Nat.le_refl _, Nat.zero_le _, fun h0 => absurd h0 (Nat.lt_irrefl 0)⟩
  · simp [Value.cells] at hcs
    obtain ⟨rfl, rfl, rfl⟩ := hcs
    simp only [if_true] at hz
    refine ⟨len, some a, cap, rfl, Nat.le_trans hl hm, hl, hm, fun h0 => ?_⟩
    obtain ⟨b, off, spot⟩ := a
    have hs : spot = none := by
      have := hcell 0 (by omega)
      simpa [Addr.add] using World.cell?_spot this
    subst hs
    refine ⟨b, off, rfl, ?_, fun i hi => ?_⟩
    · simp only [Prod.mk.injEq] at hx
      exact hlt (.cell b off) (by rw [hx.2]; exact MemPlace.mem_row.2 ⟨0, by omega, by simp⟩)
    · have hc := hcell i (by omega)
      rw [add_plain] at hc
      have hw := bounds_u8 (hwz (zs.getD i 0) (by rw [List.getD_eq_getElem?_getD, List.getElem?_eq_getElem (by omega)]; exact List.getElem_mem _))
      exact ⟨_, hc, hw.1, by omega⟩
end Go.Proofs.YtiplklcabcpccaaGreatDoor

/- Part: Proved here: FnVal returns true for every two slices of bytes (no condition on them; the library's tables and errors hold what start-up lays: the card ties them); what it was handed reads as before. -/
namespace Go.Proofs.YtiplklcabcpccaaGreatDoor
open Go.ChangeShapes Go.WideShapes Go.ChangeAt Go.RowKit

/-- The door's own heap meets the condition. -/
theorem door_met (os : Os) (args : Array Value) : laidMetH Tryz.prog Rows.fnValRow.laid ((World.laidAll Tryz.prog os Rows.fnValRow.laid).forCall (fun _ _ => 0) ⟨#[], args, []⟩).memory := by
  rw [MakeChecks.laidMetH_plain _ _ _ (by kernel_rfl)]; exact laidMet_laidAll _ (by kernel_rfl) (by kernel_rfl)
theorem tab_of_laid {W : World} (h : laidMetH Tryz.prog Rows.fnValRow.laid W) : Tab W := by
  rw [MakeChecks.laidMetH_plain _ _ _ (by kernel_rfl)] at h
  exact Lib.tabIs_of_head (g := 2) (by kernel_rfl) (by kernel_rfl) Tryz.underlying125 Tryz.underlying108 (by kernel_rfl) (by kernel_rfl) h.tail.tail

theorem lib_of {W : World} (h : laidMetH Tryz.prog Rows.fnValRow.laid W) (hS : W.ShapedOpen Tryz.prog) : Lib4 W := by
  have hT := tab_of_laid h
  rw [MakeChecks.laidMetH_plain _ _ _ (by kernel_rfl)] at h
  exact ⟨hT, ⟨err_of_head (g := 0) (by kernel_rfl) (by kernel_rfl) h.tail.tail.tail.tail.tail, err_of_head (g := 1) (by kernel_rfl) (by kernel_rfl) h.tail.tail.tail.tail⟩, max_of_shape hS⟩

set_option maxRecDepth 100000 in
theorem fVal_lifted (os : Os) (started : os.Started) (H : Type) (enc : TypeId × Value → H) :
    ReturnsInHanded {} Tryz.checked os 3 .any (fun w args => (Rows.fnValSpec.pre enc Tryz.prog Tryz.f3 Rows.fnValRow.domain false w args ∧ laidMetH Tryz.prog Rows.fnValRow.laid w) ∧ sizedMet enc Tryz.prog Tryz.f3 (OpenSpec.ofChange Rows.fnValSpec) false w args) (Rows.fnValSpec.post enc Tryz.prog Tryz.f3 false true false false) := by
  refine handed_both (C := Tryz.checked) (X := fun w _ => laidMetH Tryz.prog Rows.fnValRow.laid w) (fun _ _ _ hh h => h.of_heap hh) Tryz.own started (by kernel_rfl) Tryz.func3
    (ChangeSpec.witness_shaped (enc := enc) (C := Tryz.checked) (os := os) (X := fun w _ => laidMetH Tryz.prog Rows.fnValRow.laid w) false (World.laidAll Tryz.prog os Rows.fnValRow.laid) #[.slice none 0 0, .slice none 0 0] 8 (World.laidAll_os _ _ _) (World.shaped_of_ZipB (by kernel_rfl) (by kernel_rfl)) (by kernel_rfl) (by kernel_rfl) (by kernel_rfl) (door_met os _)) ?_
  intro W base args ds gs before hval0 hW hL hS
  have htab := lib_of hL hS
  have hval : ∀ (j : Nat) t v, Tryz.f3.params[j]? = some t → args[j]? = some v → Value.okWide Tryz.prog W .any base t v := hval0
  have hW' := hW
  obtain ⟨p, q, hA0, hV, rfl, _, _⟩ := hW
  have hA : DataW.TrodAll enc Tryz.prog W 0 (fun _ => true) true Tryz.f3.params.toList args.toList ds p := hA0
  rw [Tryz.params3] at hA hval
  obtain ⟨v0, v1, d0, d1, p0, p1, rfl, rfl, rfl, h0, h1⟩ := trodAll_two hA
  obtain ⟨rfl, rfl⟩ := trodVars_none hV
  clear hA0 hval0
  simp only [List.append_nil] at hW'
  have hlt0 : ∀ x ∈ p0, x.block < W.heap.size := fun x hx => by have := hW'.lt x (by first | exact hx | (simp; first | exact hx | exact Or.inl hx | exact Or.inr hx | exact Or.inr (Or.inl hx))); exact this
  obtain ⟨l0, hl0⟩ := by_of (hval 0 22 v0 rfl rfl) h0 hlt0
  have hargs0 : ∀ (W' : World), Below W.heap.size W W' → DataW.Trod enc Tryz.prog W' 0 (fun b => decide (b < W.heap.size)) true 22 v0 d0 p0 :=
    fun W' hn => Below.trod Tryz.laidOut (by kernel_rfl) (of_decide_eq_true (by kernel_rfl)) h0 hn hlt0
  have hlt1 : ∀ x ∈ p1, x.block < W.heap.size := fun x hx => by have := hW'.lt x (by first | exact hx | (simp; first | exact hx | exact Or.inl hx | exact Or.inr hx | exact Or.inr (Or.inl hx))); exact this
  obtain ⟨l1, hl1⟩ := by_of (hval 1 22 v1 rfl rfl) h1 hlt1
  have hargs1 : ∀ (W' : World), Below W.heap.size W W' → DataW.Trod enc Tryz.prog W' 0 (fun b => decide (b < W.heap.size)) true 22 v1 d1 p1 :=
    fun W' hn => Below.trod Tryz.laidOut (by kernel_rfl) (of_decide_eq_true (by kernel_rfl)) h1 hn hlt1
  refine (lawFVal_any v0 l0 v1 l1 W hl0 hl1 htab).mono fun e W' ⟨he, hnx⟩ => ?_
  subst he
  exact ⟨_, rfl, _, _, _, [], p0 ++ (p1), [], hW', trodAll_mk1 (shut_bool Tryz.underlying4 _), trodAll_mk2 (hargs0 _ hnx) (hargs1 _ hnx), rfl, hnx.frame _, fun h => by cases h⟩

theorem fVal_holds : Rows.FnValSaid :=
  OpenClaim.holds_of_wide 3 Tryz.f3 rfl rfl rfl rfl rfl rfl rfl ⟨rfl, rfl, rfl, rfl, rfl⟩ rfl rfl rfl rfl rfl (by kernel_rfl) Tryz.func3 (by kernel_rfl)
    (of_decide_eq_true (by kernel_rfl)) (by unfold Func.isWrapper; first | (rw [if_pos (by decide +kernel)]; kernel_rfl) | (rw [if_neg (by decide +kernel)]; exact ⟨rfl, rfl⟩))
    (fun os started H enc _ => fVal_lifted os started H enc)
#print axioms fVal_holds
theorem fVal_card : Rows.FnValCardSaid :=
  Claim7.holds_tied_plain_at .later [] [.data, .data, .data, .data, .sentinel, .sentinel, .pinned] true (true, "9fa90e18410247ba41e0252ba3039681dd5840e62135162689fc02fe602c8942") true
    fVal_holds (fun _ h => by cases h) (by kernel_rfl) (fun _ h => by cases h) fnVal_row_tie rfl ⟨rfl, rfl⟩ (by kernel_rfl) rfl
    (fun f fn hf hfn => by
      obtain rfl : f = 3 := Option.some.inj ((show Tryz.prog.funcNamed "loop.example/kith/laws.FnVal" = some 3 by kernel_rfl).symm.trans hf) |>.symm
      obtain rfl : fn = Tryz.f3 := (Option.some.inj (Tryz.func3.symm.trans hfn)).symm
      exact ⟨by kernel_rfl, fun j t ht => by
        rw [Tryz.params3] at ht
        have hm : t ∈ [22, 22] := by simpa using Array.mem_of_getElem? ht
        have hall : ([22, 22].all fun u => !Tryz.prog.wantsStandIn u) = true := by kernel_rfl
        exact (show Tryz.prog.wantsStandIn t = false by simpa using List.all_eq_true.1 hall t hm)⟩)
    (by kernel_rfl)
#print axioms fVal_card

end Go.Proofs.YtiplklcabcpccaaGreatDoor
