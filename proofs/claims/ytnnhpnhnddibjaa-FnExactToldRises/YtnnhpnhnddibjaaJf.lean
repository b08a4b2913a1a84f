/- The book of a list of answers: impl.bookOf, ToldOf, ToldLast: contracts. -/
import Derived.Test.YtnnhpnhnddibjaaJe
namespace Go.Proofs.Ytnnhpnhnddibjaa
open Go.RowKit
attribute [local go_sem ↓] Go.wp_at_zero Go.wp_at_succ

theorem addTo_told (L : List KD) (j : Nat) (h : j < L.length) (p0 p1 p2 p3 pc : Int) (bp : Bool) (l : List (Int × Int)) (hx : L.getD j kd0 = told p0 p1 p2 p3 bp pc l) :
    addTo (toldOf (L.take j)) p0 p1 p2 = toldOf (L.take (j + 1)) := by
  funext a b
  rw [toldOf_step L a b j h, hx]
  show (if a = p0 ∧ b = p1 then _ else _) = if p0 = a ∧ p1 = b then _ else _
  by_cases e : a = p0 ∧ b = p1
  · rw [if_pos e, if_pos ⟨e.1.symm, e.2.symm⟩]
    rfl
  · rw [if_neg e, if_neg (fun q => e ⟨q.1.symm, q.2.symm⟩)]
theorem Book.zero (w : World) (B : Nat) (hB : B ≤ w.heap.size) : Book (w.alloc (.map #[] 0)) w.heap.size 0 B (fun _ _ => []) (fun _ _ => .bool false) :=
  ⟨by
    have e : heardOf (fun _ _ => []) (fun _ _ => .bool false) = fun _ => none := by
      funext x
      unfold heardOf
      split <;> simp
    rw [e]
    exact MapF.made _ _, fun _ _ h => absurd rfl h, fun _ _ _ _ h => absurd rfl h, fun _ _ h => absurd rfl h, hB⟩

set_option maxRecDepth 100000 in
set_option maxHeartbeats 4000000 in
theorem bookOf_any (v : Value) (L : List KD) (w : World) (h : RdT w v L) (hL : L.length ≤ 1048576) :
    Calls Try.prog 23 #[v] w fun e w' => ∃ bl us, e = .returned (.map (some bl)) ∧ Book w' bl L.length w.heap.size (toldOf L) us ∧ Below w.heap.size w w' := by
  have HR := hid h
  obtain ⟨ao, cap, rfl, hml, hc⟩ := h
  have hmm := @run_makeMap Try.prog
  go_enter Try.func23, Try.ntmps23
  go_wp2
  go_loopw [9] (fun i wr => ∃ (k : Nat) (us : Int → Int → Value), k ≤ L.length ∧ i = .int .i64 k ∧ Hid (Book wr w.heap.size k w.heap.size (toldOf (L.take k)) us) ∧ Below w.heap.size w wr) (fun i _ => L.length - (intOf i).toNat)
  case atStart => exact ⟨0, _, Nat.zero_le _, rfl, hid (Book.zero w w.heap.size (Nat.le_refl _)), (Below.refl _ w).alloc (Nat.le_refl _) _⟩
  case round =>
    obtain ⟨k, us, hk, rfl, hbk, hbel⟩ := hrel
    by_cases hlt : k < L.length
    · obtain ⟨b, o, rfl, hb, hcc⟩ := hc (by omega)
      obtain ⟨p0, p1, p2, p3, ux, bp, pc, lx, hx, c0, c1, c2, c3, c4, c5, c6, hux⟩ := (hcc k hlt).later hb hbel
      have hst := addTo_told L k hlt p0 p1 p2 p3 pc bp lx hx
      have hle : (toldOf (L.take k) p0 p1).length ≤ 1048576 := by have := toldOf_le (L.take k) p0 p1; rw [List.length_take] at this; omega
      have hsz := hbel.size
      obtain ⟨uo, uc, rfl, _⟩ := hux
      clear hcc hc hx
      go_wp2_with fail
      have hB1 := Below.alloc (Below.refl wr.heap.size wr) (Nat.le_refl _) (.cells #[.int .i64 p0, .int .i64 p1, .int .i64 p2, .int .i64 p3, .slice uo lx.length uc, .bool bp, .int .i64 pc] 50)
      refine (enter_any w.heap.size k w.heap.size _ us p0 p1 p2 p3 pc bp _ _ (hbk.out.later hB1) hle).mono ?_
      rintro e w2 ⟨rfl, us', hbk2, b2⟩
      rw [hst] at hbk2
      have HBK := hid hbk2
      have b3 := (hbel.trans (hB1.mono hsz)).trans b2
      clear hbk hbk2 hst b2 hB1
      go_wp2
      go_roundw
      case rel => exact ⟨k + 1, us', by omega, by go_num, HBK, b3⟩
      case measure => simp [intOf]; omega
    · obtain rfl : k = L.length := by omega
      have HB := hid (show Book wr w.heap.size L.length w.heap.size (toldOf L) us by have := hbk.out; rwa [List.take_length] at this)
      go_wp2
      go_ret
      exact ⟨_, us, rfl, HB.out, hbel⟩

theorem toldOf_own {w w' : World} {bl n : Nat} {L : List KD} {us : Int → Int → Value} (hB : Book w' bl n w.heap.size (toldOf L) us) (t k : Int) : OwnI w' w.heap.size (if toldOf L t k = [] then .slice none 0 0 else us t k) (toldOf L t k) := hB.row t k

set_option maxRecDepth 100000 in
set_option maxHeartbeats 4000000 in
theorem implToldOf_any (v : Value) (L : List KD) (t k : Int) (w : World) (h : RdT w v L) (hL : L.length ≤ 1048576) :
    Calls Try.prog 12 #[v, .int .i64 t, .int .i64 k] w fun e w' => ∃ v', e = .returned v' ∧ OwnI w' w.heap.size v' (toldOf L t k) ∧ Below w.heap.size w w' := by
  have HR := hid h
  obtain ⟨ao, cap, rfl, hml, hc⟩ := h
  clear hc
  go_enter Try.func12, Try.ntmps12
  go_wp2_with fail
  refine (bookOf_any _ L _ HR.out hL).mono ?_
  rintro e w2 ⟨bl, us, rfl, hB, b2⟩
  have hlk := hB.lookup t k
  have hr := hB.row t k
  generalize (if toldOf L t k = [] then Value.slice none 0 0 else us t k) = u0 at hlk hr
  generalize maxOf (toldOf L t k) = m0 at hlk
  have HR2 := hid hr
  have hf : (Instr.field 57 (.agg #[u0, .int .i64 m0]) 0).run Try.prog w2 = .ok u0 w2 := by kernel_rfl
  clear hB hr
  go_wp2
  go_ret
  exact ⟨_, rfl, HR2.out, b2⟩
set_option maxRecDepth 100000 in
set_option maxHeartbeats 4000000 in
theorem implToldLast_any (v : Value) (L : List KD) (t k : Int) (w : World) (h : RdT w v L) (hL : L.length ≤ 1048576) :
    Calls Try.prog 18 #[v, .int .i64 t, .int .i64 k] w fun e w' => e = .returned (.int .i64 (toldLast L t k)) ∧ Below w.heap.size w w' := by
  have HR := hid h
  obtain ⟨ao, cap, rfl, hml, hc⟩ := h
  clear hc
  go_enter Try.func18, Try.ntmps18
  go_wp2_with fail
  refine (bookOf_any _ L _ HR.out hL).mono ?_
  rintro e w2 ⟨bl, us, rfl, hB, b2⟩
  have hlk := hB.lookup t k
  generalize (if toldOf L t k = [] then Value.slice none 0 0 else us t k) = u0 at hlk
  have HM : Hid (toldLast L t k = maxOf (toldOf L t k)) := hid rfl
  generalize maxOf (toldOf L t k) = m0 at hlk HM
  have hf : (Instr.field 57 (.agg #[u0, .int .i64 m0]) 1).run Try.prog w2 = .ok (.int .i64 m0) w2 := by kernel_rfl
  clear hB
  go_wp2
  go_ret
  exact ⟨by simp [HM.out], b2⟩
end Go.Proofs.Ytnnhpnhnddibjaa
