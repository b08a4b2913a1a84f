/- The law's own helpers szVal, toVal, eqVal: contracts. -/
import Derived.Test.YtnenlnadmdlcfaaEq
import Derived.Test.YtnenlnadmdlcfaaTo
namespace Go.Proofs.Ytnenlnadmdlcfaa
open Go.RowKit
attribute [local go_sem ↓] Go.wp_at_zero Go.wp_at_succ

theorem szVal_fits (k : Int) (ao : Option Addr) (n cap : Nat) (left : Int) (hn : (n : Int) ≤ left) (h1 : left ≤ 1048576) (w : World) :
    Calls Try.prog 49 #[.agg #[.int .i64 k, .slice ao n cap], .int .i64 left] w fun e w' => e = .returned (.int .i64 (left - n)) ∧ Below w.heap.size w w' := by
  go_enter Try.func49, Try.ntmps49
  go_wp2_with (first | (go_at_call 65; refine (sz_fits ao n cap left hn h1 _).mono ?_; rintro e w1 ⟨rfl, rfl⟩))
  go_ret
  exact ⟨by simp, by go_grown⟩
theorem szVal_over (k : Int) (ao : Option Addr) (n cap : Nat) (left : Int) (hm : n ≤ maxLen) (hn : left < (n : Int)) (h0 : 0 ≤ left) (h1 : left ≤ 1048576) (w : World) :
    Calls Try.prog 49 #[.agg #[.int .i64 k, .slice ao n cap], .int .i64 left] w fun e w' => e = .returned (.int .i64 (-1)) ∧ Below w.heap.size w w' := by
  go_enter Try.func49, Try.ntmps49
  go_wp2_with (first | (go_at_call 65; refine (sz_over ao n cap left hm hn h0 h1 _).mono ?_; rintro e w1 ⟨rfl, rfl⟩))
  go_ret
  exact ⟨by simp, by go_grown⟩

theorem Own.apartSet {w : World} {B : Nat} {v : Value} {l : List (Int × Int)} {p : Addr} (h : Own w B v l) (hp : p.block < B) (u : Value) : Own (w.setCell p u) B v l := by
  refine ⟨h.1, ?_⟩
  rcases h.2 with hn | ⟨g, cap, cur, rfl, hbg, hgg, rest⟩
  · exact .inl hn
  · exact .inr ⟨g, cap, cur, rfl, hbg, (Below.heap_setCell w p u g (by omega)).trans hgg, rest⟩

set_option maxHeartbeats 1000000 in
theorem toVal_any (n : Int) (v : Value) (l : List (Int × Int)) (w : World) (h : Rd w v l) (hl : l.length ≤ 1048576) :
    Calls Try.prog 51 #[.agg #[.int .i64 n, v]] w fun e w' => ∃ v', e = .returned (.agg #[.int .i64 n, v']) ∧ Own w' w.heap.size v' l ∧ Below w.heap.size w w' := by
  go_enter Try.func51, Try.ntmps51
  go_wp2_with fail
  refine (toEdgeS_any _ l _ (h.later (by go_grown)) hl).mono ?_
  rintro e w2 ⟨v', rfl, ho, b2⟩
  have c0 : w2.cell? ⟨w.heap.size + 2, 0, none⟩ = some (.int .i64 n) := by rw [b2.cell (by simp)]; go_cell
  have c1 : w2.cell? ⟨w.heap.size + 2, 1, none⟩ = some (.slice none 0 0) := by rw [b2.cell (by simp)]; go_cell
  have d0 : w2.cell? ⟨w.heap.size + 1, 0, none⟩ = some (.int .i64 0) := by rw [b2.cell (by simp)]; go_cell
  have d1 : w2.cell? ⟨w.heap.size + 1, 1, none⟩ = some (.slice none 0 0) := by rw [b2.cell (by simp)]; go_cell
  have f0 : w2.frozen? ⟨w.heap.size + 2, 1, none⟩ = false := by rw [b2.frozen (by simp)]; (first | go_cell | (simp [World.frozen?, World.alloc]; done) | rfl)
  have f1 : w2.frozen? ⟨w.heap.size + 1, 0, none⟩ = false := by rw [b2.frozen (by simp)]; (first | go_cell | (simp [World.frozen?, World.alloc]; done) | rfl)
  have f2 : w2.frozen? ⟨w.heap.size + 1, 1, none⟩ = false := by rw [b2.frozen (by simp)]; (first | go_cell | (simp [World.frozen?, World.alloc]; done) | rfl)
  have bb : Below w.heap.size w w2 := (Below.trans (by go_grown) (b2.mono (by first | omega | (simp; done) | (simp; omega))))
  have ho' : Own w2 (w.heap.size + 3) v' l := by simpa using ho
  clear b2 ho
  obtain ⟨ao, cap, hv, _⟩ := ho'.rd
  subst hv
  go_wp2
  have e0 : (((w2.setCell ⟨w.heap.size + 1 + 1, 1, none⟩ (.slice ao l.length cap)).setCell ⟨w.heap.size + 1, 0, none⟩ (.int .i64 n)).setCell ⟨w.heap.size + 1, 1, none⟩ (.slice ao l.length cap)).cell? ⟨w.heap.size + 1, 0, none⟩ = some (.int .i64 n) := by go_cell
  have e1 : (((w2.setCell ⟨w.heap.size + 1 + 1, 1, none⟩ (.slice ao l.length cap)).setCell ⟨w.heap.size + 1, 0, none⟩ (.int .i64 n)).setCell ⟨w.heap.size + 1, 1, none⟩ (.slice ao l.length cap)).cell? ⟨w.heap.size + 1, 1, none⟩ = some (.slice ao l.length cap) := by go_cell
  refine bodyPost_ret (v := .agg #[.int .i64 n, .slice ao l.length cap]) (by simp [results, Try.results51, go_sem, e0, e1]) rfl ⟨_, rfl, ?_, ?_⟩
  · exact (((ho'.apartSet (by simp) _).apartSet (by simp) _).apartSet (by simp) _).mono (by omega)
  · go_grown

set_option maxHeartbeats 1000000 in
theorem eqVal_any (n m : Int) (va vb : Value) (la lb : List (Int × Int)) (w : World) (ha : Rd w va la) (hb : Rd w vb lb) :
    Calls Try.prog 34 #[.agg #[.int .i64 n, va], .agg #[.int .i64 m, vb]] w fun e w' => e = .returned (.bool (n == m && eqL la lb)) ∧ Below w.heap.size w w' := by
  by_cases hn : (n == m) = true
  · have := beq_iff_eq.1 hn
    subst this
    go_enter Try.func34, Try.ntmps34
    go_wp2_with fail
    refine (eqEdgeS_any _ _ la lb _ (ha.later (by go_grown)) (hb.later (by go_grown))).mono ?_
    rintro e w2 ⟨rfl, b2⟩
    have bb : Below w.heap.size w w2 := (Below.trans (by go_grown) (b2.mono (by first | omega | (simp; done) | (simp; omega))))
    go_wp2
    all_goals
      go_ret
      exact ⟨by simp_all, bb⟩
  · have hne : (n != m) = true := by simpa using hn
    go_enter Try.func34, Try.ntmps34
    go_wp2
    go_ret
    exact ⟨by simp [hn], by go_grown⟩
theorem eqVal_self (n : Int) (va vb : Value) (l : List (Int × Int)) (w : World) (ha : Rd w va l) (hb : Rd w vb l) :
    Calls Try.prog 34 #[.agg #[.int .i64 n, va], .agg #[.int .i64 n, vb]] w fun e w' => e = .returned (.bool true) ∧ Below w.heap.size w w' :=
  (eqVal_any n n va vb l l w ha hb).mono fun _ _ ⟨he, hw⟩ => ⟨by rw [he, eqL_refl]; simp, hw⟩
end Go.Proofs.Ytnenlnadmdlcfaa
