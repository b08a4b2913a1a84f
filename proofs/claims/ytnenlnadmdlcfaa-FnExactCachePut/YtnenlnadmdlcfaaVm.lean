/- The law's own helpers markVal, heldVal: contracts. -/
import Derived.Test.YtnenlnadmdlcfaaMark
import Derived.Test.YtnenlnadmdlcfaaVa
namespace Go.Proofs.Ytnenlnadmdlcfaa
open Go.RowKit
attribute [local go_sem ↓] Go.wp_at_zero Go.wp_at_succ

theorem grown_two {w w' w'' : World} {row : Option Nat} (h : w.grownBy w' row) (k : w'.grownBy w'' row) : w.grownBy w'' row :=
  ⟨k.os.trans h.os, k.tape.trans h.tape, k.output.trans h.output, Nat.le_trans h.size k.size, fun i hi hne => (k.block i (Nat.lt_of_lt_of_le hi h.size) hne).trans (h.block i hi hne)⟩

set_option maxHeartbeats 1000000 in
theorem markVal_any (n : Int) (v : Value) (l : List (Int × Int)) (k : Int) (B : Nat) (w : World) (h : Own w B v l) (hk : 0 ≤ k) (hk2 : k ≤ 1099511627776) (hl : l.length ≤ 1099511627776) :
    Calls Try.prog 39 #[.agg #[.int .i64 n, v], .int .i64 k] w fun e w' => e = .returned (.int .i64 (k + 2 * (l.length : Int))) ∧ Own w' B v (markL k l.length) ∧ w.grownBy w' v.ownBlock := by
  have HO := hid (row_later h (show Below w.heap.size w (w.alloc (.cells #[.int .i64 n, v] 29)) from (Below.refl _ w).alloc (Nat.le_refl _) _))
  obtain ⟨ao, cap, hv, _⟩ := h.rd
  subst hv
  clear h
  go_enter Try.func39, Try.ntmps39
  go_wp2_with fail
  refine (mark_any _ l k B _ HO.out hk hk2 hl).mono ?_
  rintro e w1 ⟨rfl, ho, hg⟩
  have HF := hid ho
  have HG := hid (grown_two (World.grownBy_alloc w (.cells #[.int .i64 n, .slice ao l.length cap] 29) (Value.slice ao l.length cap).ownBlock) hg)
  clear ho hg
  go_wp2
  go_ret
  exact ⟨by simp, HF.out, HG.out⟩

set_option maxHeartbeats 1000000 in
theorem heldVal_any (n : Int) (v : Value) (m : Nat) (k : Int) (w : World) (h : Rd w v (markL k m)) (hk : 0 ≤ k) (hk2 : k ≤ 1099511627776) (hl : m ≤ 1099511627776) :
    Calls Try.prog 40 #[.agg #[.int .i64 n, v], .int .i64 k] w fun e w' => e = .returned (.int .i64 (k + 2 * (m : Int))) ∧ Below w.heap.size w w' := by
  have HO := hid (h.later (show Below w.heap.size w (w.alloc (.cells #[.int .i64 n, v] 29)) from (Below.refl _ w).alloc (Nat.le_refl _) _))
  obtain ⟨ao, cap, hv, _⟩ := h
  subst hv
  go_enter Try.func40, Try.ntmps40
  go_wp2_with fail
  refine (held_any _ m k _ HO.out hk hk2 hl).mono ?_
  rintro e w1 ⟨rfl, rfl⟩
  go_wp2
  all_goals first | (exfalso; omega) | (go_ret; exact ⟨by simp, by go_grown⟩)
end Go.Proofs.Ytnenlnadmdlcfaa
