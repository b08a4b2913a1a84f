/- The draws of a write and of what a key has: contracts. -/
import Derived.Test.YtkmhnjgncnoddaaGreatLo
import Derived.Test.YtkmhnjgncnoddaaGreatPb
import Derived.Test.YtkmhnjgncnoddaaGreatOz
import Derived.Test.YtkmhnjgncnoddaaGreatLawOOther
import Derived.Deep.Cut
namespace Go.Proofs.YtkmhnjgncnoddaaGreat
open Go.RowKit
attribute [local go_sem ↓] Go.wp_at_zero Go.wp_at_succ

/-- A write's variable in block b. -/
structure V4 (wr : World) (b : Nat) (k a c n : Int) : Prop where
  c0 : wr.cell? ⟨b, 0, none⟩ = some (.int .i64 k)
  c1 : wr.cell? ⟨b, 1, none⟩ = some (.int .i64 a)
  c2 : wr.cell? ⟨b, 2, none⟩ = some (.int .i64 c)
  c3 : wr.cell? ⟨b, 3, none⟩ = some (.int .i64 n)
  fr : ∀ o, wr.frozen? ⟨b, o, none⟩ = false
  lt : b < wr.heap.size
theorem V4.kept {wr w' : World} {b g : Nat} {k a c n : Int} (h : V4 wr b k a c n) (hg : wr.grownBy w' (some g)) (hne : b ≠ g) : V4 w' b k a c n :=
  ⟨hg.cell h.c0 (fun e => hne (Option.some.inj e)), hg.cell h.c1 (fun e => hne (Option.some.inj e)), hg.cell h.c2 (fun e => hne (Option.some.inj e)), hg.cell h.c3 (fun e => hne (Option.some.inj e)),
    fun o => (hg.frozen_far ⟨b, o, none⟩ h.lt (fun e => hne (Option.some.inj e))).trans (h.fr o), Nat.lt_of_lt_of_le h.lt hg.size⟩
theorem V4.below {wr w' : World} {b : Nat} {k a c n : Int} (h : V4 wr b k a c n) (hb : Below wr.heap.size wr w') : V4 w' b k a c n :=
  ⟨(hb.cell (p := ⟨b, 0, none⟩) h.lt).trans h.c0, (hb.cell (p := ⟨b, 1, none⟩) h.lt).trans h.c1, (hb.cell (p := ⟨b, 2, none⟩) h.lt).trans h.c2, (hb.cell (p := ⟨b, 3, none⟩) h.lt).trans h.c3,
    fun o => (hb.frozen (p := ⟨b, o, none⟩) h.lt).trans (h.fr o), Nat.lt_of_lt_of_le h.lt hb.size⟩
theorem V4.new (w : World) (k a c n : Int) : V4 (w.alloc (.cells #[.int .i64 k, .int .i64 a, .int .i64 c, .int .i64 n] 27)) w.heap.size k a c n :=
  ⟨by go_cell, by go_cell, by go_cell, by go_cell, fun o => by (first | go_cell | (simp [World.frozen?, World.alloc]; done) | rfl), by simp⟩

theorem max_any (a b : Int) (w : World) : Calls Tryz.prog 81 #[.int .i64 a, .int .i64 b] w fun e w' => e = .returned (.int .i64 (if a > b then a else b)) ∧ w' = w := by
  go_enter Tryz.func81, Tryz.ntmps81
  by_cases h : a > b
  · rw [if_pos h]
    go_wp2
    go_ret
    exact ⟨by simp, rfl⟩
  · rw [if_neg h]
    go_wp2
    go_ret
    exact ⟨by simp, rfl⟩

theorem max_some (a b : Int) (w : World) : Calls Tryz.prog 81 #[.int .i64 a, .int .i64 b] w fun e w' => ∃ m : Int, e = .returned (.int .i64 m) ∧ w' = w :=
  (max_any a b w).mono fun _ _ ⟨he, hw⟩ => ⟨_, he, hw⟩



end Go.Proofs.YtkmhnjgncnoddaaGreat
