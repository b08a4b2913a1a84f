/- The law's own helpers markEdgeS and heldEdgeS: contracts. -/
import Derived.Test.YtnenlnadmdlcfaaPl
namespace Go.Proofs.Ytnenlnadmdlcfaa
open Go.RowKit

/-- What markEdgeS leaves in n edges. -/
def markL (k : Int) (n : Nat) : List (Int × Int) := (List.range n).map fun (i : Nat) => (k + 2 * (i : Int), k + 2 * (i : Int) + 1)
theorem markL_length (k : Int) (n : Nat) : (markL k n).length = n := by simp [markL]
theorem markL_get (k : Int) (n i : Nat) (h : i < n) : (markL k n).getD i (0, 0) = (k + 2 * (i : Int), k + 2 * (i : Int) + 1) := by simp [markL, h]

/-- What is owned stays so behind a store into another's row. -/
theorem Own.kept {w w' : World} {B : Nat} {v : Value} {l : List (Int × Int)} {row : Option Nat} (h : Own w B v l) (hg : w.grownBy w' row) (hne : v.ownBlock = none ∨ v.ownBlock ≠ row) : Own w' B v l := World.ownsRow.kept h hg hne
/-- What was made later lies elsewhere. -/
theorem Own.apart {w w0 : World} {B B0 : Nat} {v v0 : Value} {l l0 : List (Int × Int)} (h : Own w B v l) (h0 : Own w0 B0 v0 l0) (hB : w0.heap.size ≤ B) : v.ownBlock = none ∨ v.ownBlock ≠ v0.ownBlock := by
  cases e : v.ownBlock with
  | none => exact .inl rfl
  | some k =>
    refine .inr fun e0 => ?_
    have h1 := (h.block k e).1
    have h2 := (h0.block k (by rw [← e0])).2
    omega
theorem Own.apart' {w w0 : World} {B B0 : Nat} {v v0 : Value} {l l0 : List (Int × Int)} (h : Own w B v l) (h0 : Own w0 B0 v0 l0) (hB : w0.heap.size ≤ B) : v0.ownBlock = none ∨ v0.ownBlock ≠ v.ownBlock := by
  rcases h.apart h0 hB with e | e
  · rw [e]
    cases v0.ownBlock with
    | none => exact .inl rfl
    | some k => exact .inr (by simp)
  · exact .inr (Ne.symm e)
theorem Below.of_grown {B : Nat} {w w' : World} {row : Option Nat} (hg : w.grownBy w' row) (hB : B ≤ w.heap.size) (hr : ∀ k, row = some k → B ≤ k) : Below B w w' := (Below.refl B w).grown hg hB hr

set_option maxHeartbeats 2000000 in
theorem mark_any (v : Value) (l : List (Int × Int)) (k : Int) (B : Nat) (w : World) (h : Own w B v l) (hk : 0 ≤ k) (hk2 : k ≤ 1099511627776) (hl : l.length ≤ 1099511627776) :
    Calls Try.prog 62 #[v, .int .i64 k] w fun e w' => e = .returned (.int .i64 (k + 2 * (l.length : Int))) ∧ Own w' B v (markL k l.length) ∧ w.grownBy w' v.ownBlock := by
  have h0 := h
  rcases h.2 with ⟨rfl, hn⟩ | ⟨g, cap, cur, rfl, hb, hg, hnc, hcm, hcs, htake⟩
  · have : l = [] := List.eq_nil_of_length_eq_zero hn
    subst this
    clear h h0 hn
    go_enter Try.func62, Try.ntmps62
    go_wp2
    go_loop [1, 5] (fun kk i => i = .int .i64 0 ∧ kk = .int .i64 k) (fun _ _ => 0)
    case atStart => exact ⟨rfl, rfl⟩
    case round =>
      obtain ⟨rfl, rfl⟩ := hrel
      go_wp2
      go_ret
      exact ⟨by simp, show World.ownsRow _ _ _ _ _ _ _ from World.ownsRow_nil _ _ _ _, World.grownBy.refl _ _⟩
  · have HO : Hid (w.ownsRow B 62 2 (.slice (some ⟨g, 0, none⟩) l.length cap) l.length (ecells l)) := h0
    clear h h0 hg hcs htake
    go_enter Try.func62, Try.ntmps62
    go_wp2
    go_loopw [1, 5] (fun kk i wr => ∃ (j : Nat) (xs : List Value), j ≤ l.length ∧ i = .int .i64 j ∧ kk = .int .i64 (k + 2 * (j : Int)) ∧ Filled xs (markL k l.length) j ∧
        wr.ownsRow B 62 2 (.slice (some ⟨g, 0, none⟩) l.length cap) l.length xs ∧ w.grownBy wr (some g)) (fun _ i _ => l.length - (intOf i).toNat)
    case atStart => exact ⟨0, _, Nat.zero_le _, rfl, by simp, Filled.zero _ _, HO.out, World.grownBy.refl _ _⟩
    case round =>
      obtain ⟨j, xs, hj, rfl, rfl, hfil, hrow, hgr⟩ := hrel
      by_cases hlt : j < l.length
      · obtain ⟨q0, hq0⟩ := row_cell hrow (j * 2) (by omega)
        obtain ⟨q1, hq1⟩ := row_cell hrow (j * 2 + 1) (by omega)
        have f0 := hrow.frozenAt (j * 2)
        have f1 := hrow.frozenAt (j * 2 + 1)
        have hstep := hfil.step (by rw [markL_length]; exact hlt) (by rw [markL_length]; exact hrow.1)
        rw [markL_get k _ j hlt] at hstep
        have hgr2 : w.grownBy ((wr.setCell ⟨g, j * 2, none⟩ (.int .i64 (k + 2 * (j : Int)))).setCell ⟨g, j * 2 + 1, none⟩ (.int .i64 (k + 2 * (j : Int) + 1))) (some g) := by
          refine ⟨hgr.os, hgr.tape, hgr.output, by simpa using hgr.size, fun b hb hne => ?_⟩
          rw [Below.heap_setCell _ _ _ _ (fun e => hne (by simp [e])), Below.heap_setCell _ _ _ _ (fun e => hne (by simp [e]))]
          exact hgr.block b hb hne
        have HS := hid hstep
        have HG := hid hgr2
        have HR := hid (row_two hrow (j * 2) (.int .i64 (k + 2 * (j : Int))) (.int .i64 (k + 2 * (j : Int) + 1)))
        clear hfil hrow hgr hstep hgr2
        go_wp2
        go_roundw
        case rel => exact ⟨j + 1, _, by omega, by go_num, by go_num, HS.out, HR.out, HG.out⟩
        case measure => simp [intOf]; omega
      · have hjl : j = l.length := by omega
        subst hjl
        have hx : xs = ecells (markL k l.length) := Filled.all (l := markL k l.length) (by rw [markL_length]; exact hfil) (by rw [markL_length]; exact hrow.1)
        subst hx
        go_wp2
        go_ret
        refine ⟨by simp, ?_, hgr⟩
        show World.ownsRow _ _ _ _ _ _ _
        rw [markL_length]
        exact hrow
      
set_option maxHeartbeats 2000000 in
theorem held_any (v : Value) (n : Nat) (k : Int) (w : World) (h : Rd w v (markL k n)) (hk : 0 ≤ k) (hk2 : k ≤ 1099511627776) (hl : n ≤ 1099511627776) :
    Calls Try.prog 63 #[v, .int .i64 k] w fun e w' => e = .returned (.int .i64 (k + 2 * (n : Int))) ∧ w' = w := by
  obtain ⟨ao, cap, rfl, _, hc⟩ := h
  rw [markL_length] at hc ⊢
  go_enter Try.func63, Try.ntmps63
  go_wp2
  go_loop [1, 5] (fun kk i => ∃ j : Nat, j ≤ n ∧ i = .int .i64 j ∧ kk = .int .i64 (k + 2 * (j : Int))) (fun _ i => n - (intOf i).toNat)
  case atStart => exact ⟨0, Nat.zero_le _, rfl, by simp⟩
  case round =>
    obtain ⟨j, hj, rfl, rfl⟩ := hrel
    by_cases hlt : j < n
    · obtain ⟨b, o, rfl, hb, hcc⟩ := hc (by omega)
      obtain ⟨c0, c1⟩ := hcc j hlt
      rw [markL_get k n j hlt] at c0 c1
      clear hcc hc
      go_wp2
      go_round
      case rel => exact ⟨j + 1, by omega, by go_num, by go_num⟩
      case measure => simp [intOf]; omega
    · obtain rfl : j = n := by omega
      go_wp2
      go_ret
      exact ⟨by simp, rfl⟩
end Go.Proofs.Ytnenlnadmdlcfaa
