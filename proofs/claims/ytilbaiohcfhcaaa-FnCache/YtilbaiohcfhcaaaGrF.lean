/- Contracts and plain facts, several texts in one. -/
import Derived.Test.YtilbaiohcfhcaaaRk
/- Part: The reader's num: contract. -/
namespace Go.Proofs.Ytilbaiohcfhcaaa
open Go.RowKit

theorem grown_trans {a b c : World} {row : Option Nat} (h : a.grownBy b row) (k : b.grownBy c row) : a.grownBy c row :=
  ⟨k.os.trans h.os, k.tape.trans h.tape, k.output.trans h.output, Nat.le_trans h.size k.size, fun j hj hne => (k.block j (Nat.lt_of_lt_of_le hj h.size) hne).trans (h.block j hj hne)⟩

/-- Block b holds m numbers of which P is so. -/
def Nums (w : World) (b m : Nat) (P : Int → Prop) : Prop := b < w.heap.size ∧ ∀ i, i < m → ∃ z, w.cell? ⟨b, i, none⟩ = some (.int .i64 z) ∧ P z

set_option maxRecDepth 100000 in
set_option maxHeartbeats 1000000 in
theorem num_any (g p b m cap : Nat) (B : Nat) (P : Int → Prop) (w : World) (h : Rdr w B g p) (hp : p ≤ 1000000000000) (hm : 0 < m) (hm1 : m ≤ 1000) (hne : b ≠ g) (hl : Nums w b m P) :
    Calls Try.prog 32 #[.pointer (some ⟨g, 0, none⟩), .slice (some ⟨b, 0, none⟩) m cap] w fun e w' => ∃ z : Int, e = .returned (.int .i64 z) ∧ P z ∧ Rdr w' B g (p + 1) ∧ w.grownBy w' (some g) := by
  go_enter Try.func32, Try.ntmps32
  go_wp2_with fail
  refine (pick_any g p m B _ h hp (by omega)).mono ?_
  rintro e w1 ⟨r, rfl, r0, r1, R1, g1⟩
  have r2 := r1 (by omega)
  obtain ⟨k, rfl⟩ : ∃ k : Nat, r = (k : Int) := ⟨r.toNat, by omega⟩
  have hk : k < m := by omega
  obtain ⟨z, hz, hP⟩ := hl.2 k hk
  have hz1 := g1.cell hz (fun e => hne (Option.some.inj e))
  clear r1 hl
  go_wp2
  go_ret
  exact ⟨z, by simp, hP, R1, g1⟩
end Go.Proofs.Ytilbaiohcfhcaaa

/- Part: The draw of a kind and somebody: contract. -/
namespace Go.Proofs.Ytilbaiohcfhcaaa
open Go.RowKit

/-- A slice of n bytes. -/
def Bs (w : World) (v : Value) (n : Nat) : Prop := ∃ ao cap, v = .slice ao n cap ∧ n ≤ maxLen ∧ n ≤ cap ∧ cap ≤ maxLen ∧ Byt w w.heap.size ao n
theorem Bs.later {w w' : World} {v : Value} {n : Nat} (h : Bs w v n) (hb : Below w.heap.size w w') : Bs w' v n := by
  obtain ⟨ao, cap, hv, h0, h1, h2, h3⟩ := h
  refine ⟨ao, cap, hv, h0, h1, h2, fun hn => ?_⟩
  obtain ⟨b, off, ha, hlt, hc⟩ := (h3.kept (grownBelowR hb) (fun _ e => by cases e)) hn
  exact ⟨b, off, ha, Nat.lt_of_lt_of_le hlt hb.size, hc⟩

end Go.Proofs.Ytilbaiohcfhcaaa

/- Part: The draws of a key: contracts. -/
namespace Go.Proofs.Ytilbaiohcfhcaaa
open Go.RowKit

set_option maxRecDepth 100000 in
set_option maxHeartbeats 1000000 in
theorem l2Key_any (g p B : Nat) (w : World) (h : Rdr w B g p) (hp : p ≤ 100000000000) :
    Calls Try.prog 31 #[.pointer (some ⟨g, 0, none⟩)] w fun e w' => ∃ k : Int, e = .returned (.int .i64 k) ∧ (-1 ≤ k ∧ k ≤ 100) ∧ (∃ q, p ≤ q ∧ q ≤ p + 2 ∧ Rdr w' B g q) ∧ w.grownBy w' (some g) := by
  go_enter Try.func31, Try.ntmps31
  go_wp2_with fail
  refine (pick_any g p 16 B _ h (by omega) (by omega)).mono ?_
  rintro e w1 ⟨r, rfl, r0, r1, R1, g1⟩
  clear r1
  by_cases hr : r = 0
  · subst hr
    go_wp2_with fail
    have hN : Nums (w1.alloc (.cells #[.int .i64 (-1), .int .i64 24, .int .i64 100] 3)) w1.heap.size 3 (fun z => -1 ≤ z ∧ z ≤ 100) := by
      refine ⟨by simp, fun i hi => ?_⟩
      rcases i with _ | _ | _ | i
      · exact ⟨-1, by go_cell, by omega⟩
      · exact ⟨24, by go_cell, by omega⟩
      · exact ⟨100, by go_cell, by omega⟩
      · omega
    have hg1 := R1.2.1
    refine (num_any g (p + 1) w1.heap.size 3 3 B (fun z => -1 ≤ z ∧ z ≤ 100) _ (R1.later (by go_grown)) (by omega) (by omega) (by omega) (by omega) hN).mono ?_
    rintro e w2 ⟨k, rfl, hk, R2, g2⟩
    have g3 := grown_trans g1 (grown_trans (World.grownBy_alloc w1 _ (some g)) g2)
    clear hN g1 g2
    go_wp2
    go_ret
    exact ⟨k, by simp, hk, ⟨p + 2, by omega, by omega, R2⟩, g3⟩
  · have hr' : (r == 0) = false := by simpa using hr
    go_wp2_with fail
    refine (pick_any g (p + 1) 24 B _ R1 (by omega) (by omega)).mono ?_
    rintro e w2 ⟨k, rfl, k0, k1, R2, g2⟩
    have k2 := k1 (by omega)
    clear k1
    go_wp2
    go_ret
    exact ⟨k, by simp, by omega, ⟨p + 2, by omega, by omega, R2⟩, grown_trans g1 g2⟩

end Go.Proofs.Ytilbaiohcfhcaaa
