/- The draw of a kind and somebody: contract. -/
import Derived.Test.YtdcendbfkjmfjaaRk
namespace Go.Proofs.Ytdcendbfkjmfjaa
open Go.RowKit

/-- A slice of n bytes. -/
def Bs (w : World) (v : Value) (n : Nat) : Prop := ∃ ao cap, v = .slice ao n cap ∧ n ≤ maxLen ∧ n ≤ cap ∧ cap ≤ maxLen ∧ Byt w w.heap.size ao n
theorem Bs.later {w w' : World} {v : Value} {n : Nat} (h : Bs w v n) (hb : Below w.heap.size w w') : Bs w' v n := by
  obtain ⟨ao, cap, hv, h0, h1, h2, h3⟩ := h
  refine ⟨ao, cap, hv, h0, h1, h2, fun hn => ?_⟩
  obtain ⟨b, off, ha, hlt, hc⟩ := (h3.kept (grownBelowR hb) (fun _ e => by cases e)) hn
  exact ⟨b, off, ha, Nat.lt_of_lt_of_le hlt hb.size, hc⟩

set_option maxHeartbeats 1000000 in
theorem drawKeyMake_any (v : Value) (n : Nat) (w : World) (h : Bs w v n) :
    Calls Try.prog 19 #[v] w fun e w' => ∃ a b : Int, e = .returned (.tuple #[.int .i64 a, .int .i64 b]) ∧ (-1 ≤ a ∧ a ≤ 3 ∧ -1 ≤ b ∧ b ≤ 8) ∧ Below w.heap.size w w' := by
  obtain ⟨ao, cap, rfl, h0, h1, h2, h3⟩ := h
  go_enter Try.func19, Try.ntmps19
  go_wp2_with fail
  refine (open_any ao n cap _ h0 h1 h2 h3).mono ?_
  rintro e w1 ⟨g, rfl, R1, b1⟩
  go_wp2_with fail
  refine (pick_any g 0 5 w.heap.size _ R1 (by omega) (by omega)).mono ?_
  rintro e w2 ⟨a, rfl, ha0, ha1, R2, g2⟩
  have b2 : Below w.heap.size w w2 := b1.grown g2 b1.size (fun k e => by cases e; exact R1.1)
  have ha2 := ha1 (by omega)
  clear ha1
  go_wp2_with fail
  refine (pick_any g 1 10 w.heap.size _ R2 (by omega) (by omega)).mono ?_
  rintro e w3 ⟨b, rfl, hb0, hb1, R3, g3⟩
  have b3 : Below w.heap.size w w3 := b2.grown g3 b2.size (fun k e => by cases e; exact R1.1)
  have hb2 := hb1 (by omega)
  clear hb1
  go_wp2
  go_ret2
  exact ⟨a - 1, b - 1, by simp, by omega, b3⟩
end Go.Proofs.Ytdcendbfkjmfjaa
