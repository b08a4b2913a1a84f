/- The reader's num: contract. -/
import Derived.Test.YtdjonplcgmfmgaaGreatDoorRk
namespace Go.Proofs.YtdjonplcgmfmgaaGreatDoor
open Go.RowKit

theorem grown_trans {a b c : World} {row : Option Nat} (h : a.grownBy b row) (k : b.grownBy c row) : a.grownBy c row :=
  ⟨k.os.trans h.os, k.tape.trans h.tape, k.output.trans h.output, Nat.le_trans h.size k.size, fun j hj hne => (k.block j (Nat.lt_of_lt_of_le hj h.size) hne).trans (h.block j hj hne)⟩

/-- Block b holds m numbers of which P is so. -/
def Nums (w : World) (b m : Nat) (P : Int → Prop) : Prop := b < w.heap.size ∧ ∀ i, i < m → ∃ z, w.cell? ⟨b, i, none⟩ = some (.int .i64 z) ∧ P z

set_option maxRecDepth 100000 in
set_option maxHeartbeats 1000000 in
theorem num_any (g p b m cap : Nat) (B : Nat) (P : Int → Prop) (w : World) (h : Rdr w B g p) (hp : p ≤ 1000000000000) (hm : 0 < m) (hm1 : m ≤ 1000) (hne : b ≠ g) (hl : Nums w b m P) :
    Calls Tryz.prog 54 #[.pointer (some ⟨g, 0, none⟩), .slice (some ⟨b, 0, none⟩) m cap] w fun e w' => ∃ z : Int, e = .returned (.int .i64 z) ∧ P z ∧ Rdr w' B g (p + 1) ∧ w.grownBy w' (some g) := by
  go_enter Tryz.func54, Tryz.ntmps54
  go_wp2_with fail
  refine (pick_any g p m B _ h hp (by omega)).mono ?_
  rintro e w1 ⟨r, rfl, r0, r1, R1, g1⟩
  have r2 := r1 (by omega)
  obtain ⟨k, rfl⟩ : ∃ k : Nat, r = (k : Int) := ⟨r.toNat, by omega⟩
  have hk : k < m := by omega
  obtain ⟨z, hz, hP⟩ := hl.2 k hk
  have hz1 := g1.cell hz (fun e => hne (Option.some.inj e))
  clear r1 hl
  go_wp2
  go_ret
  exact ⟨z, by simp, hP, R1, g1⟩
end Go.Proofs.YtdjonplcgmfmgaaGreatDoor
