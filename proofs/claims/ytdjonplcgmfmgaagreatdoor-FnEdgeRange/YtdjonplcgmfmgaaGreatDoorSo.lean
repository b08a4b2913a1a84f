/- The reader's of (one of several texts): contract; how long a drawn list's text is. -/
import Derived.Test.YtdjonplcgmfmgaaGreatDoorLl
import Derived.Test.YtdjonplcgmfmgaaGreatDoorTt
namespace Go.Proofs.YtdjonplcgmfmgaaGreatDoor
open Go.RowKit Go.Shelf

/-- Block b holds m texts of which P is so. -/
def Strs (w : World) (b m : Nat) (P : ByteArray → Prop) : Prop := b < w.heap.size ∧ ∀ i, i < m → ∃ z, w.cell? ⟨b, i, none⟩ = some (.string z) ∧ P z

set_option maxHeartbeats 1000000 in
theorem of_any (g p b m cap : Nat) (B : Nat) (P : ByteArray → Prop) (w : World) (h : Rdr w B g p) (hp : p ≤ 1000000000000) (hm : 0 < m) (hm1 : m ≤ 1000) (hne : b ≠ g) (hl : Strs w b m P) :
    Calls Tryz.prog 37 #[.pointer (some ⟨g, 0, none⟩), .slice (some ⟨b, 0, none⟩) m cap] w fun e w' => ∃ z : ByteArray, e = .returned (.string z) ∧ P z ∧ Rdr w' B g (p + 1) ∧ w.grownBy w' (some g) := by
  go_enter Tryz.func37, Tryz.ntmps37
  go_wp2_with fail
  refine (pick_any g p m B _ h hp (by omega)).mono ?_
  rintro e w1 ⟨r, rfl, r0, r1, R1, g1⟩
  have r2 := r1 (by omega)
  obtain ⟨k, rfl⟩ : ∃ k : Nat, r = (k : Int) := ⟨r.toNat, by omega⟩
  have hk : k < m := by omega
  obtain ⟨z, hz, hP⟩ := hl.2 k hk
  have hz1 := g1.cell hz (fun e => hne (Option.some.inj e))
  clear r1 hl
  go_wp2
  go_ret
  exact ⟨z, by simp, hP, R1, g1⟩

theorem join_len (ys : List (List UInt8)) (h : ∀ y ∈ ys, y.length ≤ 43) : (Lib.join ys [32]).length ≤ 44 * ys.length := by
  cases ys with
  | nil => simp [Lib.join_nil]
  | cons x r =>
    rw [Lib.join_cons]
    have hx := h x (by simp)
    have : ∀ r : List (List UInt8), (∀ y ∈ r, y.length ≤ 43) → (Lib.joinTail [32] r).length ≤ 44 * r.length := by
      intro r
      induction r with
      | nil => intro _; simp [Lib.joinTail]
      | cons y r ih =>
        intro hr
        have hy := hr y (by simp)
        have hi := ih fun z hz => hr z (by simp [hz])
        simp [Lib.joinTail]
        simp [Lib.joinTail] at hi
        omega
    have h2 := this r fun y hy => h y (by simp [hy])
    simp only [List.length_append, List.length_cons]
    omega
theorem edgeT_len (x : Int × Int) (h1 : -9223372036854775808 ≤ x.1 ∧ x.1 ≤ 9223372036854775807) (h2 : -9223372036854775808 ≤ x.2 ∧ x.2 ≤ 9223372036854775807) : (edgeT x).length ≤ 43 := by
  have a := Lib.itoa_length_le x.1 h1.1 h1.2
  have b := Lib.itoa_length_le x.2 h2.1 h2.2
  simp [edgeT]; omega
theorem bd_wf {l : List (Int × Int)} (h : BdL l) : WfL l := fun i hi => by
  have := h.at hi
  omega
theorem text_len {l : List (Int × Int)} (h : BdL l) : (textL l).length ≤ 2 + 44 * l.length := by
  have := join_len (l.map edgeT) (fun y hy => by
    obtain ⟨x, hx, rfl⟩ := List.mem_map.1 hy
    have := h x hx
    exact edgeT_len x (by omega) (by omega))
  rw [List.length_map] at this
  simp [textL, innerL]; omega
end Go.Proofs.YtdjonplcgmfmgaaGreatDoor
