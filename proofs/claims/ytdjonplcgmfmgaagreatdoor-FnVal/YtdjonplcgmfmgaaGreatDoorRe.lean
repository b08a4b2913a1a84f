/- spec.EdgeRead: contract. -/
import Derived.Test.YtdjonplcgmfmgaaGreatDoorRp
import Derived.Test.YtdjonplcgmfmgaaGreatDoorOkS
namespace Go.Proofs.YtdjonplcgmfmgaaGreatDoor
open Go.RowKit Go.Shelf

/-- An answer of EdgeRead. -/
def ReadP (s : List UInt8) (B : Nat) (w : World) (e : Ending) : Prop := ∃ v l b, e = .returned (.tuple #[v, .bool b]) ∧ Rd w v l ∧ ReadR s l b ∧ ∀ k, v.ownBlock = some k → B ≤ k
theorem readP_no {s : List UInt8} {w : World} (B : Nat) (h : ∀ m, okL m = true → textL m = s → 200 < s.length) : ReadP s B w (.returned (.tuple #[.slice none 0 0, .bool false])) :=
  ⟨_, [], false, rfl, Rd.nil w none 0, Or.inr ⟨rfl, rfl, h⟩, fun k hk => by cases hk⟩
theorem text_size {m : List (Int × Int)} {s : ByteArray} (h : textL m = s.data.toList) : s.size = (innerL m).length + 2 := by
  have := congrArg List.length h
  rw [show s.data.toList.length = s.size from rfl] at this
  rw [← this]
  simp [textL]
theorem text_inner {m : List (Int × Int)} {s : ByteArray} (h : textL m = s.data.toList) : (s.extract 1 (s.size - 1)).data.toList = innerL m := by
  rw [piece_eq, text_size h, ← h]
  simp [textL]

theorem specRead_short (s : ByteArray) (w : World) (h : s.size < 2) :
    Calls Tryz.prog 13 #[.string s] w fun e w' => ReadP s.data.toList w.heap.size w' e ∧ Below w.heap.size w w' := by
  have HN : Hid (∀ m, okL m = true → textL m = s.data.toList → 200 < s.data.toList.length) := hidT (fun m _ hm => by have := text_size hm; omega)
  have g0 : decide ((s.size : Int) < 2) = true := decide_eq_true (by omega)
  go_enter Tryz.func13, Tryz.ntmps13
  go_wp2
  go_ret2
  exact ⟨readP_no _ HN.out, Below.refl _ _⟩
theorem specRead_long (s : ByteArray) (w : World) (h : 200 < s.size) (hs : s.size ≤ 1048576) :
    Calls Tryz.prog 13 #[.string s] w fun e w' => ReadP s.data.toList w.heap.size w' e ∧ Below w.heap.size w w' := by
  have HN : Hid (∀ m, okL m = true → textL m = s.data.toList → 200 < s.data.toList.length) := hidT (fun m _ hm => h)
  have g0 : decide ((s.size : Int) < 2) = false := decide_eq_false (by omega)
  have g1 : decide (200 < (s.size : Int)) = true := decide_eq_true (by omega)
  go_enter Tryz.func13, Tryz.ntmps13
  go_wp2
  go_ret2
  exact ⟨readP_no _ HN.out, Below.refl _ _⟩
theorem specRead_first (s : ByteArray) (w : World) (h : 2 ≤ s.size) (hs : s.size ≤ 200) (hc : ¬ (s[0].toNat : Int) = 40) :
    Calls Tryz.prog 13 #[.string s] w fun e w' => ReadP s.data.toList w.heap.size w' e ∧ Below w.heap.size w w' := by
  have HN : Hid (∀ m, okL m = true → textL m = s.data.toList → 200 < s.data.toList.length) := hidT (fun m _ hm => by
    have := head_at (by omega) hm.symm (by simp [textL])
    rw [← this] at hc
    exact absurd rfl hc)
  have g0 : decide ((s.size : Int) < 2) = false := decide_eq_false (by omega)
  have g1 : decide (200 < (s.size : Int)) = false := decide_eq_false (by omega)
  have g2 : ((s[0].toNat : Int) == 40) = false := beq_eq_false_iff_ne.mpr hc
  go_enter Tryz.func13, Tryz.ntmps13
  go_wp2
  all_goals (go_ret2; exact ⟨readP_no _ HN.out, Below.refl _ _⟩)
theorem specRead_last (s : ByteArray) (w : World) (h : 2 ≤ s.size) (hs : s.size ≤ 200) (hc : (s[0].toNat : Int) = 40) (hd : ¬ (s[s.size - 1].toNat : Int) = 41) :
    Calls Tryz.prog 13 #[.string s] w fun e w' => ReadP s.data.toList w.heap.size w' e ∧ Below w.heap.size w w' := by
  have HN : Hid (∀ m, okL m = true → textL m = s.data.toList → 200 < s.data.toList.length) := hidT (fun m _ hm => by
    have h1 := text_size hm
    have h2 : s.data.toList[s.size - 1]'(by have : s.data.toList.length = s.size := rfl; omega) = 41 := by
      simp only [← hm, textL, h1]
      simp
    have h3 : s.data.toList[s.size - 1]'(by have : s.data.toList.length = s.size := rfl; omega) = s[s.size - 1] := rfl
    rw [← h3, h2] at hd
    exact absurd rfl hd)
  have g0 : decide ((s.size : Int) < 2) = false := decide_eq_false (by omega)
  have g1 : decide (200 < (s.size : Int)) = false := decide_eq_false (by omega)
  have e1 : ((s.size : Int) - 1) = ((s.size - 1 : Nat) : Int) := by omega
  go_enter Tryz.func13, Tryz.ntmps13
  go_wp2
  all_goals (go_ret2; exact ⟨readP_no _ HN.out, Below.refl _ _⟩)
end Go.Proofs.YtdjonplcgmfmgaaGreatDoor
