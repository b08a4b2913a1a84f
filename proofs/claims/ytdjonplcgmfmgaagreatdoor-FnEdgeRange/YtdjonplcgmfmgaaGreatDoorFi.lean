/- l15Find: contract; bytes of a text. -/
import Derived.Test.YtdjonplcgmfmgaaGreatDoorTx
namespace Go.Proofs.YtdjonplcgmfmgaaGreatDoor
open Go.RowKit Go.Shelf

/-- Where a byte first stands in a list, or -1. -/
def findL (l : List UInt8) (c : UInt8) : Int := match l.findIdx? (· == c) with | some k => k | none => -1

theorem find_at {l : List UInt8} {c : UInt8} {k : Nat} (h : k < l.length) (he : l[k] = c) (hn : ∀ j, (hj : j < k) → l[j]'(by omega) ≠ c) : findL l c = k := by
  have : l.findIdx? (· == c) = some k := by
    rw [List.findIdx?_eq_some_iff_getElem]
    exact ⟨h, by simpa using he, fun j hj => by simpa using hn j hj⟩
  rw [findL, this]
theorem find_none {l : List UInt8} {c : UInt8} (hn : ∀ j, (hj : j < l.length) → l[j] ≠ c) : findL l c = -1 := by
  have : l.findIdx? (· == c) = none := by
    rw [List.findIdx?_eq_none_iff]
    intro x hx
    obtain ⟨j, hj, rfl⟩ := List.getElem_of_mem hx
    simpa using hn j hj
  rw [findL, this]
theorem find_append {a b : List UInt8} {c : UInt8} (h : c ∉ a) : findL (a ++ c :: b) c = a.length := by
  refine find_at (by simp) (by simp) ?_
  intro j hj e
  rw [List.getElem_append_left hj] at e
  exact h (e ▸ List.getElem_mem hj)

theorem u8_ne {a c : UInt8} (h : ¬ (a.toNat : Int) = (c.toNat : Int)) : a ≠ c := fun e => h (by rw [e])
theorem u8_eq {a c : UInt8} (h : (a.toNat : Int) = (c.toNat : Int)) : a = c := UInt8.toNat_inj.mp (by omega)

set_option maxHeartbeats 400000 in
theorem find_any (s : ByteArray) (c : UInt8) (w : World) (hs : s.size ≤ 1048576) :
    Calls Tryz.prog 39 #[.string s, .int .u8 (c.toNat : Int)] w fun e w' => e = .returned (.int .i64 (findL s.data.toList c)) ∧ w' = w := by
  go_enter Tryz.func39, Tryz.ntmps39
  go_wp2
  go_loop [5] (fun i => ∃ k : Nat, k ≤ s.size ∧ i = .int .i64 k ∧ Hid (∀ j, (hj : j < s.data.toList.length) → j < k → s.data.toList[j] ≠ c)) (fun i => s.size - (intOf i).toNat)
  case atStart => exact ⟨0, Nat.zero_le _, rfl, hidT (fun j _ h => absurd h (Nat.not_lt_zero j))⟩
  case round =>
    obtain ⟨k, hk, rfl, hn⟩ := hrel
    by_cases hlt : k < s.size
    · by_cases he : (s[k].toNat : Int) = (c.toNat : Int)
      · have HF : Hid (findL s.data.toList c = k) := hidT (find_at (k := k) hlt (u8_eq he) (fun j hj => hn.out j (by have : s.data.toList.length = s.size := rfl; omega) hj))
        clear hn
        go_wp2
        go_ret
        exact ⟨by rw [HF.out]; rfl, rfl⟩
      · have HN : Hid (∀ j, (hj : j < s.data.toList.length) → j < k + 1 → s.data.toList[j] ≠ c) := hidT (fun j hj h => by
          by_cases e : j = k
          · subst e; exact u8_ne he
          · exact hn.out j hj (by omega))
        clear hn
        go_wp2
        go_round
        case rel => exact ⟨k + 1, by omega, by go_num, HN⟩
        case measure => simp [intOf]; omega
    · have HF : Hid (findL s.data.toList c = -1) := hidT (find_none (fun j hj => hn.out j hj (by have : s.data.toList.length = s.size := rfl; omega)))
      clear hn
      go_wp2
      go_ret
      exact ⟨by rw [HF.out]; rfl, rfl⟩
end Go.Proofs.YtdjonplcgmfmgaaGreatDoor
