/- l15Num: contract. -/
import Derived.Test.YtdjonplcgmfmgaaGreatDoorNu
namespace Go.Proofs.YtdjonplcgmfmgaaGreatDoor
open Go.RowKit Go.Shelf

theorem digits_take {l : List UInt8} (h : digits l) (k : Nat) : digits (l.take k) := by
  intro j hj
  rw [List.getElem_take]
  exact h j (by rw [List.length_take] at hj; omega)
theorem pow_le {k m : Nat} (h : k ≤ m) : (10 : Int) ^ k ≤ 10 ^ m := by
  have : (10 : Nat) ^ k ≤ 10 ^ m := Nat.pow_le_pow_right (by decide) h
  exact_mod_cast this
theorem pow16 : (10 : Int) ^ 16 = 10000000000000000 := by decide
theorem pow17 : (10 : Int) ^ 17 = 100000000000000000 := by decide

/-- What is read of digits. -/
def NumP (l : List UInt8) (neg : Bool) (e : Ending) : Prop := ∃ n b, e = .returned (.tuple #[.int .i64 n, .bool b]) ∧ (b = true → digits l ∧ n = if neg then - valL l else valL l) ∧ (digits l → b = true) ∧ -100000000000000000 < n ∧ n < 100000000000000000

set_option maxHeartbeats 2000000 in
theorem numPos_any (s : ByteArray) (w : World) (h0 : 0 < s.size) (h1 : s.size ≤ 17) (hm : ¬ (s[0].toNat : Int) = 45) (hz : (s[0].toNat : Int) = 48 → s.size = 1) :
    Calls Tryz.prog 40 #[.string s] w fun e w' => NumP s.data.toList false e ∧ w' = w := by
  have hlen : s.data.toList.length = s.size := rfl
  have g0 : ((s.size : Int) == 0) = false := beq_eq_false_iff_ne.mpr (by omega)
  have g1 : decide (17 < (s.size : Int)) = false := decide_eq_false (by omega)
  go_enter Tryz.func40, Tryz.ntmps40
  rcases Classical.em ((s[0].toNat : Int) = 48) with hz0 | hz0
  case' inl =>
    have g3 : decide (1 < (s.size : Int)) = false := by have := hz hz0; exact decide_eq_false (by omega)
    clear hz
    go_wp2
  case' inr =>
    have g3 : ((s[0].toNat : Int) == 48) = false := beq_eq_false_iff_ne.mpr hz0
    clear hz
    go_wp2
  all_goals
    go_loop [5, 6] (fun a i => ∃ (k : Nat) (v : Int), k ≤ s.size ∧ i = .int .i64 k ∧ a = .int .i64 v ∧ Hid (v = valL (s.data.toList.take k)) ∧ Hid (digits (s.data.toList.take k)) ∧ 0 ≤ v ∧ Hid (v < 10 ^ k)) (fun _ i => s.size - (intOf i).toNat)
    case atStart => exact ⟨0, 0, Nat.zero_le _, rfl, rfl, hidT rfl, hidT (fun j hj => absurd hj (by simp)), by decide, hidT (by decide)⟩
    case round =>
      obtain ⟨k, v, hk, rfl, rfl, hv, hd, hv0, hvk⟩ := hrel
      by_cases hlt : k < s.size
      · have hvb : v < 10000000000000000 := by have := hvk.out; have := pow_le (k := k) (m := 16) (by omega); have := pow16; omega
        by_cases hc0 : (s[k].toNat : Int) < 48
        · have HF : Hid (¬ digits s.data.toList) := hidT (fun h => by have := h k hlt; have e : (s.data.toList[k].toNat : Int) = (s[k].toNat : Int) := rfl; omega)
          clear hv hd hvk
          go_wp2
          go_ret2
          exact ⟨⟨_, _, rfl, fun h => absurd h (by decide), fun h => absurd h HF.out, by decide, by decide⟩, rfl⟩
        · by_cases hc1 : 57 < (s[k].toNat : Int)
          · have HF : Hid (¬ digits s.data.toList) := hidT (fun h => by have := h k hlt; have e : (s.data.toList[k].toNat : Int) = (s[k].toNat : Int) := rfl; omega)
            clear hv hd hvk
            go_wp2
            go_ret2
            exact ⟨⟨_, _, rfl, fun h => absurd h (by decide), fun h => absurd h HF.out, by decide, by decide⟩, rfl⟩
          · have hts := take_snoc s k hlt
            have H1 : Hid (v * 10 + ((s[k].toNat : Int) - 48) = valL (s.data.toList.take (k + 1))) := hidT (by rw [hts, valL_snoc, ← hv.out])
            have H2 : Hid (digits (s.data.toList.take (k + 1))) := hidT (by rw [hts]; exact digits_snoc hd.out (by omega) (by omega))
            have H3 : Hid (v * 10 + ((s[k].toNat : Int) - 48) < 10 ^ (k + 1)) := hidT (by have := hvk.out; rw [Int.pow_succ]; omega)
            clear hv hd hvk hts
            go_wp2
            go_round
            case rel => exact ⟨k + 1, v * 10 + ((s[k].toNat : Int) - 48), by omega, by go_num, by go_num, H1, H2, by omega, H3⟩
            case measure => simp [intOf]; omega
      · obtain rfl : k = s.size := by omega
        have hvb : v < 100000000000000000 := by have := hvk.out; have := pow_le (k := s.size) (m := 17) (by omega); have := pow17; omega
        have HF : Hid (v = valL s.data.toList) := hidT (by rw [hv.out, ← hlen, List.take_length])
        have HD : Hid (digits s.data.toList) := hidT (by have h := hd.out; rwa [← hlen, List.take_length] at h)
        clear hv hd hvk
        go_wp2
        go_ret2
        exact ⟨⟨_, _, rfl, fun _ => ⟨HD.out, HF.out⟩, fun _ => rfl, by omega, by omega⟩, rfl⟩
end Go.Proofs.YtdjonplcgmfmgaaGreatDoor
