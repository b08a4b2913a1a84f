/- l15Num: contract, the ways that refuse. -/
import Derived.Test.YtdjonplcgmfmgaaGreatDoorNv
namespace Go.Proofs.YtdjonplcgmfmgaaGreatDoor
open Go.RowKit Go.Shelf

def NumNo (e : Ending) : Prop := e = .returned (.tuple #[.int .i64 0, .bool false])

theorem numNone_any (s : ByteArray) (w : World) (h0 : s.size = 0) :
    Calls Tryz.prog 40 #[.string s] w fun e w' => NumNo e ∧ w' = w := by
  go_enter Tryz.func40, Tryz.ntmps40
  go_wp2
  go_ret2
  exact ⟨rfl, rfl⟩
theorem numLong_any (s : ByteArray) (w : World) (h0 : 17 < s.size) (h1 : s.size ≤ 1048576) (hm : ¬ (s[0].toNat : Int) = 45) :
    Calls Tryz.prog 40 #[.string s] w fun e w' => NumNo e ∧ w' = w := by
  have g0 : ((s.size : Int) == 0) = false := beq_eq_false_iff_ne.mpr (by omega)
  have g1 : decide (17 < (s.size : Int)) = true := decide_eq_true (by omega)
  go_enter Tryz.func40, Tryz.ntmps40
  go_wp2
  go_ret2
  exact ⟨rfl, rfl⟩
theorem numZero_any (s : ByteArray) (w : World) (h0 : 1 < s.size) (h1 : s.size ≤ 17) (hz : (s[0].toNat : Int) = 48) :
    Calls Tryz.prog 40 #[.string s] w fun e w' => NumNo e ∧ w' = w := by
  have g0 : ((s.size : Int) == 0) = false := beq_eq_false_iff_ne.mpr (by omega)
  have g1 : decide (17 < (s.size : Int)) = false := decide_eq_false (by omega)
  have g2 : decide (1 < (s.size : Int)) = true := decide_eq_true (by omega)
  go_enter Tryz.func40, Tryz.ntmps40
  go_wp2
  go_ret2
  exact ⟨rfl, rfl⟩
theorem numMinus_any (s t : ByteArray) (w : World) (h0 : 0 < s.size) (h1 : s.size ≤ 1048576) (hm : (s[0].toNat : Int) = 45) (he : s.extract 1 s.size = t) (ht : t.size = 0) :
    Calls Tryz.prog 40 #[.string s] w fun e w' => NumNo e ∧ w' = w := by
  have g0 : ((t.size : Int) == 0) = true := by simp [ht]
  go_enter Tryz.func40, Tryz.ntmps40
  go_wp2
  go_ret2
  exact ⟨rfl, rfl⟩
theorem numMinusLong_any (s t : ByteArray) (w : World) (h0 : 0 < s.size) (h1 : s.size ≤ 1048576) (hm : (s[0].toNat : Int) = 45) (he : s.extract 1 s.size = t) (ht : 17 < t.size) (ht1 : t.size ≤ 1048576) :
    Calls Tryz.prog 40 #[.string s] w fun e w' => NumNo e ∧ w' = w := by
  have g0 : ((t.size : Int) == 0) = false := beq_eq_false_iff_ne.mpr (by omega)
  have g1 : decide (17 < (t.size : Int)) = true := decide_eq_true (by omega)
  go_enter Tryz.func40, Tryz.ntmps40
  go_wp2
  go_ret2
  exact ⟨rfl, rfl⟩
theorem numMinusZero_any (s t : ByteArray) (w : World) (h0 : 0 < s.size) (h1 : s.size ≤ 1048576) (hm : (s[0].toNat : Int) = 45) (he : s.extract 1 s.size = t) (ht : 0 < t.size) (ht1 : t.size ≤ 17) (hz : (t[0].toNat : Int) = 48) :
    Calls Tryz.prog 40 #[.string s] w fun e w' => NumNo e ∧ w' = w := by
  have g0 : ((t.size : Int) == 0) = false := beq_eq_false_iff_ne.mpr (by omega)
  have g1 : decide (17 < (t.size : Int)) = false := decide_eq_false (by omega)
  go_enter Tryz.func40, Tryz.ntmps40
  go_wp2
  all_goals (go_ret2; exact ⟨rfl, rfl⟩)
set_option maxHeartbeats 2000000 in
theorem numNeg_any (s t : ByteArray) (w : World) (h0 : 0 < s.size) (h1 : s.size ≤ 1048576) (hm : (s[0].toNat : Int) = 45) (he : s.extract 1 s.size = t) (ht : 0 < t.size) (ht1 : t.size ≤ 17) (hz0 : ¬ (t[0].toNat : Int) = 48) :
    Calls Tryz.prog 40 #[.string s] w fun e w' => NumP t.data.toList true e ∧ w' = w := by
  have hlen : t.data.toList.length = t.size := rfl
  have g0 : ((t.size : Int) == 0) = false := beq_eq_false_iff_ne.mpr (by omega)
  have g1 : decide (17 < (t.size : Int)) = false := decide_eq_false (by omega)
  have g3 : ((t[0].toNat : Int) == 48) = false := beq_eq_false_iff_ne.mpr hz0
  go_enter Tryz.func40, Tryz.ntmps40
  go_wp2
  go_loop [5, 6] (fun a i => ∃ (k : Nat) (v : Int), k ≤ t.size ∧ i = .int .i64 k ∧ a = .int .i64 v ∧ Hid (v = valL (t.data.toList.take k)) ∧ Hid (digits (t.data.toList.take k)) ∧ 0 ≤ v ∧ Hid (v < 10 ^ k)) (fun _ i => t.size - (intOf i).toNat)
  case atStart => exact ⟨0, 0, Nat.zero_le _, rfl, rfl, hidT rfl, hidT (fun j hj => absurd hj (by simp)), by decide, hidT (by decide)⟩
  case round =>
    obtain ⟨k, v, hk, rfl, rfl, hv, hd, hv0, hvk⟩ := hrel
    by_cases hlt : k < t.size
    · have hvb : v < 10000000000000000 := by have := hvk.out; have := pow_le (k := k) (m := 16) (by omega); have := pow16; omega
      by_cases hc0 : (t[k].toNat : Int) < 48
      · have HF : Hid (¬ digits t.data.toList) := hidT (fun h => by have := h k hlt; have e : (t.data.toList[k].toNat : Int) = (t[k].toNat : Int) := rfl; omega)
        clear hv hd hvk
        go_wp2
        go_ret2
        exact ⟨⟨_, _, rfl, fun h => absurd h (by decide), fun h => absurd h HF.out, by decide, by decide⟩, rfl⟩
      · by_cases hc1 : 57 < (t[k].toNat : Int)
        · have HF : Hid (¬ digits t.data.toList) := hidT (fun h => by have := h k hlt; have e : (t.data.toList[k].toNat : Int) = (t[k].toNat : Int) := rfl; omega)
          clear hv hd hvk
          go_wp2
          go_ret2
          exact ⟨⟨_, _, rfl, fun h => absurd h (by decide), fun h => absurd h HF.out, by decide, by decide⟩, rfl⟩
        · have hts := take_snoc t k hlt
          have H1 : Hid (v * 10 + ((t[k].toNat : Int) - 48) = valL (t.data.toList.take (k + 1))) := hidT (by rw [hts, valL_snoc, ← hv.out])
          have H2 : Hid (digits (t.data.toList.take (k + 1))) := hidT (by rw [hts]; exact digits_snoc hd.out (by omega) (by omega))
          have H3 : Hid (v * 10 + ((t[k].toNat : Int) - 48) < 10 ^ (k + 1)) := hidT (by have := hvk.out; rw [Int.pow_succ]; omega)
          clear hv hd hvk hts
          go_wp2
          go_round
          case rel => exact ⟨k + 1, v * 10 + ((t[k].toNat : Int) - 48), by omega, by go_num, by go_num, H1, H2, by omega, H3⟩
          case measure => simp [intOf]; omega
    · obtain rfl : k = t.size := by omega
      have hvb : v < 100000000000000000 := by have := hvk.out; have := pow_le (k := t.size) (m := 17) (by omega); have := pow17; omega
      have HF : Hid (v = valL t.data.toList) := hidT (by rw [hv.out, ← hlen, List.take_length])
      have HD : Hid (digits t.data.toList) := hidT (by have h := hd.out; rwa [← hlen, List.take_length] at h)
      clear hv hd hvk
      go_wp2
      go_ret2
      exact ⟨⟨_, _, rfl, fun _ => ⟨HD.out, congrArg (- ·) HF.out⟩, fun _ => rfl, by omega, by omega⟩, rfl⟩
end Go.Proofs.YtdjonplcgmfmgaaGreatDoor
