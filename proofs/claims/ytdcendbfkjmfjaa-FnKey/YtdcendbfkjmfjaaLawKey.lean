/- The law FnKey: its walk. -/
import Derived.Test.YtdcendbfkjmfjaaLk
import Derived.Test.YtdcendbfkjmfjaaKm
import Derived.Test.YtdcendbfkjmfjaaKw
namespace Go.Proofs.Ytdcendbfkjmfjaa
open Go.RowKit

set_option maxHeartbeats 2000000 in
theorem lawKey_any (v : Value) (n : Nat) (w : World) (h : Bs w v n) :
    Calls Try.prog 6 #[v] w fun e w' => e = .returned (.bool true) ∧ Below w.heap.size w w' := by
  obtain ⟨ao, cap, hv, h0, _⟩ := id h
  subst hv
  unfold maxLen at h0
  by_cases hbig : 1048576 < n
  · go_enter Try.func6, Try.ntmps6
    go_wp2
    go_ret
    exact ⟨rfl, Below.refl _ _⟩
  · go_enter Try.func6, Try.ntmps6
    go_wp2_with fail
    refine (drawKeyMake_any _ n _ h).mono ?_
    rintro e w1 ⟨kind, who, rfl, hr, b1⟩
    obtain ⟨K, hK⟩ : ∃ K, keyOf kind who = K := ⟨_, rfl⟩
    by_cases hkw : 0 ≤ kind ∧ kind < 3 ∧ 0 ≤ who ∧ who < 8
    · have e0 := keyOf_in hkw.1 hkw.2.1 hkw.2.2.1 hkw.2.2.2
      have e1 : keyOf 0 who = who := by rw [keyOf_in (by omega) (by omega) hkw.2.2.1 hkw.2.2.2]; omega
      have k0 : 0 ≤ K := by omega
      have k1 : K < 24 := by omega
      have q1 : kindOf K = kind := by rw [kindOf_in k0 k1]; omega
      have q2 : whoOf K = who := by rw [whoOf_in k0 k1]; omega
      have q3 : partOf K = partOf who := by rw [partOf_in k0 k1, partOf_in hkw.2.2.1 (by omega)]; omega
      clear e0 hkw
      go_wp2_with (first | (go_at_call 20; refine (implMake_any _ _ _).mono ?_; rintro e wz ⟨rfl, rfl⟩) | (go_at_call 21; refine (specMake_any _ _ _).mono ?_; rintro e wz ⟨rfl, rfl⟩) | (go_at_call 22; refine (implKind_any _ _).mono ?_; rintro e wz ⟨rfl, rfl⟩) | (go_at_call 26; refine (specKind_any _ _).mono ?_; rintro e wz ⟨rfl, rfl⟩) | (go_at_call 23; refine (implWho_any _ _).mono ?_; rintro e wz ⟨rfl, rfl⟩) | (go_at_call 27; refine (specWho_any _ _).mono ?_; rintro e wz ⟨rfl, rfl⟩) | (go_at_call 24; refine (implShard_any _ _).mono ?_; rintro e wz ⟨rfl, rfl⟩) | (go_at_call 28; refine (specShard_any _ _).mono ?_; rintro e wz ⟨rfl, rfl⟩))
      refine (drawKeyKind_any _ n _ (h.later b1)).mono ?_
      rintro e w3 ⟨k, rfl, hk, b3⟩
      have b13 := b1.trans (b3.mono b1.size)
      by_cases hin : 0 ≤ k ∧ k < 24
      · have f1 : keyOf (kindOf k) (whoOf k) = k := by rw [kindOf_in hin.1 hin.2, whoOf_in hin.1 hin.2, keyOf_in (by omega) (by omega) (by omega) (by omega)]; omega
        have f2 : 0 ≤ partOf k ∧ partOf k < 2 := by rw [partOf_in hin.1 hin.2]; omega
        obtain ⟨f3, f4⟩ := f2
        obtain ⟨hin0, hin1⟩ := hin
        go_wp2_with (first | (go_at_call 20; refine (implMake_any _ _ _).mono ?_; rintro e wz ⟨rfl, rfl⟩) | (go_at_call 21; refine (specMake_any _ _ _).mono ?_; rintro e wz ⟨rfl, rfl⟩) | (go_at_call 22; refine (implKind_any _ _).mono ?_; rintro e wz ⟨rfl, rfl⟩) | (go_at_call 26; refine (specKind_any _ _).mono ?_; rintro e wz ⟨rfl, rfl⟩) | (go_at_call 23; refine (implWho_any _ _).mono ?_; rintro e wz ⟨rfl, rfl⟩) | (go_at_call 27; refine (specWho_any _ _).mono ?_; rintro e wz ⟨rfl, rfl⟩) | (go_at_call 24; refine (implShard_any _ _).mono ?_; rintro e wz ⟨rfl, rfl⟩) | (go_at_call 28; refine (specShard_any _ _).mono ?_; rintro e wz ⟨rfl, rfl⟩))
        go_ret
        exact ⟨by simp, b13⟩
      · have f1 := kindOf_out hin
        have f2 := whoOf_out hin
        have f3 := partOf_out hin
        by_cases hneg : 0 ≤ k
        · have hge : 24 ≤ k := by omega
          clear hin
          go_wp2_with (first | (go_at_call 20; refine (implMake_any _ _ _).mono ?_; rintro e wz ⟨rfl, rfl⟩) | (go_at_call 21; refine (specMake_any _ _ _).mono ?_; rintro e wz ⟨rfl, rfl⟩) | (go_at_call 22; refine (implKind_any _ _).mono ?_; rintro e wz ⟨rfl, rfl⟩) | (go_at_call 26; refine (specKind_any _ _).mono ?_; rintro e wz ⟨rfl, rfl⟩) | (go_at_call 23; refine (implWho_any _ _).mono ?_; rintro e wz ⟨rfl, rfl⟩) | (go_at_call 27; refine (specWho_any _ _).mono ?_; rintro e wz ⟨rfl, rfl⟩) | (go_at_call 24; refine (implShard_any _ _).mono ?_; rintro e wz ⟨rfl, rfl⟩) | (go_at_call 28; refine (specShard_any _ _).mono ?_; rintro e wz ⟨rfl, rfl⟩))
          go_ret
          exact ⟨by simp, b13⟩
        · clear hin
          go_wp2_with (first | (go_at_call 20; refine (implMake_any _ _ _).mono ?_; rintro e wz ⟨rfl, rfl⟩) | (go_at_call 21; refine (specMake_any _ _ _).mono ?_; rintro e wz ⟨rfl, rfl⟩) | (go_at_call 22; refine (implKind_any _ _).mono ?_; rintro e wz ⟨rfl, rfl⟩) | (go_at_call 26; refine (specKind_any _ _).mono ?_; rintro e wz ⟨rfl, rfl⟩) | (go_at_call 23; refine (implWho_any _ _).mono ?_; rintro e wz ⟨rfl, rfl⟩) | (go_at_call 27; refine (specWho_any _ _).mono ?_; rintro e wz ⟨rfl, rfl⟩) | (go_at_call 24; refine (implShard_any _ _).mono ?_; rintro e wz ⟨rfl, rfl⟩) | (go_at_call 28; refine (specShard_any _ _).mono ?_; rintro e wz ⟨rfl, rfl⟩))
          go_ret
          exact ⟨by simp, b13⟩
    · have hK1 : K = -1 := by rw [← hK, keyOf_out hkw]
      subst hK1
      clear hkw
      go_wp2_with fail
      go_wp2_with (first | (go_at_call 20; refine (implMake_any _ _ _).mono ?_; rintro e wz ⟨rfl, rfl⟩) | (go_at_call 21; refine (specMake_any _ _ _).mono ?_; rintro e wz ⟨rfl, rfl⟩) | (go_at_call 22; refine (implKind_any _ _).mono ?_; rintro e wz ⟨rfl, rfl⟩) | (go_at_call 26; refine (specKind_any _ _).mono ?_; rintro e wz ⟨rfl, rfl⟩) | (go_at_call 23; refine (implWho_any _ _).mono ?_; rintro e wz ⟨rfl, rfl⟩) | (go_at_call 27; refine (specWho_any _ _).mono ?_; rintro e wz ⟨rfl, rfl⟩) | (go_at_call 24; refine (implShard_any _ _).mono ?_; rintro e wz ⟨rfl, rfl⟩) | (go_at_call 28; refine (specShard_any _ _).mono ?_; rintro e wz ⟨rfl, rfl⟩))
      refine (drawKeyKind_any _ n _ (h.later b1)).mono ?_
      rintro e w3 ⟨k, rfl, hk, b3⟩
      have b13 := b1.trans (b3.mono b1.size)
      by_cases hin : 0 ≤ k ∧ k < 24
      · have f1 : keyOf (kindOf k) (whoOf k) = k := by rw [kindOf_in hin.1 hin.2, whoOf_in hin.1 hin.2, keyOf_in (by omega) (by omega) (by omega) (by omega)]; omega
        have f2 : 0 ≤ partOf k ∧ partOf k < 2 := by rw [partOf_in hin.1 hin.2]; omega
        obtain ⟨f3, f4⟩ := f2
        obtain ⟨hin0, hin1⟩ := hin
        go_wp2_with (first | (go_at_call 20; refine (implMake_any _ _ _).mono ?_; rintro e wz ⟨rfl, rfl⟩) | (go_at_call 21; refine (specMake_any _ _ _).mono ?_; rintro e wz ⟨rfl, rfl⟩) | (go_at_call 22; refine (implKind_any _ _).mono ?_; rintro e wz ⟨rfl, rfl⟩) | (go_at_call 26; refine (specKind_any _ _).mono ?_; rintro e wz ⟨rfl, rfl⟩) | (go_at_call 23; refine (implWho_any _ _).mono ?_; rintro e wz ⟨rfl, rfl⟩) | (go_at_call 27; refine (specWho_any _ _).mono ?_; rintro e wz ⟨rfl, rfl⟩) | (go_at_call 24; refine (implShard_any _ _).mono ?_; rintro e wz ⟨rfl, rfl⟩) | (go_at_call 28; refine (specShard_any _ _).mono ?_; rintro e wz ⟨rfl, rfl⟩))
        go_ret
        exact ⟨by simp, b13⟩
      · have f1 := kindOf_out hin
        have f2 := whoOf_out hin
        have f3 := partOf_out hin
        by_cases hneg : 0 ≤ k
        · have hge : 24 ≤ k := by omega
          clear hin
          go_wp2_with (first | (go_at_call 20; refine (implMake_any _ _ _).mono ?_; rintro e wz ⟨rfl, rfl⟩) | (go_at_call 21; refine (specMake_any _ _ _).mono ?_; rintro e wz ⟨rfl, rfl⟩) | (go_at_call 22; refine (implKind_any _ _).mono ?_; rintro e wz ⟨rfl, rfl⟩) | (go_at_call 26; refine (specKind_any _ _).mono ?_; rintro e wz ⟨rfl, rfl⟩) | (go_at_call 23; refine (implWho_any _ _).mono ?_; rintro e wz ⟨rfl, rfl⟩) | (go_at_call 27; refine (specWho_any _ _).mono ?_; rintro e wz ⟨rfl, rfl⟩) | (go_at_call 24; refine (implShard_any _ _).mono ?_; rintro e wz ⟨rfl, rfl⟩) | (go_at_call 28; refine (specShard_any _ _).mono ?_; rintro e wz ⟨rfl, rfl⟩))
          go_ret
          exact ⟨by simp, b13⟩
        · clear hin
          go_wp2_with (first | (go_at_call 20; refine (implMake_any _ _ _).mono ?_; rintro e wz ⟨rfl, rfl⟩) | (go_at_call 21; refine (specMake_any _ _ _).mono ?_; rintro e wz ⟨rfl, rfl⟩) | (go_at_call 22; refine (implKind_any _ _).mono ?_; rintro e wz ⟨rfl, rfl⟩) | (go_at_call 26; refine (specKind_any _ _).mono ?_; rintro e wz ⟨rfl, rfl⟩) | (go_at_call 23; refine (implWho_any _ _).mono ?_; rintro e wz ⟨rfl, rfl⟩) | (go_at_call 27; refine (specWho_any _ _).mono ?_; rintro e wz ⟨rfl, rfl⟩) | (go_at_call 24; refine (implShard_any _ _).mono ?_; rintro e wz ⟨rfl, rfl⟩) | (go_at_call 28; refine (specShard_any _ _).mono ?_; rintro e wz ⟨rfl, rfl⟩))
          go_ret
          exact ⟨by simp, b13⟩
end Go.Proofs.Ytdcendbfkjmfjaa
