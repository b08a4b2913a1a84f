/- Items put one behind the other into an empty cache, the i-th with the Ver i: plain facts, for FnCacheCrowd. -/
import Derived.Test.YtanfmgigpiljpaaYk
import Derived.Test.YtanfmgigpiljpaaYj
namespace Go.Proofs.Ytanfmgigpiljpaa
open Go.RowKit

structure CrowdI (I F : List KD) (K : List Int) (j : Nat) : Prop where
  ok : okC I F = true
  keys : I.map keyK = seenC [] K.reverse
  len : K.length = j
  flo : ∀ k, k < 24 → flr F k ≤ (j : Int)
theorem CrowdI.zero : CrowdI [] zeroF [] 0 := ⟨okC_zero, rfl, rfl, by decide⟩
theorem CrowdI.step {I F : List KD} {K : List Int} {j : Nat} (h : CrowdI I F K j) (k : Nat) (hk : k < 24) (hj : j < 12) :
    ansP I F (k : Int) (j : Int) 0 [] = ((putI (k : Int) (j : Int) 0 [] I, putF F (k : Int) (j : Int)), true) ∧ CrowdI (putI (k : Int) (j : Int) 0 [] I) (putF F (k : Int) (j : Int)) (K ++ [(k : Int)]) (j + 1) := by
  have hki : keyIn (k : Int) = true := by simp [keyIn]; omega
  have hv : verR (j : Int) = true := verR_iff.2 ⟨by omega, by omega⟩
  have hp : putB F (k : Int) (j : Int) 0 [] = true := by
    unfold putB itR
    rw [okV_none hki, hv, Int.toNat_natCast]
    simpa using h.flo k hk
  refine ⟨ansP_yes h.ok hp, okC_put h.ok hp, keys_step h.keys _ _ _ _, by rw [List.length_append, h.len]; rfl, fun m hm => ?_⟩
  unfold putF
  rw [Int.toNat_natCast, flr_put (by rw [(okC_iff.1 h.ok).1]; exact hk)]
  split
  · omega
  · have := h.flo m hm; omega

/-- What is seen of the last m keys. -/
def seenTo (K : List Int) (m : Nat) : List Int := seenC [] (K.reverse.take m)
theorem seenTo_step (K : List Int) (m : Nat) (h : m < K.length) : seenTo K (m + 1) = stepC (seenTo K m) (K.getD (K.length - 1 - m) 0) := by
  have hr : m < K.reverse.length := by simpa using h
  have e : K.reverse[m] = K.getD (K.length - 1 - m) 0 := by
    rw [List.getElem_reverse, List.getD_eq_getElem?_getD, List.getElem?_eq_getElem (by omega)]
    rfl
  unfold seenTo
  rw [List.take_succ_eq_append_getElem hr, seenC_append, e]
  rfl
theorem seenTo_all {K : List Int} {m : Nat} (h : K.length ≤ m ∨ 4 ≤ (seenTo K m).length) : seenTo K m = seenC [] K.reverse := by
  unfold seenTo at h ⊢
  rcases h with h | h
  · rw [List.take_of_length_le (by simpa using h)]
  · have e : K.reverse = K.reverse.take m ++ K.reverse.drop m := (List.take_append_drop m _).symm
    rw [show seenC [] K.reverse = seenC [] (K.reverse.take m ++ K.reverse.drop m) from by rw [← e], seenC_append, seenC_full h]
theorem seenTo_len (K : List Int) (m : Nat) : (seenTo K m).length ≤ m ∧ (seenTo K m).length ≤ 4 := by
  induction m with
  | zero => simp [seenTo, seenC]
  | succ m ih =>
    by_cases h : m < K.length
    · rw [seenTo_step K m h]
      unfold stepC
      split
      · simp; omega
      · omega
    · have e : seenTo K (m + 1) = seenTo K m := by
        unfold seenTo
        rw [List.take_of_length_le (by simp; omega), List.take_of_length_le (by simp; omega)]
      rw [e]; omega
end Go.Proofs.Ytanfmgigpiljpaa
