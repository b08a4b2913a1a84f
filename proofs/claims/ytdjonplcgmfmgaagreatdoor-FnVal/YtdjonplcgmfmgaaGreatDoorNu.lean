/- l15Num: contract. -/
import Derived.Test.YtdjonplcgmfmgaaGreatDoorFi
namespace Go.Proofs.YtdjonplcgmfmgaaGreatDoor
open Go.RowKit Go.Shelf

/-- The value of digits. -/
def valL (l : List UInt8) : Int := l.foldl (fun n c => n * 10 + ((c.toNat : Int) - 48)) 0
def digits (l : List UInt8) : Prop := ∀ j, (hj : j < l.length) → 48 ≤ (l[j].toNat : Int) ∧ (l[j].toNat : Int) ≤ 57

theorem valL_snoc (l : List UInt8) (c : UInt8) : valL (l ++ [c]) = valL l * 10 + ((c.toNat : Int) - 48) := by
  simp [valL]
theorem take_snoc (s : ByteArray) (k : Nat) (h : k < s.size) : s.data.toList.take (k + 1) = s.data.toList.take k ++ [s[k]] := by
  rw [List.take_succ_eq_append_getElem (by simpa using h)]; rfl
theorem valL_digits_n (n : Nat) : ∀ l : List UInt8, l.length = n → digits l → 0 ≤ valL l ∧ valL l < 10 ^ n := by
  induction n with
  | zero =>
    intro l hl _
    obtain rfl := List.length_eq_zero_iff.mp hl
    simp [valL]
  | succ n ih =>
    intro l hl h
    obtain rfl | ⟨a, c, rfl⟩ := List.eq_nil_or_concat l
    · simp at hl
    · rw [List.concat_eq_append] at hl h ⊢
      rw [List.length_append, List.length_singleton] at hl
      have h1 := ih a (by omega) (fun j hj => by
        have := h j (by simp; omega)
        rwa [List.getElem_append_left hj] at this)
      have h2 := h a.length (by simp)
      rw [List.getElem_append_right (Nat.le_refl _)] at h2
      simp only [Nat.sub_self, List.getElem_cons_zero] at h2
      rw [valL_snoc, Int.pow_succ]
      omega
theorem valL_digits (l : List UInt8) (h : digits l) : 0 ≤ valL l ∧ valL l < 10 ^ l.length := valL_digits_n _ l rfl h
theorem digits_snoc {l : List UInt8} {c : UInt8} (h : digits l) (h0 : 48 ≤ (c.toNat : Int)) (h1 : (c.toNat : Int) ≤ 57) : digits (l ++ [c]) := by
  intro j hj
  by_cases hl : j < l.length
  · rw [List.getElem_append_left hl]; exact h j hl
  · rw [List.getElem_append_right (by omega)]
    simp [h0, h1]
theorem digits_dec (n : Nat) : digits (Lib.decDigits n) := by
  induction n using Nat.strongRecOn with
  | _ n ih =>
    by_cases h9 : 9 < n
    · rw [dec_step h9]
      refine digits_snoc (ih (n / 10) (by omega)) ?_ ?_ <;> (rw [UInt8.toNat_ofNat']; omega)
    · rw [Lib.decDigits, dif_pos (by omega)]
      intro j hj
      obtain rfl : j = 0 := by simpa using hj
      simp only [List.getElem_cons_zero, UInt8.toNat_ofNat']
      omega
theorem valL_dec (n : Nat) : valL (Lib.decDigits n) = n := by
  induction n using Nat.strongRecOn with
  | _ n ih =>
    by_cases h9 : 9 < n
    · rw [dec_step h9, valL_snoc, ih (n / 10) (by omega), UInt8.toNat_ofNat']; omega
    · rw [Lib.decDigits, dif_pos (by omega)]
      simp only [valL, List.foldl_cons, List.foldl_nil, UInt8.toNat_ofNat']
      omega
end Go.Proofs.YtdjonplcgmfmgaaGreatDoor
