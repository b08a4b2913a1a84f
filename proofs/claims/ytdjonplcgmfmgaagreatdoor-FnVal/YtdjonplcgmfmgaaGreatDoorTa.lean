/- strconv.Atoi at any text: one contract. -/
import Derived.Test.YtdjonplcgmfmgaaGreatDoorShelf
import Derived.Test.YtdjonplcgmfmgaaGreatDoorNx
import Derived.Lib.AtoiAllCases
import Derived.WalkSmall
namespace Go.Proofs.YtdjonplcgmfmgaaGreatDoor
open Go.RowKit Go.Shelf

theorem parse_dec (n : Nat) : n < 100000000000000000 → ∀ r, Lib.parseUint10 0 (Lib.decDigits n ++ r) = Lib.parseUint10 n r := by
  induction n using Nat.strongRecOn with
  | _ n ih =>
    intro hn r
    have step : ∀ (a d : Nat), d < 10 → a < 10000000000000000 → Lib.parseUint10 a (UInt8.ofNat (48 + d) :: r) = Lib.parseUint10 (a * 10 + d) r := by
      intro a d hd ha
      have e : (UInt8.ofNat (48 + d)).toNat = 48 + d := by rw [UInt8.toNat_ofNat']; omega
      rw [Lib.parseUint10, e, if_pos (by omega), if_neg (by omega), if_neg (by omega), show 48 + d - 48 = d from by omega]
    by_cases h9 : 9 < n
    · rw [dec_step h9, List.append_assoc, ih (n / 10) (by omega) (by omega)]
      rw [List.singleton_append, step (n / 10) (n % 10) (by omega) (by omega), show n / 10 * 10 + n % 10 = n from by omega]
    · rw [Lib.decDigits, dif_pos (by omega), List.singleton_append, step 0 n (by omega) (by omega), Nat.zero_mul, Nat.zero_add]
theorem mag_dec {n : Nat} (hn : n < 100000000000000000) : Lib.parseMag (Lib.decDigits n) = .ok n := by
  have h := parse_dec n hn []
  rw [List.append_nil] at h
  rw [Lib.parseMag, if_neg (numDec_ne n), h, Lib.parseUint10]
theorem dec_cons (n : Nat) : ∃ c r, Lib.decDigits n = c :: r ∧ 48 ≤ c.toNat := by
  cases h : Lib.decDigits n with
  | nil => exact absurd h (numDec_ne n)
  | cons c r =>
    have h2 := digits_dec n 0 (dec_pos n)
    simp only [h, List.getElem_cons_zero] at h2
    exact ⟨c, r, rfl, by omega⟩
theorem atoi_itoa {m : Int} (h0 : -100000000000000000 < m) (h1 : m < 100000000000000000) : Lib.atoiAll (Lib.itoa m) = .ok m := by
  by_cases h : 0 ≤ m
  · obtain ⟨c, r, hc, h48⟩ := dec_cons m.toNat
    have hm := mag_dec (n := m.toNat) (by omega)
    rw [itoa_pos h, hc, Lib.atoiAll_plain c r (by omega) (by omega), ← hc, hm]
    simp only [Lib.signless]
    rw [if_neg (by omega)]
    congr 1
    omega
  · have hm := mag_dec (n := (-m).toNat) (by omega)
    rw [itoa_neg (by omega), Lib.atoiAll_minus, hm]
    simp only [Lib.signed]
    rw [if_neg (by omega)]
    congr 1
    omega

/-- What Atoi needs of the variables of its errors. -/
def ErrVars (w : World) : Prop := (∃ tp p, w.var? Tryz.prog "strconv.ErrSyntax" = some #[.iface tp p]) ∧ (∃ tp p, w.var? Tryz.prog "strconv.ErrRange" = some #[.iface tp p])

/-- What Atoi answers. -/
def AtoiP (l : List UInt8) (e : Ending) : Prop := ∃ (n : Int) (v : Value), e = .returned (.tuple #[.int .i64 n, v]) ∧ (v = .nilIface ∨ ∃ t b, v = .iface t (.pointer (some b))) ∧ -9223372036854775808 ≤ n ∧ n ≤ 9223372036854775807 ∧ ∀ m : Int, -100000000000000000 < m → m < 100000000000000000 → l = Lib.itoa m → n = m ∧ v = .nilIface

theorem atoi_any (s : ByteArray) (w : World) (hs : s.size ≤ 1048576) (hv : ErrVars w) :
    Calls Tryz.prog 69 #[.string s] w fun e w' => AtoiP s.data.toList e ∧ Below w.heap.size w w' := by
  cases h : Lib.atoiAll s.data.toList with
  | ok v =>
    refine (Tryz.strconv_Atoi_ok s (by omega) v h w).mono ?_
    rintro e w1 ⟨rfl, hw⟩
    have hb := Lib.atoiAll_bounds h
    refine ⟨⟨v, _, rfl, Or.inl rfl, hb.1, hb.2, fun m h0 h1 he => ?_⟩, ?_⟩
    · rw [he, atoi_itoa h0 h1] at h
      injection h with h
      exact ⟨h.symm, rfl⟩
    · rcases hw with rfl | ⟨t, rfl⟩
      · exact Below.refl _ _
      · exact Lib.bytesWorld_below _ _ _
  | «syntax» =>
    obtain ⟨⟨tp, p, hvv⟩, _⟩ := hv
    refine (Tryz.strconv_Atoi_syntax_var s (by omega) h tp p w hvv).mono ?_
    rintro e w1 ⟨N, rfl, _, _, hb⟩
    refine ⟨⟨0, _, rfl, Or.inr ⟨_, _, rfl⟩, by decide, by decide, fun m h0 h1 he => ?_⟩, hb⟩
    rw [he, atoi_itoa h0 h1] at h
    cases h
  | range =>
    obtain ⟨_, ⟨tp, p, hvv⟩⟩ := hv
    refine (Tryz.strconv_Atoi_range_var s (by omega) h tp p w hvv).mono ?_
    rintro e w1 ⟨N, rfl, _, _, hb⟩
    refine ⟨⟨_, _, rfl, Or.inr ⟨_, _, rfl⟩, ?_, ?_, fun m h0 h1 he => ?_⟩, hb⟩
    · unfold Lib.atoiSat; split <;> (try split) <;> omega
    · unfold Lib.atoiSat; split <;> (try split) <;> omega
    · rw [he, atoi_itoa h0 h1] at h
      cases h
end Go.Proofs.YtdjonplcgmfmgaaGreatDoor
