/- l15Num: contract, whole. -/
import Derived.Test.YtdjonplcgmfmgaaGreatDoorNw
namespace Go.Proofs.YtdjonplcgmfmgaaGreatDoor
open Go.RowKit Go.Shelf

theorem dec_len {k : Nat} : ∀ {n : Nat}, 0 < k → n < 10 ^ k → (Lib.decDigits n).length ≤ k := by
  induction k with
  | zero => intro n h _; exact absurd h (Nat.lt_irrefl 0)
  | succ k ih =>
    intro n _ hn
    by_cases h9 : 9 < n
    · rw [dec_step h9, List.length_append, List.length_singleton]
      rw [Nat.pow_succ] at hn
      have hk : 0 < k := by
        rcases Nat.eq_zero_or_pos k with h | h
        · subst h; simp at hn; omega
        · exact h
      have := ih hk (n := n / 10) (by omega)
      omega
    · rw [Lib.decDigits, dif_pos (by omega)]
      simp
theorem numDec_ne (n : Nat) : Lib.decDigits n ≠ [] := by
  rw [Lib.decDigits]
  split <;> simp
theorem dec_pos (n : Nat) : 0 < (Lib.decDigits n).length := List.length_pos_iff.mpr (numDec_ne n)
theorem dec_head (n : Nat) : 0 < n → ((Lib.decDigits n)[0]'(dec_pos n)).toNat ≠ 48 := by
  induction n using Nat.strongRecOn with
  | _ n ih =>
    intro hn
    by_cases h9 : 9 < n
    · have h := ih (n / 10) (by omega) (by omega)
      have e : (Lib.decDigits n)[0]'(dec_pos n) = (Lib.decDigits (n / 10))[0]'(dec_pos _) := by
        simp only [dec_step h9]
        rw [List.getElem_append_left (dec_pos _)]
      rw [e]; exact h
    · have e : Lib.decDigits n = [UInt8.ofNat (48 + n)] := by rw [Lib.decDigits, dif_pos (by omega)]
      simp only [e, List.getElem_cons_zero, UInt8.toNat_ofNat']
      omega
theorem dec_zero : Lib.decDigits 0 = [48] := by decide +kernel
theorem tail_data (s : ByteArray) : (s.extract 1 s.size).data.toList = s.data.toList.tail := by
  rw [ByteArray.data_extract, Array.toList_extract]
  have : s.size - 1 = s.data.toList.tail.length := by rw [List.length_tail]; rfl
  rw [List.extract_eq_take_drop, List.drop_one, this, List.take_length]

/-- What l15Num answers: it reads back what is written of a number below 10^17. -/
def NumR (l : List UInt8) (e : Ending) : Prop := ∃ n b, e = .returned (.tuple #[.int .i64 n, .bool b]) ∧ -100000000000000000 < n ∧ n < 100000000000000000 ∧ (∀ m : Int, -100000000000000000 < m → m < 100000000000000000 → l = Lib.itoa m → n = m ∧ b = true) ∧ (b = true → l = Lib.itoa n)

theorem numR_no {l : List UInt8} {e : Ending} (h : NumNo e) (hl : ∀ m : Int, -100000000000000000 < m → m < 100000000000000000 → l = Lib.itoa m → False) : NumR l e :=
  ⟨0, false, h, by decide, by decide, fun m h0 h1 he => (hl m h0 h1 he).elim, fun h => by cases h⟩
theorem itoa_shape {m : Int} (h0 : -100000000000000000 < m) (h1 : m < 100000000000000000) :
    (∃ k : Nat, m = (k : Int) ∧ Lib.itoa m = Lib.decDigits k ∧ (Lib.decDigits k).length ≤ 17) ∨ (∃ k : Nat, 0 < k ∧ m = -(k : Int) ∧ Lib.itoa m = 45 :: Lib.decDigits k ∧ (Lib.decDigits k).length ≤ 17) := by
  by_cases h : 0 ≤ m
  · refine Or.inl ⟨m.toNat, by omega, itoa_pos h, dec_len (by decide) ?_⟩
    rw [show (10 : Nat) ^ 17 = 100000000000000000 from by decide]; omega
  · refine Or.inr ⟨(-m).toNat, by omega, by omega, itoa_neg (by omega), dec_len (by decide) ?_⟩
    rw [show (10 : Nat) ^ 17 = 100000000000000000 from by decide]; omega
theorem head_at {s : ByteArray} {l : List UInt8} (h0 : 0 < s.size) (he : s.data.toList = l) (hl : 0 < l.length) : l[0] = s[0] := by
  subst he; rfl

/-- Digits without a needless zero ahead are what is written of their value. -/
theorem dec_back : ∀ (k : Nat) (l : List UInt8), l.length = k → (h0 : 0 < l.length) → digits l → ((l[0].toNat : Int) = 48 → l.length = 1) → Lib.decDigits (valL l).toNat = l := by
  intro k
  induction k with
  | zero => intro l hk h0; omega
  | succ k ih =>
    intro l hk h0 hd hz
    obtain rfl | ⟨a, c, hl⟩ := List.eq_nil_or_concat l
    · simp at h0
    · rw [List.concat_eq_append] at hl
      subst hl
      have hc := hd a.length (by simp)
      rw [List.getElem_append_right (Nat.le_refl _)] at hc
      simp only [Nat.sub_self, List.getElem_cons_zero] at hc
      have hcb : c = UInt8.ofNat (48 + (c.toNat - 48)) := by rw [show 48 + (c.toNat - 48) = c.toNat from by omega, UInt8.ofNat_toNat]
      by_cases ha : a.length = 0
      · obtain rfl := List.eq_nil_of_length_eq_zero ha
        rw [List.nil_append]
        have e : valL [c] = (c.toNat : Int) - 48 := by simp [valL]
        rw [e, show ((c.toNat : Int) - 48).toNat = c.toNat - 48 from by omega, Lib.decDigits, dif_pos (by omega), ← hcb]
      · have hda : digits a := fun j hj => by
          have := hd j (by simp; omega)
          rwa [List.getElem_append_left hj] at this
        have h1 : (a ++ [c])[0] = a[0]'(by omega) := List.getElem_append_left (by omega)
        have hne : ¬ ((a[0]'(by omega)).toNat : Int) = 48 := fun e => by
          have := hz (by rw [h1]; exact e)
          rw [List.length_append, List.length_singleton] at this
          omega
        have hb := ih a (by simp at hk; omega) (by omega) hda (fun e => absurd e hne)
        have h0a := (valL_digits a hda).1
        have hpos : 0 < (valL a).toNat := by
          apply Nat.pos_of_ne_zero
          intro e
          rw [e, dec_zero] at hb
          have : (a[0]'(by omega)).toNat = 48 := by simp only [← hb, List.getElem_cons_zero]; rfl
          omega
        rw [valL_snoc]
        have e9 : (valL a * 10 + ((c.toNat : Int) - 48)).toNat = (valL a).toNat * 10 + (c.toNat - 48) := by omega
        rw [e9, dec_step (by omega), show ((valL a).toNat * 10 + (c.toNat - 48)) / 10 = (valL a).toNat from by omega, hb, show ((valL a).toNat * 10 + (c.toNat - 48)) % 10 = c.toNat - 48 from by omega, ← hcb]

theorem numRead_any (s : ByteArray) (w : World) (hs : s.size ≤ 1048576) :
    Calls Tryz.prog 40 #[.string s] w fun e w' => NumR s.data.toList e ∧ w' = w := by
  have hlen : s.data.toList.length = s.size := rfl
  by_cases h0 : s.size = 0
  · refine (numNone_any s w h0).mono fun e w1 h => ⟨numR_no h.1 fun m a b he => ?_, h.2⟩
    have hL := congrArg List.length he
    obtain ⟨k, _, e2, _⟩ | ⟨k, _, _, e2, _⟩ := itoa_shape a b
    · rw [e2] at hL; have := dec_pos k; omega
    · rw [e2, List.length_cons] at hL; omega
  by_cases hm : (s[0].toNat : Int) = 45
  · obtain ⟨t, ht⟩ : ∃ t, s.extract 1 s.size = t := ⟨_, rfl⟩
    have htl := tail_data s
    rw [ht] at htl
    have hts : t.size = s.size - 1 := by
      have h1 : t.data.toList.length = t.size := rfl
      rw [← h1, htl, List.length_tail]; rfl
    have hneg : ∀ m : Int, -100000000000000000 < m → m < 100000000000000000 → s.data.toList = Lib.itoa m → ∃ k : Nat, 0 < k ∧ m = -(k : Int) ∧ t.data.toList = Lib.decDigits k ∧ t.size ≤ 17 := by
      intro m a b he
      obtain ⟨k, _, e2, _⟩ | ⟨k, k0, e1, e2, e3⟩ := itoa_shape a b
      · rw [e2] at he
        have h1 := head_at (by omega) he (dec_pos k)
        have h2 := digits_dec k 0 (dec_pos k)
        rw [h1] at h2; omega
      · rw [e2] at he
        have h3 : t.data.toList = Lib.decDigits k := by rw [htl, he, List.tail_cons]
        exact ⟨k, k0, e1, h3, by have h4 := congrArg List.length h3; have h5 : t.data.toList.length = t.size := rfl; omega⟩
    by_cases ht0 : t.size = 0
    · refine (numMinus_any s t w (by omega) hs hm ht ht0).mono fun e w1 h => ⟨numR_no h.1 fun m a b he => ?_, h.2⟩
      obtain ⟨k, _, _, h3, _⟩ := hneg m a b he
      have h4 := congrArg List.length h3
      have h5 : t.data.toList.length = t.size := rfl
      have := dec_pos k
      omega
    by_cases htb : 17 < t.size
    · refine (numMinusLong_any s t w (by omega) hs hm ht htb (by omega)).mono fun e w1 h => ⟨numR_no h.1 fun m a b he => ?_, h.2⟩
      obtain ⟨k, _, _, h3, h4⟩ := hneg m a b he
      omega
    by_cases hz : (t[0].toNat : Int) = 48
    · refine (numMinusZero_any s t w (by omega) hs hm ht (by omega) (by omega) hz).mono fun e w1 h => ⟨numR_no h.1 fun m a b he => ?_, h.2⟩
      obtain ⟨k, k0, _, h3, h4⟩ := hneg m a b he
      have h5 := head_at (by omega) h3 (dec_pos k)
      have h6 := dec_head k k0
      rw [h5] at h6; omega
    · refine (numNeg_any s t w (by omega) hs hm ht (by omega) (by omega) hz).mono fun e w1 h => ⟨?_, h.2⟩
      obtain ⟨⟨n, b, e1, e2, e3, e4, e5⟩, _⟩ := h
      refine ⟨n, b, e1, e4, e5, fun m a c he => ?_, fun hb => ?_⟩
      · obtain ⟨k, k0, m0, h3, h4⟩ := hneg m a c he
        have hb := e3 (by rw [h3]; exact digits_dec k)
        refine ⟨?_, hb⟩
        rw [(e2 hb).2, if_pos rfl, h3, valL_dec, m0]
      · obtain ⟨hd, hn⟩ := e2 hb
        rw [if_pos rfl] at hn
        have h5 : t.data.toList.length = t.size := rfl
        have hbk := dec_back _ t.data.toList rfl (by omega) hd (fun e => absurd e hz)
        have hv := (valL_digits _ hd).1
        have hpos : 0 < (valL t.data.toList).toNat := by
          apply Nat.pos_of_ne_zero
          intro e
          rw [e, dec_zero] at hbk
          have e4 : (t[0]'(by omega)).toNat = 48 := by
            have : t.data.toList[0]'(by omega) = t[0]'(by omega) := rfl
            rw [← this]; simp only [← hbk, List.getElem_cons_zero]; rfl
          omega
        have e6 : s.data.toList = 45 :: t.data.toList := by
          have h7 : s.data.toList[0]'(by omega) = s[0]'(by omega) := rfl
          have h8 : s[0]'(by omega) = 45 := UInt8.toNat_inj.1 (by rw [show (45 : UInt8).toNat = 45 from rfl]; omega)
          cases hs : s.data.toList with
          | nil => rw [hs] at hlen; simp at hlen; omega
          | cons x r =>
            rw [htl, hs, List.tail_cons]
            simp only [hs, List.getElem_cons_zero] at h7
            rw [h7, h8]
        rw [e6, hn, itoa_neg (by omega), show (- - valL t.data.toList).toNat = (valL t.data.toList).toNat from by omega, hbk]
  · have hpos : ∀ m : Int, -100000000000000000 < m → m < 100000000000000000 → s.data.toList = Lib.itoa m → ∃ k : Nat, m = (k : Int) ∧ s.data.toList = Lib.decDigits k ∧ s.size ≤ 17 := by
      intro m a b he
      obtain ⟨k, e1, e2, e3⟩ | ⟨k, k0, e1, e2, e3⟩ := itoa_shape a b
      · rw [e2] at he
        exact ⟨k, e1, he, by have h4 := congrArg List.length he; omega⟩
      · rw [e2] at he
        have h1 := head_at (by omega) he (by simp)
        rw [List.getElem_cons_zero] at h1
        rw [← h1] at hm
        exact absurd rfl hm
    by_cases hb : 17 < s.size
    · refine (numLong_any s w hb hs hm).mono fun e w1 h => ⟨numR_no h.1 fun m a b he => ?_, h.2⟩
      obtain ⟨k, _, h3, h4⟩ := hpos m a b he
      omega
    by_cases hz : (s[0].toNat : Int) = 48 ∧ 1 < s.size
    · refine (numZero_any s w hz.2 (by omega) hz.1).mono fun e w1 h => ⟨numR_no h.1 fun m a b he => ?_, h.2⟩
      obtain ⟨k, e1, h3, h4⟩ := hpos m a b he
      rcases Nat.eq_zero_or_pos k with k0 | k0
      · subst k0
        rw [dec_zero] at h3
        have h5 := congrArg List.length h3
        rw [List.length_singleton] at h5
        omega
      · have h5 := head_at (by omega) h3 (dec_pos k)
        have h6 := dec_head k k0
        rw [h5] at h6; omega
    · refine (numPos_any s w (by omega) (by omega) hm (fun h => by omega)).mono fun e w1 h => ⟨?_, h.2⟩
      obtain ⟨⟨n, b, e1, e2, e3, e4, e5⟩, _⟩ := h
      refine ⟨n, b, e1, e4, e5, fun m a c he => ?_, fun hb => ?_⟩
      · obtain ⟨k, m0, h3, h4⟩ := hpos m a c he
        have hb := e3 (by rw [h3]; exact digits_dec k)
        refine ⟨?_, hb⟩
        rw [(e2 hb).2, if_neg (by decide), h3, valL_dec, m0]
      · obtain ⟨hd, hn⟩ := e2 hb
        rw [if_neg (by decide)] at hn
        have hbk := dec_back _ s.data.toList rfl (by omega) hd (fun e => by
          have : s.data.toList[0]'(by omega) = s[0]'(by omega) := rfl
          rw [this] at e
          omega)
        rw [hn, itoa_pos (valL_digits _ hd).1, hbk]
end Go.Proofs.YtdjonplcgmfmgaaGreatDoor
