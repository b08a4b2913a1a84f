/- l15Dec: contract. -/
import Derived.Test.YtdjonplcgmfmgaaGreatDoorShelf
import Derived.WalkKit
import Derived.WalkSpells
import Derived.WalkLawsBesides
import Derived.Handy
import Derived.Deep.RegionHeld3
import Derived.BigQuiet
import Derived.Lib.QuietBelow
import Derived.Laws.IdiomStrings
import Derived.Lib.ItoaLen
namespace Go.Proofs.YtdjonplcgmfmgaaGreatDoor
open Go.RowKit Go.Shelf

theorem hidT {p : Prop} (h : p) : Hid p := h

/-- A text. -/
def Tx (v : Value) (l : List UInt8) : Prop := ∃ s : ByteArray, v = .string s ∧ s.data.toList = l

theorem conv_one (w : World) (d : Nat) (x : Int) (hd : d < 10) (hx : x = 48 + d) :
    (convert 22 9 (.slice (some ⟨w.heap.size, 0, none⟩) 1 1)).run Tryz.prog (w.alloc (.cells #[.int .u8 x] 5)) = .ok (.string ⟨#[UInt8.ofNat (48 + d)]⟩) (w.alloc (.cells #[.int .u8 x] 5)) := by
  subst hx
  refine run_convert_bytes_back (w.alloc (.cells #[.int .u8 (48 + (d : Int))] 5)) 22 9 5 ⟨w.heap.size, 0, none⟩ 1 [UInt8.ofNat (48 + d)] Tryz.underlying22 Tryz.underlying5 Tryz.underlying9 ?_
  intro j hj
  have hj0 : j = 0 := by simpa using hj
  subst hj0
  have e : (UInt8.ofNat (48 + d)).toNat = 48 + d := by
    rw [UInt8.toNat_ofNat']; omega
  simp only [List.getElem_cons_zero, e]
  go_cell
theorem dec_length {n : Nat} (hn : n ≤ 9223372036854775807) : (Lib.decDigits n).length ≤ 20 := by
  rw [Lib.decDigits_length]; exact Lib.nDigits_le20 n (by omega)
theorem blen (s : ByteArray) : s.data.toList.length = s.size := rfl
theorem bytes_eq {s : ByteArray} {l : List UInt8} (h : s.data.toList = l) : s = ⟨l.toArray⟩ := by
  cases s; subst h; simp
theorem dec_step {k : Nat} (h : 9 < k) : Lib.decDigits k = Lib.decDigits (k / 10) ++ [UInt8.ofNat (48 + k % 10)] := by
  rw [Lib.decDigits, dif_neg (by omega)]

set_option maxRecDepth 10000 in
set_option maxHeartbeats 1000000 in
theorem decPos_any (n : Nat) (w : World) (hn : n ≤ 9223372036854775807) :
    Calls Tryz.prog 41 #[.int .i64 n] w fun e w' => e = .returned (.string ⟨(Lib.decDigits n).toArray⟩) ∧ Below w.heap.size w w' := by
  go_enter Tryz.func41, Tryz.ntmps41
  go_wp2_with fail
  go_loopw [0, 3] (fun a o wr => ∃ (k : Nat) (s : ByteArray), k ≤ n ∧ a = .int .i64 k ∧ o = .string s ∧ Hid (Lib.decDigits k ++ s.data.toList = Lib.decDigits n) ∧ Below w.heap.size w wr) (fun a _ _ => (intOf a).toNat)
  case atStart => exact ⟨n, _, Nat.le_refl _, rfl, rfl, hidT (by simp), Below.refl _ _⟩
  case round =>
    obtain ⟨k, s, hk, rfl, rfl, hs, hbel⟩ := hrel
    have hsz : s.size ≤ 20 := by
      have h1 := congrArg List.length hs.out
      have h2 := dec_length hn
      rw [List.length_append] at h1
      have h3 := blen s
      omega
    have hsz0 := hbel.size
    by_cases h9 : 9 < k
    · have hcv := conv_one wr (k % 10) (48 + (k : Int) % 10) (by omega) (by omega)
      have hnext : Hid (Lib.decDigits (k / 10) ++ (⟨#[UInt8.ofNat (48 + k % 10)]⟩ ++ s : ByteArray).data.toList = Lib.decDigits n) := by
        have := hs.out
        rw [dec_step h9] at this
        refine hidT ?_
        simpa [ByteArray.data_append] using this
      have hnext2 : ∀ t : ByteArray, t = (⟨#[UInt8.ofNat (48 + k % 10)]⟩ ++ s) → Hid (Lib.decDigits (k / 10) ++ t.data.toList = Lib.decDigits n) := fun t ht => by rw [ht]; exact hnext
      clear hs hnext
      go_wp2
      exact ⟨⟨k / 10, _, by omega, by go_num, rfl, hnext2 _ (by simp), by go_grown⟩, by simp [intOf]; omega⟩
    · have hcv := conv_one wr k (48 + (k : Int)) (by omega) rfl
      have hend : ∀ t : ByteArray, t = (⟨#[UInt8.ofNat (48 + k)]⟩ ++ s) → t = ⟨(Lib.decDigits n).toArray⟩ := fun t ht => by
        have := hs.out
        rw [Lib.decDigits, dif_pos (by omega)] at this
        refine bytes_eq ?_
        rw [ht]
        simpa [ByteArray.data_append] using this
      have HE := hidT hend
      clear hs hend
      go_wp2
      go_ret
      refine ⟨?_, by go_grown⟩
      have := HE.out _ rfl
      rw [← this]
      simp

theorem itoa_pos {n : Int} (h : 0 ≤ n) : Lib.itoa n = Lib.decDigits n.toNat := by rw [Lib.itoa, if_neg (by omega)]
theorem itoa_neg {n : Int} (h : n < 0) : Lib.itoa n = 45 :: Lib.decDigits (-n).toNat := by
  rw [Lib.itoa, if_pos h, show n.natAbs = (-n).toNat from by omega]
theorem dec_min : Lib.decDigits 9223372036854775808 = [57, 50, 50, 51, 51, 55, 50, 48, 51, 54, 56, 53, 52, 55, 55, 53, 56, 48, 56] := by decide +kernel

set_option maxRecDepth 10000 in
set_option maxHeartbeats 1000000 in
theorem dec_any (n : Int) (w : World) (h0 : -9223372036854775808 ≤ n) (h1 : n ≤ 9223372036854775807) :
    Calls Tryz.prog 41 #[.int .i64 n] w fun e w' => e = .returned (.string ⟨(Lib.itoa n).toArray⟩) ∧ Below w.heap.size w w' := by
  by_cases hp : 0 ≤ n
  · have := decPos_any n.toNat w (by omega)
    rw [itoa_pos hp]
    rwa [Int.toNat_of_nonneg hp] at this
  · by_cases hm : n = -9223372036854775808
    · subst hm
      rw [itoa_neg (by omega), show (-(-9223372036854775808 : Int)).toNat = 9223372036854775808 from by decide, dec_min]
      go_enter Tryz.func41, Tryz.ntmps41
      go_wp2
      go_ret
      exact ⟨rfl, Below.refl _ _⟩
    · have hn0 : n < 0 := by omega
      have hn1 : -9223372036854775807 ≤ n := by omega
      rw [itoa_neg hn0]
      obtain ⟨k, hk⟩ : ∃ k : Nat, -n = (k : Int) := ⟨(-n).toNat, by omega⟩
      have hkn : n = -(k : Int) := by omega
      subst hkn
      have e1 : (-(-(k : Int))).toNat = k := by omega
      rw [e1]
      have hl := dec_length (n := k) (by omega)
      clear hm hp hk e1
      go_enter Tryz.func41, Tryz.ntmps41
      have hl1 : 1 + (Lib.decDigits k).length ≤ 9223372036854775807 := by omega
      go_wp2_with fail
      have hd := decPos_any k w (by omega)
      refine hd.mono ?_
      rintro e w1 ⟨rfl, b1⟩
      go_wp2
      go_ret
      refine ⟨?_, b1⟩
      have e : (⟨#[45]⟩ ++ ⟨(Lib.decDigits k).toArray⟩ : ByteArray) = ⟨(45 :: Lib.decDigits k).toArray⟩ := bytes_eq (by simp [ByteArray.data_append])
      rw [← e]
      rfl
end Go.Proofs.YtdjonplcgmfmgaaGreatDoor
