/- The text of a list: plain; spec.EdgeText: contract. -/
import Derived.Test.YtdjonplcgmfmgaaGreatDoorPl
import Derived.Test.YtdjonplcgmfmgaaGreatDoorTx
import Derived.Lib.Join
namespace Go.Proofs.YtdjonplcgmfmgaaGreatDoor
open Go.RowKit Go.Shelf

/-- Numbers that an int holds. -/
def WfL (l : List (Int × Int)) : Prop := ∀ i, i < l.length → (-9223372036854775808 ≤ (l.getD i (0, 0)).1 ∧ (l.getD i (0, 0)).1 ≤ 9223372036854775807) ∧ (-9223372036854775808 ≤ (l.getD i (0, 0)).2 ∧ (l.getD i (0, 0)).2 ≤ 9223372036854775807)
def edgeT (x : Int × Int) : List UInt8 := Lib.itoa x.1 ++ 64 :: Lib.itoa x.2
def innerL (l : List (Int × Int)) : List UInt8 := Lib.join (l.map edgeT) [32]
def textL (l : List (Int × Int)) : List UInt8 := 40 :: innerL l ++ [41]

theorem join_snoc (xs : List (List UInt8)) (y sep : List UInt8) (h : xs ≠ []) : Lib.join (xs ++ [y]) sep = Lib.join xs sep ++ sep ++ y := by
  cases xs with
  | nil => exact absurd rfl h
  | cons x r =>
    rw [List.cons_append, Lib.join_cons, Lib.join_cons]
    simp [Lib.joinTail]
theorem inner_zero (l : List (Int × Int)) : innerL (l.take 0) = [] := by simp [innerL, Lib.join_nil]
theorem inner_one {l : List (Int × Int)} (h : 0 < l.length) : innerL (l.take 1) = edgeT (l.getD 0 (0, 0)) := by
  cases l with
  | nil => exact absurd h (Nat.lt_irrefl 0)
  | cons e r => simp [innerL, Lib.join_one]
theorem inner_step {l : List (Int × Int)} {k : Nat} (h0 : 0 < k) (h : k < l.length) : innerL (l.take (k + 1)) = innerL (l.take k) ++ 32 :: edgeT (l.getD k (0, 0)) := by
  unfold innerL
  rw [List.take_succ_eq_append_getElem h, List.map_append, List.map_singleton, join_snoc _ _ _ (by
    intro e
    have h2 : ((l.take k).map edgeT).length = k := by rw [List.length_map, List.length_take]; omega
    rw [e] at h2
    simp at h2
    omega)]
  simp [h]

theorem cat_edge (s : ByteArray) (x1 x2 : Int) : (s ++ ⟨(Lib.itoa x1).toArray⟩ ++ ⟨#[64]⟩ ++ ⟨(Lib.itoa x2).toArray⟩ : ByteArray).data.toList = s.data.toList ++ edgeT (x1, x2) := by
  simp [ByteArray.data_append, edgeT]
theorem cat_size (s : ByteArray) (x1 x2 : Int) (n1 : (Lib.itoa x1).length ≤ 21) (n2 : (Lib.itoa x2).length ≤ 21) : (s ++ ⟨(Lib.itoa x1).toArray⟩ ++ ⟨#[64]⟩ ++ ⟨(Lib.itoa x2).toArray⟩ : ByteArray).size ≤ s.size + 43 := by
  rw [← blen, cat_edge, List.length_append, blen]
  simp [edgeT]; omega
theorem cat_blank (s : ByteArray) : (s ++ ⟨#[32]⟩ : ByteArray).data.toList = s.data.toList ++ [32] := by simp [ByteArray.data_append]
theorem size_blank (s : ByteArray) : (s ++ ⟨#[32]⟩ : ByteArray).size = s.size + 1 := by
  rw [← blen, cat_blank, List.length_append, blen]; rfl

set_option maxRecDepth 10000 in
set_option maxHeartbeats 2000000 in
theorem specText_any (v : Value) (l : List (Int × Int)) (w : World) (h : Rd w v l) (hl : l.length ≤ 1048576) (hw : WfL l) :
    Calls Tryz.prog 14 #[v] w fun e w' => e = .returned (.string ⟨(textL l).toArray⟩) ∧ Below w.heap.size w w' := by
  obtain ⟨ao, cap, rfl, _, hc⟩ := h
  go_enter Tryz.func14, Tryz.ntmps14
  go_wp2_with fail
  go_loopw [3, 4] (fun o i wr => ∃ (k : Nat) (s : ByteArray), k ≤ l.length ∧ i = .int .i64 k ∧ o = .string s ∧ Hid (s.data.toList = 40 :: innerL (l.take k)) ∧ s.size ≤ 1 + 44 * k ∧ Below w.heap.size w wr) (fun _ i _ => l.length - (intOf i).toNat)
  case atStart => exact ⟨0, _, Nat.zero_le _, rfl, rfl, hidT (by rw [inner_zero]), by decide, Below.refl _ _⟩
  case round =>
    obtain ⟨k, s, hk, rfl, rfl, hs, hsz, hbel⟩ := hrel
    have hsz0 := hbel.size
    by_cases hlt : k < l.length
    · obtain ⟨b, o, rfl, hb, hcc⟩ := hc (by omega)
      obtain ⟨c0, c1⟩ := hcc k hlt
      rw [← hbel.cell (p := ⟨b, o + k * 2, none⟩) hb] at c0
      rw [← hbel.cell (p := ⟨b, o + k * 2 + 1, none⟩) hb] at c1
      obtain ⟨⟨w0, w1⟩, ⟨w2, w3⟩⟩ := hw k hlt
      have hi1 := inner_one (l := l)
      have hi2 := inner_step (l := l) (k := k)
      clear hcc hc hw
      obtain ⟨⟨x1, x2⟩, hi0⟩ : ∃ x, l.getD k (0, 0) = x := ⟨_, rfl⟩
      rw [hi0] at c0 c1 w0 w1 w2 w3
      simp only at c0 c1 w0 w1 w2 w3
      have n1 := Lib.itoa_length_le x1 w0 w1
      have n2 := Lib.itoa_length_le x2 w2 w3
      by_cases hk0 : k = 0
      · have hk1 : ¬ (0 < (k : Int)) := by omega
        have HK0 := hid hk0
        clear hk0
        go_wp2_with fail
        have r0 := cell_regrown c0
        have r1 := cell_regrown c1
        refine wp_region_quiet_below (by kernel_rfl) (by kernel_rfl) ?_
        repeat (first | go_big_quiet_skip | (go_big_quiet_want; go_big_quiet_op; first | go_big_quiet_on | go_big_quiet_call (first | (go_at_call 41; exact Calls.regrown_of (dec_any _ _ w0 w1)) | (go_at_call 41; exact Calls.regrown_of (dec_any _ _ w2 w3)))))
        refine wpQuiet_nil ?_
        rintro wq ⟨pq, hwq⟩
        have hq : Below wr.heap.size wr wq := by rw [hwq]; exact below_regrown _ _ _
        clear hwq pq
        clear r0 r1
        have hbq := hbel.trans (hq.mono hbel.size)
        have HF : Hid ((s ++ ⟨(Lib.itoa x1).toArray⟩ ++ ⟨#[64]⟩ ++ ⟨(Lib.itoa x2).toArray⟩ : ByteArray).data.toList = 40 :: innerL (l.take (k + 1))) := by
          have h1 := hs.out
          have h2 := HK0.out
          subst h2
          rw [inner_zero] at h1
          refine hidT ?_
          rw [cat_edge, h1, hi1 (by omega), hi0]
          rfl
        have HS := hid (cat_size s x1 x2 n1 n2)
        clear hi1 hi2 hi0 hs
        go_wp2
        go_roundw
        case rel => exact ⟨k + 1, _, by omega, by go_num, rfl, HF, by have := HS.out; omega, hbq⟩
        case measure => simp [intOf]; omega
      · have hk1 : (0 < (k : Int)) := by omega
        have HK0 := hid hk0
        clear hk0
        go_wp2_with fail
        have r0 := cell_regrown c0
        have r1 := cell_regrown c1
        refine wp_region_quiet_below (by kernel_rfl) (by kernel_rfl) ?_
        repeat (first | go_big_quiet_skip | (go_big_quiet_want; go_big_quiet_op; first | go_big_quiet_on | go_big_quiet_call (first | (go_at_call 41; exact Calls.regrown_of (dec_any _ _ w0 w1)) | (go_at_call 41; exact Calls.regrown_of (dec_any _ _ w2 w3)))))
        refine wpQuiet_nil ?_
        rintro wq ⟨pq, hwq⟩
        have hq : Below wr.heap.size wr wq := by rw [hwq]; exact below_regrown _ _ _
        clear hwq pq
        clear r0 r1
        have hbq := hbel.trans (hq.mono hbel.size)
        have HF : Hid ((s ++ ⟨#[32]⟩ ++ ⟨(Lib.itoa x1).toArray⟩ ++ ⟨#[64]⟩ ++ ⟨(Lib.itoa x2).toArray⟩ : ByteArray).data.toList = 40 :: innerL (l.take (k + 1))) := by
          have h1 := hs.out
          refine hidT ?_
          rw [cat_edge, cat_blank, h1, hi2 (by omega) hlt, hi0]
          simp
        have HS := hid (cat_size (s ++ ⟨#[32]⟩) x1 x2 n1 n2)
        have HS2 := hid (size_blank s)
        clear hi1 hi2 hi0 hs
        go_wp2
        go_roundw
        case rel => exact ⟨k + 1, _, by omega, by go_num, rfl, HF, by have := HS.out; have := HS2.out; omega, hbq⟩
        case measure => simp [intOf]; omega
    · obtain rfl : k = l.length := by omega
      have HF : Hid ((s ++ ⟨#[41]⟩ : ByteArray) = ⟨(textL l).toArray⟩) := by
        have h1 := hs.out
        rw [List.take_length] at h1
        refine hidT (bytes_eq ?_)
        simp [ByteArray.data_append, h1, textL]
      clear hs
      go_wp2
      go_ret
      refine ⟨?_, hbel⟩
      rw [← HF.out]
      simp
end Go.Proofs.YtdjonplcgmfmgaaGreatDoor
