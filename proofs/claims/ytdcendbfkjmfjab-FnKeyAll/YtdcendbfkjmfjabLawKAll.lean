/- The law FnKeyAll: its walk. -/
import Derived.Test.YtdcendbfkjmfjabDk
import Derived.Test.YtdcendbfkjmfjabKm
namespace Go.Proofs.Ytdcendbfkjmfjab
open Go.RowKit

/-- How many keys there are of the kinds below a, and of kind a of those below b. -/
def rowsA (a : Int) : Int := if a < 0 then 0 else if a ≤ 3 then 8 * a else 24
def nIn (a b : Int) : Int := rowsA a + (if 0 ≤ a ∧ a < 3 then (if b < 0 then 0 else if b ≤ 8 then b else 8) else 0)
theorem nIn_start (a : Int) : nIn a (-1) = rowsA a := by simp [nIn]
theorem nIn_in {a b : Int} (h0 : 0 ≤ a) (h1 : a < 3) (h2 : 0 ≤ b) (h3 : b < 8) : nIn a (b + 1) = nIn a b + 1 := by
  unfold nIn; simp only [h0, h1, and_self, if_true]; omega
theorem nIn_out {a b : Int} (h : ¬ (0 ≤ a ∧ a < 3 ∧ 0 ≤ b ∧ b < 8)) (h2 : -1 ≤ b) (h3 : b ≤ 8) : nIn a (b + 1) = nIn a b := by
  unfold nIn
  by_cases ha : 0 ≤ a ∧ a < 3
  · simp only [ha, and_self, if_true]; omega
  · simp only [ha, if_false]
theorem nIn_end {a : Int} (h0 : -1 ≤ a) (h1 : a ≤ 3) : nIn a 9 = rowsA (a + 1) := by
  unfold nIn rowsA
  by_cases ha : 0 ≤ a ∧ a < 3
  · simp only [ha, and_self, if_true]; omega
  · simp only [ha, if_false]; omega
theorem nIn_bound (a b : Int) : 0 ≤ nIn a b ∧ nIn a b ≤ 32 := by
  unfold nIn rowsA
  constructor <;> (repeat' split) <;> omega

set_option maxHeartbeats 2000000 in
theorem lawKAll_any (v : Value) (n : Nat) (w : World) (h : Bs w v n) :
    Calls Try.prog 3 #[v] w fun e w' => e = .returned (.bool true) ∧ Below w.heap.size w w' := by
  obtain ⟨ao, cap, hv, h0, _⟩ := id h
  subst hv
  unfold maxLen at h0
  by_cases hbig : 1048576 < n
  · go_enter Try.func3, Try.ntmps3
    go_wp2
    go_ret
    exact ⟨rfl, Below.refl _ _⟩
  · go_enter Try.func3, Try.ntmps3
    go_wp2_with fail
    refine (drawKeyMake_any _ n _ h).mono ?_
    rintro e w1 ⟨kind, who, rfl, hr, b1⟩
    go_wp2_with fail
    refine (implMake_any kind who _).mono ?_
    rintro e w2 ⟨rfl, rfl⟩
    obtain ⟨K, hK⟩ : ∃ K, keyOf kind who = K := ⟨_, rfl⟩
    have HK := hid hK
    rw [hK]
    clear hK
    go_wp2_with fail
    go_loop [6, 7] (fun s a => ∃ i : Int, -1 ≤ i ∧ i ≤ 4 ∧ a = .int .i64 i ∧ s = .int .i64 (rowsA i)) (fun _ a => (4 - intOf a).toNat)
    case atStart => exact ⟨-1, by omega, by omega, rfl, rfl⟩
    case round =>
      obtain ⟨a, ha0, ha1, rfl, rfl⟩ := hrel
      by_cases ha : a ≤ 3
      · go_wp2_with fail
        go_loop [6, 8] (fun s b => ∃ i : Int, -1 ≤ i ∧ i ≤ 9 ∧ b = .int .i64 i ∧ s = .int .i64 (nIn a i)) (fun _ b => (9 - intOf b).toNat)
        case atStart => exact ⟨-1, by omega, by omega, rfl, by rw [nIn_start]⟩
        case round =>
          obtain ⟨b, hb0, hb1, rfl, rfl⟩ := hrel
          by_cases hb : b ≤ 8
          · by_cases hin : 0 ≤ a ∧ a < 3 ∧ 0 ≤ b ∧ b < 8
            · have hx := keyOf_in hin.1 hin.2.1 hin.2.2.1 hin.2.2.2
              have hnx := nIn_in hin.1 hin.2.1 hin.2.2.1 hin.2.2.2
              have hbd := nIn_bound a b
              by_cases he : a * 8 + b = K
              · have hkin : 0 ≤ kind ∧ kind < 3 ∧ 0 ≤ who ∧ who < 8 := by
                  apply Classical.byContradiction
                  intro hno
                  have := keyOf_out hno
                  have := HK.out
                  omega
                have hk2 := keyOf_in hkin.1 hkin.2.1 hkin.2.2.1 hkin.2.2.2
                have hk3 := HK.out
                have e1 : (a != kind) = false := by simp; omega
                have e2 : (b != who) = false := by simp; omega
                have e3 : ((a * 8 + b) == K) = true := by simp [he]
                have e4 : 0 ≤ K := by omega
                have e5 : ¬ (24 ≤ a * 8 + b) := by omega
                have e6 : 0 ≤ a * 8 + b := by omega
                clear hk2 hk3 hkin he
                go_wp2_with fail
                refine (implMake_any a b _).mono ?_
                rintro e w3 ⟨rfl, rfl⟩
                rw [hx]
                clear hx
                go_wp2_with fail
                exact ⟨⟨b + 1, by omega, by omega, rfl, by rw [hnx]⟩, by simp [intOf]; omega⟩
              · have e3 : ((a * 8 + b) == K) = false := by simp [he]
                have e5 : ¬ (24 ≤ a * 8 + b) := by omega
                have e6 : 0 ≤ a * 8 + b := by omega
                clear he
                go_wp2_with fail
                refine (implMake_any a b _).mono ?_
                rintro e w3 ⟨rfl, rfl⟩
                rw [hx]
                clear hx
                go_wp2_with fail
                exact ⟨⟨b + 1, by omega, by omega, rfl, by rw [hnx]⟩, by simp [intOf]; omega⟩
            · have hx := keyOf_out hin
              have hnx := nIn_out hin hb0 hb
              by_cases he : -1 = K
              · have e3 : ((-1 : Int) == K) = true := by simp [he]
                have e4 : ¬ 0 ≤ K := by omega
                clear he
                go_wp2_with fail
                refine (implMake_any a b _).mono ?_
                rintro e w3 ⟨rfl, rfl⟩
                rw [hx]
                clear hx
                go_wp2_with fail
                exact ⟨⟨b + 1, by omega, by omega, rfl, by rw [hnx]⟩, by simp [intOf]; omega⟩
              · have e3 : ((-1 : Int) == K) = false := by simp [he]
                clear he
                go_wp2_with fail
                refine (implMake_any a b _).mono ?_
                rintro e w3 ⟨rfl, rfl⟩
                rw [hx]
                clear hx
                go_wp2_with fail
                exact ⟨⟨b + 1, by omega, by omega, rfl, by rw [hnx]⟩, by simp [intOf]; omega⟩
          · obtain rfl : b = 9 := by omega
            rw [nIn_end ha0 ha]
            go_wp2_with fail
            exact ⟨⟨a + 1, by omega, by omega, rfl, rfl⟩, by simp [intOf]; omega⟩
      · obtain rfl : a = 4 := by omega
        rw [show rowsA 4 = 24 from by decide]
        go_wp2_with fail
        refine (specMake_any kind who _).mono ?_
        rintro e w3 ⟨rfl, rfl⟩
        rw [HK.out]
        go_wp2
        go_ret
        exact ⟨by simp, b1⟩
end Go.Proofs.Ytdcendbfkjmfjab
