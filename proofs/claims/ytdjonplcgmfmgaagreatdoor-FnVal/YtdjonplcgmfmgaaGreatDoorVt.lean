/- The text of what a key has: plain; both ValText: contracts. -/
import Derived.Test.YtdjonplcgmfmgaaGreatDoorVb
import Derived.Test.YtdjonplcgmfmgaaGreatDoorTj
namespace Go.Proofs.YtdjonplcgmfmgaaGreatDoor
open Go.RowKit
attribute [local go_sem ↓] Go.wp_at_zero Go.wp_at_succ

def vTextL (k n : Int) (l : List (Int × Int)) : List UInt8 := if kindOf k = 0 then Lib.itoa n else textL l
theorem vText_num {k n : Int} {l : List (Int × Int)} (h : kindOf k = 0) : vTextL k n l = Lib.itoa n := by rw [vTextL, if_pos h]
theorem vText_kin {k n : Int} {l : List (Int × Int)} (h : ¬ kindOf k = 0) : vTextL k n l = textL l := by rw [vTextL, if_neg h]

theorem heldText_num (n : Int) (w : World) (h0 : -9223372036854775808 ≤ n) (h1 : n ≤ 9223372036854775807) (ht : Tab w) :
    Calls Tryz.prog 45 #[.iface 101 (.int .i64 n)] w fun e w' => e = .returned (.string ⟨(Lib.itoa n).toArray⟩) ∧ Below w.heap.size w w' := by
  have ha := assert_num n
  have HT := hid ht
  clear ht
  go_enter Tryz.func45, Tryz.ntmps45
  go_wp2_with fail
  refine (itoa_any n _ h0 h1 HT.out).mono ?_
  rintro e w1 ⟨rfl, b1⟩
  go_wp2
  go_ret
  exact ⟨by simp, b1⟩

theorem heldText_kin (v : Value) (l : List (Int × Int)) (w : World) (h : Rd w v l) (hl : l.length ≤ 1048576) (hw : WfL l) (ht : Tab w) :
    Calls Tryz.prog 45 #[.iface 103 v] w fun e w' => e = .returned (.string ⟨(textL l).toArray⟩) ∧ Below w.heap.size w w' := by
  obtain ⟨ao, cap, hv, _⟩ := id h
  subst hv
  have ha := assert_kin (.slice ao l.length cap)
  have hfd : ∀ w, (Instr.field 35 (.agg #[.int .i64 0, .slice ao l.length cap]) 1).run Tryz.prog w = .ok (.slice ao l.length cap) w := fun w => by kernel_rfl
  have HT := hid ht
  clear ht
  go_enter Tryz.func45, Tryz.ntmps45
  go_wp2_with fail
  refine (kinVal_any ao l.length cap _).mono ?_
  rintro e w1 ⟨rfl, b1⟩
  go_wp2_with fail
  refine (implText_any _ l _ (h.later (by go_grown)) hl hw (HT.out.below b1)).mono ?_
  rintro e w2 ⟨rfl, b2⟩
  have c2 : Below w.heap.size w w2 := b1.trans (b2.mono b1.size)
  go_wp2
  go_ret
  exact ⟨by simp, c2⟩

set_option maxHeartbeats 1000000 in
theorem implVText_any (k n : Int) (v : Value) (l : List (Int × Int)) (w : World) (h : Rd w v l) (hl : l.length ≤ 1048576) (hw : WfL l) (h0 : -9223372036854775808 ≤ n) (h1 : n ≤ 9223372036854775807) (ht : Tab w) :
    Calls Tryz.prog 17 #[.int .i64 k, .agg #[.int .i64 n, v]] w fun e w' => e = .returned (.string ⟨(vTextL k n l).toArray⟩) ∧ Below w.heap.size w w' := by
  have HT := hid ht
  clear ht
  by_cases hk : kindOf k = 0
  · rw [vText_num hk]
    go_enter Tryz.func17, Tryz.ntmps17
    go_wp2_with fail
    refine (heldBy_num k n v _ hk).mono ?_
    rintro e w1 ⟨rfl, b1⟩
    have c1 : Below w.heap.size w w1 := (Below.trans (by go_grown) (b1.mono (by first | omega | (simp; done) | (simp; omega))))
    go_wp2_with fail
    refine (heldText_num n _ h0 h1 (HT.out.below c1)).mono ?_
    rintro e w2 ⟨rfl, b2⟩
    have c2 := c1.trans (b2.mono c1.size)
    go_wp2
    go_ret
    exact ⟨by simp, c2⟩
  · have hk' : (kindOf k == 0) = false := by simpa using hk
    rw [vText_kin hk]
    go_enter Tryz.func17, Tryz.ntmps17
    go_wp2_with fail
    refine (heldBy_kin k n v _ hk').mono ?_
    rintro e w1 ⟨rfl, b1⟩
    have c1 : Below w.heap.size w w1 := (Below.trans (by go_grown) (b1.mono (by first | omega | (simp; done) | (simp; omega))))
    go_wp2_with fail
    refine (heldText_kin v l _ (h.later c1) hl hw (HT.out.below c1)).mono ?_
    rintro e w2 ⟨rfl, b2⟩
    have c2 := c1.trans (b2.mono c1.size)
    go_wp2
    go_ret
    exact ⟨by simp, c2⟩

set_option maxHeartbeats 1000000 in
theorem specVText_any (k n : Int) (v : Value) (l : List (Int × Int)) (w : World) (h : Rd w v l) (hl : l.length ≤ 1048576) (hw : WfL l) (h0 : -9223372036854775808 ≤ n) (h1 : n ≤ 9223372036854775807) :
    Calls Tryz.prog 19 #[.int .i64 k, .agg #[.int .i64 n, v]] w fun e w' => e = .returned (.string ⟨(vTextL k n l).toArray⟩) ∧ Below w.heap.size w w' := by
  obtain ⟨ao, cap, hv, _⟩ := id h
  subst hv
  by_cases hk : kindOf k = 0
  · rw [vText_num hk]
    go_enter Tryz.func19, Tryz.ntmps19
    go_wp2_with fail
    refine (specKind_any k _).mono ?_
    rintro e w1 ⟨rfl, rfl⟩
    rw [hk]
    go_wp2_with fail
    refine (dec_any n _ h0 h1).mono ?_
    rintro e w2 ⟨rfl, b2⟩
    have c2 : Below w.heap.size w w2 := (Below.trans (by go_grown) (b2.mono (by first | omega | (simp; done) | (simp; omega))))
    go_wp2
    go_ret
    exact ⟨by simp, c2⟩
  · have hk' : (kindOf k == 0) = false := by simpa using hk
    rw [vText_kin hk]
    clear hk
    go_enter Tryz.func19, Tryz.ntmps19
    go_wp2_with fail
    refine (specKind_any k _).mono ?_
    rintro e w1 ⟨rfl, rfl⟩
    go_wp2_with fail
    refine (specText_any _ l _ (h.later (by go_grown)) hl hw).mono ?_
    rintro e w2 ⟨rfl, b2⟩
    have c2 : Below w.heap.size w w2 := (Below.trans (by go_grown) (b2.mono (by first | omega | (simp; done) | (simp; omega))))
    go_wp2
    go_ret
    exact ⟨by simp, c2⟩
end Go.Proofs.YtdjonplcgmfmgaaGreatDoor
