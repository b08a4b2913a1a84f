/- The law FnEdgeHas: its walk. -/
import Derived.Test.YtdcendbfkjmfjaaLl
import Derived.Test.YtdcendbfkjmfjaaEhP
import Derived.Test.YtdcendbfkjmfjaaHas
namespace Go.Proofs.Ytdcendbfkjmfjaa
open Go.RowKit
attribute [local go_sem ↓] Go.wp_at_zero Go.wp_at_succ

theorem wbOne_yes (w : World) : Calls Try.prog 17 #[.bool true] w fun e w' => e = .returned (.int .i64 1) ∧ w' = w := by
  go_enter Try.func17, Try.ntmps17
  go_wp2
  go_ret
  exact ⟨rfl, rfl⟩
theorem wbOne_no (w : World) : Calls Try.prog 17 #[.bool false] w fun e w' => e = .returned (.int .i64 0) ∧ w' = w := by
  go_enter Try.func17, Try.ntmps17
  go_wp2
  go_ret
  exact ⟨rfl, rfl⟩

set_option maxHeartbeats 4000000 in
theorem lawEHas_any (v : Value) (n : Nat) (w : World) (h : Bs w v n) :
    Calls Try.prog 5 #[v] w fun e w' => e = .returned (.bool true) ∧ Below w.heap.size w w' := by
  obtain ⟨ao, cap, hv, h0, _⟩ := id h
  subst hv
  unfold maxLen at h0
  by_cases hbig : 1048576 < n
  · go_enter Try.func5, Try.ntmps5
    go_wp2
    go_ret
    exact ⟨rfl, Below.refl _ _⟩
  · go_enter Try.func5, Try.ntmps5
    go_wp2_with fail
    refine (drawEdgeHas_any _ n _ h).mono ?_
    rintro e w1 ⟨u, l, who, rfl, o1, hl, hw, c1⟩
    obtain ⟨uo, ucap, hu, _⟩ := o1.rd
    subst hu
    have HO := hid o1
    clear o1
    obtain ⟨t, b, hhas⟩ : ∃ t b, hasL l who = (t, b) := ⟨_, _, rfl⟩
    have HH := hid hhas
    go_wp2_with fail
    refine (implHas_any _ l who _ HO.out.rd).mono ?_
    rintro e w2 ⟨rfl, b2⟩
    have c2 := c1.trans (b2.mono c1.size)
    have HO2 := hid (HO.out.later b2)
    rw [hhas]
    clear b2 HO
    go_wp2_with fail
    refine (specHas_any _ l who _ HO2.out.rd).mono ?_
    rintro e w3 ⟨rfl, rfl⟩
    rw [hhas]
    clear hhas
    go_wp2_with fail
    refine (implDrop_any _ l who _ HO2.out.rd (by omega)).mono ?_
    rintro e w4 ⟨vd, rfl, od, b4⟩
    have c4 := c2.trans (b4.mono c2.size)
    have HO4 := hid (HO2.out.later b4)
    obtain ⟨dlo, dcap, hd, _⟩ := od.rd
    subst hd
    clear b4 HO2 od
    cases hok : okL l with
    | false =>
      rw [dropB_no hok, dropL_no hok]
      go_wp2_with fail
      refine (specOk_any _ l _ HO4.out.rd).mono ?_
      rintro e w5 ⟨rfl, b5⟩
      have c5 := c4.trans (b5.mono c4.size)
      rw [hok]
      go_wp2
      go_ret
      exact ⟨by simp, c5⟩
    | true =>
      rw [dropB_has hok, dropL_yes hok, HH.out]
      obtain ⟨d, hdl⟩ : ∃ d, (l.filter (notWho who)).length = d := ⟨_, rfl⟩
      rw [hdl]
      have hd8 : d ≤ 7 := by have := List.length_filter_le (notWho who) l; omega
      have HD : Hid ((b = true → d + 1 = l.length) ∧ (b = false → d = l.length)) := by
        refine ⟨fun hb => ?_, fun hb => ?_⟩
        · have := filter_one (who := who) hok (by rw [HH.out]; exact hb)
          omega
        · rw [filter_none (hasL_none (by rw [HH.out]; exact hb))] at hdl
          omega
      have HT : Hid (b = true → 0 < (l.filter (inTime t t)).length) := fun hb => by
        have := hasL_mem (l := l) (who := who) (by rw [HH.out]; exact hb)
        rw [HH.out] at this
        exact List.length_pos_of_mem (List.mem_filter.2 ⟨this, by simp [inTime]⟩)
      have HK := hid hok
      clear hdl
      go_wp2_with fail
      refine (specOk_any _ l _ HO4.out.rd).mono ?_
      rintro e w5 ⟨rfl, b5⟩
      have c5 := c4.trans (b5.mono c4.size)
      have HO5 := hid (HO4.out.later b5)
      rw [hok]
      clear hok b5 HO4
      go_wp2_with fail
      go_loopw [11] (fun i wr => ∃ k : Nat, k ≤ l.length ∧ i = .int .i64 k ∧ Below w5.heap.size w5 wr) (fun i _ => l.length - (intOf i).toNat)
      case atStart => exact ⟨0, Nat.zero_le _, rfl, Below.refl _ _⟩
      case round =>
        obtain ⟨k, hk, rfl, hbel⟩ := hrel
        by_cases hlt : k < l.length
        · have hform : ∃ gg, uo = some ⟨gg, 0, none⟩ := by
            rcases HO5.out.2 with ⟨_, hn⟩ | ⟨gg, _, _, hv, _⟩
            · omega
            · exact ⟨gg, by cases hv; rfl⟩
          obtain ⟨gg, hgg⟩ := hform
          subst hgg
          have HOr := hid (HO5.out.later hbel)
          obtain ⟨x0, x1⟩ := HOr.out.at hlt
          obtain ⟨y0, y1⟩ := HOr.out.at (k := 0) (by omega)
          have hle := okL_first HK.out hlt
          obtain ⟨⟨p1, p2⟩, hp⟩ : ∃ x, l.getD k (0, 0) = x := ⟨_, rfl⟩
          obtain ⟨⟨q1, q2⟩, hq0⟩ : ∃ x, l.getD 0 (0, 0) = x := ⟨_, rfl⟩
          rw [hp] at x0 x1 hle
          rw [hq0] at y0 y1 hle
          have hle' : ¬ (q2 < p2) := by have : p2 ≤ q2 := hle; omega
          clear hp hq0 hle
          go_wp2_with fail
          have r0 := cell_regrown x0
          have r1 := cell_regrown x1
          have r2 := cell_regrown y0
          have r3 := cell_regrown y1
          refine wp_region_quiet_below (by kernel_rfl) (by kernel_rfl) ?_
          repeat (first | go_big_quiet_skip | (go_big_quiet_want; go_big_quiet_op; first | go_big_quiet_on | go_big_quiet_call (first | (fail))))
          refine wpQuiet_nil ?_
          rintro wq ⟨pq, hwq⟩
          have hq : Below wr.heap.size wr wq := by rw [hwq]; exact below_regrown _ _ _
          clear hwq pq
          clear r0 r1 r2 r3
          have hbq := hbel.trans (hq.mono hbel.size)
          go_wp2
          go_roundw
          case rel => exact ⟨k + 1, by omega, by go_num, hbq⟩
          case measure => simp [intOf]; omega
        · have hkl : k = l.length := by omega
          subst hkl
          cases b with
          | false =>
            have hd' := HD.out.2 rfl
            subst hd'
            go_wp2_with fail
            refine (wbOne_no _).mono ?_
            rintro e wy ⟨rfl, rfl⟩
            go_wp2_with fail
            refine (implTime_any _ l t t _ (HO5.out.later hbel).rd (by omega)).mono ?_
            rintro e w7 ⟨vt, rfl, ot, b7⟩
            have c7 := (c5.trans (hbel.mono c5.size)).trans (b7.mono (Nat.le_trans c5.size hbel.size))
            obtain ⟨_, _, ht, _⟩ := ot.rd
            subst ht
            clear ot b7
            go_wp2_with fail
            refine (wbOne_no _).mono ?_
            rintro e wy ⟨rfl, rfl⟩
            go_wp2
            go_ret
            exact ⟨by simp, c7⟩
          | true =>
            have hd' := HD.out.1 rfl
            obtain ⟨m, hm⟩ : ∃ m, (l.filter (inTime t t)).length = m := ⟨_, rfl⟩
            have hm0 := HT.out rfl
            rw [hm] at hm0
            go_wp2_with fail
            refine (wbOne_yes _).mono ?_
            rintro e wy ⟨rfl, rfl⟩
            go_wp2_with fail
            refine (implTime_any _ l t t _ (HO5.out.later hbel).rd (by omega)).mono ?_
            rintro e w7 ⟨vt, rfl, ot, b7⟩
            have c7 := (c5.trans (hbel.mono c5.size)).trans (b7.mono (Nat.le_trans c5.size hbel.size))
            obtain ⟨_, _, ht, _⟩ := ot.rd
            subst ht
            clear ot b7
            rw [hm]
            clear hm
            go_wp2_with fail
            refine (wbOne_yes _).mono ?_
            rintro e wy ⟨rfl, rfl⟩
            go_wp2
            go_ret
            exact ⟨by simp; omega, c7⟩
end Go.Proofs.Ytdcendbfkjmfjaa
