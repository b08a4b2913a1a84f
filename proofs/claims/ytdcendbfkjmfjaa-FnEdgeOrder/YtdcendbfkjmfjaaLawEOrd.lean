/- The law FnEdgeOrder: its walk. -/
import Derived.Test.YtdcendbfkjmfjaaDa
import Derived.Test.YtdcendbfkjmfjaaEdP
import Derived.Test.YtdcendbfkjmfjaaSame
namespace Go.Proofs.Ytdcendbfkjmfjaa
open Go.RowKit
attribute [local go_sem ↓] Go.wp_at_zero Go.wp_at_succ

set_option maxHeartbeats 4000000 in
theorem lawEOrd_any (v : Value) (n : Nat) (v1 : Value) (m : Nat) (w : World) (h : Bs w v n) (h1 : Bs w v1 m) :
    Calls Try.prog 4 #[v, v1] w fun e w' => e = .returned (.bool true) ∧ Below w.heap.size w w' := by
  obtain ⟨ao, cap, hv, h0, _⟩ := id h
  subst hv
  obtain ⟨bo, cbp, hv, h2, _⟩ := id h1
  subst hv
  unfold maxLen at h0 h2
  by_cases hbig : 1048576 < n
  · go_enter Try.func4, Try.ntmps4
    go_wp2
    all_goals
      go_ret
      exact ⟨rfl, Below.refl _ _⟩
  · by_cases hbig2 : 1048576 < m
    · go_enter Try.func4, Try.ntmps4
      go_wp2
      go_ret
      exact ⟨rfl, Below.refl _ _⟩
    · go_enter Try.func4, Try.ntmps4
      go_wp2_with fail
      refine (drawEdgeAdd_any _ n _ h).mono ?_
      rintro e w1 ⟨u, l, who, at', rfl, o1, hl, c1⟩
      have HO := hid o1
      clear o1
      go_wp2_with fail
      refine (drawEdgeAdd_any _ m _ (h1.later c1)).mono ?_
      rintro e w2 ⟨u', l', other, when', rfl, _, _, b2⟩
      have c2 := c1.trans (b2.mono c1.size)
      have HO2 := hid (HO.out.later b2)
      clear b2 HO
      go_wp2_with fail
      refine (implAdd_any _ l who at' _ HO2.out.rd (by omega)).mono ?_
      rintro e w3 ⟨x, rfl, ox, b3⟩
      have c3 := c2.trans (b3.mono c2.size)
      have HO3 := hid (HO2.out.later b3)
      have HX := hid ox
      clear b3 HO2 ox
      go_wp2_with fail
      refine (specAdd_any _ l who at' _ HO3.out.rd (by omega)).mono ?_
      rintro e w4 ⟨y0, rfl, _, b4⟩
      have c4 := c3.trans (b4.mono c3.size)
      have HO4 := hid (HO3.out.later b4)
      have HX4 := hid (HX.out.later b4)
      clear b4 HO3 HX
      go_wp2_with fail
      refine (implAdd_any _ l other when' _ HO4.out.rd (by omega)).mono ?_
      rintro e w5 ⟨y, rfl, oy, b5⟩
      have c5 := c4.trans (b5.mono c4.size)
      have HX5 := hid (HX4.out.later b5)
      have HY := hid oy
      clear b5 HO4 HX4 oy
      cases hp : addB l who at' with
      | false =>
        go_wp2
        go_ret
        exact ⟨by simp, c5⟩
      | true =>
        cases hq : addB l other when' with
        | false =>
          go_wp2
          go_ret
          exact ⟨by simp, c5⟩
        | true =>
          obtain ⟨hok, hr⟩ := addB_iff.1 hp
          obtain ⟨_, hr2⟩ := addB_iff.1 hq
          have hx1 := addL_yes hp
          have hy1 := addL_yes hq
          rw [hx1] at HX5
          rw [hy1] at HY
          clear hx1 hy1 hp hq
          have hxl : (putL l who at').length ≤ 8 := by rw [put_length hok]; split <;> omega
          have hyl : (putL l other when').length ≤ 8 := by rw [put_length hok]; split <;> omega
          have hokx := okL_put hok hr
          have hoky := okL_put hok hr2
          have ha1 := addL_yes (addB_iff.2 ⟨hokx, hr2⟩)
          have hb1 := addL_yes (addB_iff.2 ⟨hoky, hr⟩)
          have HP := hid (And.intro hok (And.intro hr hr2))
          clear hok hokx hoky hr hr2
          go_wp2_with fail
          refine (implAdd_any _ _ other when' _ HX5.out.rd (by omega)).mono ?_
          rintro e w6 ⟨a, rfl, oa, b6⟩
          have c6 := c5.trans (b6.mono c5.size)
          have HX6 := hid (HX5.out.later b6)
          have HY6 := hid (HY.out.later b6)
          rw [ha1] at oa
          have HA := hid oa
          clear b6 HX5 HY oa ha1
          go_wp2_with fail
          refine (implAdd_any _ _ who at' _ HY6.out.rd (by omega)).mono ?_
          rintro e w7 ⟨b, rfl, ob, b7⟩
          have c7 := c6.trans (b7.mono c6.size)
          have HX7 := hid (HX6.out.later b7)
          have HY7 := hid (HY6.out.later b7)
          have HA7 := hid (HA.out.later b7)
          rw [hb1] at ob
          have HB := hid ob
          clear b7 HX6 HY6 HA ob hb1
          by_cases hne : who = other
          · subst hne
            have hA8 := hid (put_put_eq HP.out.1 HP.out.2.1 HP.out.2.2)
            have hB8 := hid (put_put_eq HP.out.1 HP.out.2.2 HP.out.2.1)
            go_wp2_with fail
            refine (implSame_any _ _ _ _ _ HA7.out.rd HY7.out.rd).mono ?_
            rintro e w8 ⟨rfl, b8⟩
            rw [hA8.out, eqL_refl]
            have c8 := c7.trans (b8.mono c7.size)
            have HB8 := hid (HB.out.later b8)
            have HX8 := hid (HX7.out.later b8)
            go_wp2_with fail
            refine (implSame_any _ _ _ _ _ HB8.out.rd HX8.out.rd).mono ?_
            rintro e w9 ⟨rfl, b9⟩
            rw [hB8.out, eqL_refl]
            have c9 := c8.trans (b9.mono c8.size)
            go_wp2
            go_ret
            exact ⟨by simp, c9⟩
          · have hne' : (who != other) = true := by simpa using hne
            have hA8 := hid (put_put_ne HP.out.1 HP.out.2.1 HP.out.2.2 hne)
            clear hne
            go_wp2_with fail
            refine (implSame_any _ _ _ _ _ HA7.out.rd HB.out.rd).mono ?_
            rintro e w8 ⟨rfl, b8⟩
            rw [hA8.out, eqL_refl]
            have c8 := c7.trans (b8.mono c7.size)
            go_wp2
            go_ret
            exact ⟨by simp, c8⟩
end Go.Proofs.Ytdcendbfkjmfjaa
