/- The law FnEdge: its walk. -/
import Derived.Test.YtdcendbfkjmfjaaDa
import Derived.Test.YtdcendbfkjmfjaaEdP
import Derived.Test.YtdcendbfkjmfjaaSame
import Derived.Test.YtdcendbfkjmfjaaHas
namespace Go.Proofs.Ytdcendbfkjmfjaa
open Go.RowKit
attribute [local go_sem ↓] Go.wp_at_zero Go.wp_at_succ

set_option maxRecDepth 100000 in
set_option maxHeartbeats 4000000 in
theorem lawEAdd_any (v : Value) (n : Nat) (w : World) (h : Bs w v n) :
    Calls Try.prog 3 #[v] w fun e w' => e = .returned (.bool true) ∧ Below w.heap.size w w' := by
  obtain ⟨ao, cap, hv, h0, _⟩ := id h
  subst hv
  unfold maxLen at h0
  by_cases hbig : 1048576 < n
  · go_enter Try.func3, Try.ntmps3
    go_wp2
    go_ret
    exact ⟨rfl, Below.refl _ _⟩
  · go_enter Try.func3, Try.ntmps3
    go_wp2_with fail
    refine (drawEdgeAdd_any _ n _ h).mono ?_
    rintro e w1 ⟨u, l, who, at', rfl, o1, hl, c1⟩
    obtain ⟨uo, ucap, hu, _⟩ := o1.rd
    subst hu
    have HO := hid o1
    clear o1
    have hxl0 := addL_length l who at'
    go_wp2_with fail
    refine (implAdd_any _ l who at' _ HO.out.rd (by omega)).mono ?_
    rintro e w2 ⟨x, rfl, ox, b2⟩
    have c2 := c1.trans (b2.mono c1.size)
    have HO2 := hid (HO.out.later b2)
    obtain ⟨xo, xcap, hx, _⟩ := ox.rd
    subst hx
    have HX2 := hid ox
    clear b2 HO ox
    go_wp2_with fail
    refine (specAdd_any _ l who at' _ HO2.out.rd (by omega)).mono ?_
    rintro e w3 ⟨y, rfl, oy, b3⟩
    have c3 := c2.trans (b3.mono c2.size)
    have HO3 := hid (HO2.out.later b3)
    have HX3 := hid (HX2.out.later b3)
    have HY3 := hid oy
    clear b3 HO2 HX2 oy
    go_wp2_with fail
    refine (implSame_any _ _ _ _ _ HX3.out.rd HY3.out.rd).mono ?_
    rintro e w4 ⟨rfl, b4⟩
    rw [eqL_refl]
    have c4 := c3.trans (b4.mono c3.size)
    have HO4 := hid (HO3.out.later b4)
    have HX4 := hid (HX3.out.later b4)
    clear b4 HO3 HX3 HY3
    go_wp2_with fail
    refine (implOk_any _ l _ HO4.out.rd).mono ?_
    rintro e w5 ⟨rfl, b5⟩
    have c5 := c4.trans (b5.mono c4.size)
    have HO5 := hid (HO4.out.later b5)
    have HX5 := hid (HX4.out.later b5)
    clear b5 HO4 HX4
    obtain ⟨ok, hokd⟩ : ∃ q, okL l = q := ⟨_, rfl⟩
    rw [hokd]
    go_wp2_with fail
    refine (specOk_any _ l _ HO5.out.rd).mono ?_
    rintro e w6 ⟨rfl, b6⟩
    rw [hokd]
    have c6 := c5.trans (b6.mono c5.size)
    have HO6 := hid (HO5.out.later b6)
    have HX6 := hid (HX5.out.later b6)
    clear b6 HO5 HX5
    have HK := hid hokd
    clear hokd
    cases hp : addB l who at' with
    | false =>
      have hx0 : (addL l who at').length = 0 := by rw [addL_no hp]; rfl
      clear HX6
      rw [hx0]
      go_wp2
      go_ret
      exact ⟨by simp, c6⟩
    | true =>
      obtain ⟨hok, hr⟩ := addB_iff.1 hp
      have hx1 := addL_yes hp
      rw [hx1] at HX6
      have hpl := put_length (who := who) (at' := at') hok
      have hokx := okL_put hok hr
      have hhas := put_has hok hr
      have hdrop := put_drop hok hr
      have hHP := hid (And.intro hok hr)
      have hd1 : dropB (putL l who at') who = true := by rw [dropB_has hokx, hhas]
      have hd2 : dropL (putL l who at') who = l.filter (notWho who) := by rw [dropL_yes hokx, hdrop]
      have hd3 := dropB_has (who := who) hok
      have hd4 := dropL_yes (who := who) hok
      obtain ⟨t0, had, hhad⟩ : ∃ t b, hasL l who = (t, b) := ⟨_, _, rfl⟩
      rw [hhad] at hpl hd3
      have HHad := hid hhad
      obtain ⟨X, hX⟩ : ∃ X, putL l who at' = X := ⟨_, rfl⟩
      have HXE := hid hX
      rw [hx1, hX]
      rw [hX] at HX6 hpl hokx hhas hd1 hd2
      have hX8 : X.length ≤ 8 := by
        rw [hpl]; split <;> omega
      have HLEN := hid hpl
      have HD := hid (And.intro hd1 (And.intro hd2 (And.intro hd3 hd4)))
      have HHas := hid hhas
      have HOKX := hid hokx
      clear hx1 hX hp hok hr hdrop hpl hd1 hd2 hd3 hd4 hhad hhas hokx
      go_wp2_with fail
      refine (implHas_any _ X who _ HX6.out.rd).mono ?_
      rintro e w7 ⟨rfl, b7⟩
      rw [HHas.out]
      have c7 := c6.trans (b7.mono c6.size)
      have HO7 := hid (HO6.out.later b7)
      have HX7 := hid (HX6.out.later b7)
      clear b7 HO6 HX6
      go_wp2_with fail
      refine (implHas_any _ l who _ HO7.out.rd).mono ?_
      rintro e w8 ⟨rfl, b8⟩
      rw [HHad.out]
      have c8 := c7.trans (b8.mono c7.size)
      have HO8 := hid (HO7.out.later b8)
      have HX8 := hid (HX7.out.later b8)
      clear b8 HO7 HX7
      go_wp2_with fail
      refine (implDrop_any _ X who _ HX8.out.rd (by omega)).mono ?_
      rintro e w9 ⟨z, rfl, oz, b9⟩
      rw [HD.out.1]
      rw [HD.out.2.1] at oz
      have c9 := c8.trans (b9.mono c8.size)
      have HO9 := hid (HO8.out.later b9)
      have HX9 := hid (HX8.out.later b9)
      have HZ9 := hid oz
      clear b9 HO8 HX8 oz
      go_wp2_with fail
      refine (implDrop_any _ l who _ HO9.out.rd (by omega)).mono ?_
      rintro e w10 ⟨g, rfl, og, b10⟩
      rw [HD.out.2.2.1]
      rw [HD.out.2.2.2] at og
      have c10 := c9.trans (b10.mono c9.size)
      have HO10 := hid (HO9.out.later b10)
      have HX10 := hid (HX9.out.later b10)
      have HZ10 := hid (HZ9.out.later b10)
      have HG10 := hid og
      clear b10 HO9 HX9 HZ9 og
      go_wp2_with fail
      refine (implOk_any _ X _ HX10.out.rd).mono ?_
      rintro e w11 ⟨rfl, b11⟩
      rw [HOKX.out]
      have c11 := c10.trans (b11.mono c10.size)
      have HO11 := hid (HO10.out.later b11)
      have HX11 := hid (HX10.out.later b11)
      have HZ11 := hid (HZ10.out.later b11)
      have HG11 := hid (HG10.out.later b11)
      clear b11 HO10 HX10 HZ10 HG10
      go_wp2_with fail
      refine (implSame_any _ _ _ _ _ HZ11.out.rd HG11.out.rd).mono ?_
      rintro e w12 ⟨rfl, b12⟩
      rw [eqL_refl]
      have c12 := c11.trans (b12.mono c11.size)
      have HO12 := hid (HO11.out.later b12)
      have HX12 := hid (HX11.out.later b12)
      clear b12 HO11 HX11 HZ11 HG11
      go_wp2_with fail
      go_loopw [18] (fun i wr => ∃ k : Nat, k ≤ 8 ∧ i = .int .i64 k ∧ Below w12.heap.size w12 wr) (fun i _ => 8 - (intOf i).toNat)
      case atStart => exact ⟨0, Nat.zero_le _, rfl, Below.refl _ _⟩
      case round =>
        obtain ⟨k, hk, rfl, hbel⟩ := hrel
        by_cases hlt : k < 8
        · have hk8 : (k : Int) < 8 := by omega
          have HOr := hid (HO12.out.later hbel)
          have HXr := hid (HX12.out.later hbel)
          obtain ⟨ra, rp, hra⟩ : ∃ a b, hasL l (k : Int) = (a, b) := ⟨_, _, rfl⟩
          go_wp2_with fail
          refine (implHas_any _ l (k : Int) _ HOr.out.rd).mono ?_
          rintro e w13 ⟨rfl, b13⟩
          rw [hra]
          have HXs := hid (HXr.out.later b13)
          have c13 := hbel.trans (b13.mono hbel.size)
          clear b13 HXr HOr
          by_cases hkw : (k : Int) = who
          · obtain ⟨rb, rq, hrb⟩ : ∃ a b, hasL X (k : Int) = (a, b) := ⟨_, _, rfl⟩
            have hkw' : ((k : Int) != who) = false := by simp [hkw]
            clear hkw hra
            go_wp2_with fail
            refine (implHas_any _ X (k : Int) _ HXs.out.rd).mono ?_
            rintro e w14 ⟨rfl, b14⟩
            rw [hrb]
            have c14 := c13.trans (b14.mono c13.size)
            clear b14 hrb
            go_wp2
            go_roundw
            case rel => exact ⟨k + 1, by omega, by go_num, c14⟩
            case measure => simp [intOf]; omega
          · have hrb : hasL X (k : Int) = (ra, rp) := by
              rw [← HXE.out, put_other hHP.out.1 hHP.out.2 hkw, hra]
            have hkw' : ((k : Int) != who) = true := by simpa using hkw
            clear hkw hra
            go_wp2_with fail
            refine (implHas_any _ X (k : Int) _ HXs.out.rd).mono ?_
            rintro e w14 ⟨rfl, b14⟩
            rw [hrb]
            have c14 := c13.trans (b14.mono c13.size)
            clear b14 hrb
            go_wp2
            go_roundw
            case rel => exact ⟨k + 1, by omega, by go_num, c14⟩
            case measure => simp [intOf]; omega
        · have hk8 : k = 8 := by omega
          subst hk8
          have c13 := c12.trans (hbel.mono c12.size)
          cases had with
          | false =>
            have hXl : X.length = l.length + 1 := by have := HLEN.out; simpa using this
            clear HX12
            rw [hXl]
            go_wp2
            go_ret
            exact ⟨by simp, c13⟩
          | true =>
            have hXl : X.length = l.length := by have := HLEN.out; simpa using this
            clear HX12
            rw [hXl]
            go_wp2
            go_ret
            exact ⟨by simp, c13⟩
end Go.Proofs.Ytdcendbfkjmfjaa
