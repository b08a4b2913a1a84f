/- The law FnEdgeRange: its walk. -/
import Derived.Test.YtomfimgjkdkpaaaGreatDoorDg
import Derived.Test.YtomfimgjkdkpaaaGreatDoorDs
import Derived.Test.YtomfimgjkdkpaaaGreatDoorErP
import Derived.Test.YtomfimgjkdkpaaaGreatDoorAp
import Derived.Test.YtomfimgjkdkpaaaGreatDoorRv
import Derived.Test.YtomfimgjkdkpaaaGreatDoorRn
import Derived.Test.YtomfimgjkdkpaaaGreatDoorTj
import Derived.Test.YtomfimgjkdkpaaaGreatDoorSame
import Derived.Test.YtomfimgjkdkpaaaGreatDoorOkS
import Derived.Deep.Cut
namespace Go.Proofs.YtomfimgjkdkpaaaGreatDoor
open Go.RowKit
attribute [local go_sem ↓] Go.wp_at_zero Go.wp_at_succ

/-- What is owned elsewhere stays so behind an append onto a row of one's own. -/
theorem own_past {W W' : World} {B base size n : Nat} {e : TypeId} {v u : Value} {l : List (Int × Int)} {xs : List Value} (h : Own W B u l) (hr : W.ownsRow base e size v n xs) (hg : W.grownBy W' v.ownBlock) (hb : ∀ k, u.ownBlock = some k → k < base) : Own W' B u l :=
  World.ownsRow.kept h hg (by
    cases hu : u.ownBlock with
    | none => exact Or.inl rfl
    | some k =>
      refine Or.inr fun e' => ?_
      have h1 := hb k hu
      have h2 := (World.ownsRow.lt hr k e'.symm).1
      omega)

set_option maxRecDepth 100000 in
set_option maxHeartbeats 4000000 in
theorem lawERange_any (v : Value) (n : Nat) (v1 : Value) (m : Nat) (w : World) (h : Bs w v n) (h1 : Bs w v1 m) (hL : Lib4 w) :
    Calls Tryz.prog 3 #[v, v1] w fun e w' => e = .returned (.bool true) ∧ Below w.heap.size w w' := by
  obtain ⟨ao, cap, hv, h0, _⟩ := id h
  subst hv
  obtain ⟨bo, cbp, hv, h2, _⟩ := id h1
  subst hv
  unfold maxLen at h0 h2
  have HL := hid hL
  clear hL
  by_cases hbig : 1048576 < n
  · go_enter Tryz.func3, Tryz.ntmps3
    go_wp2
    all_goals
      go_ret
      exact ⟨rfl, Below.refl _ _⟩
  · by_cases hbig2 : 1048576 < m
    · go_enter Tryz.func3, Tryz.ntmps3
      go_wp2
      go_ret
      exact ⟨rfl, Below.refl _ _⟩
    · go_enter Tryz.func3, Tryz.ntmps3
      go_wp2_with fail
      refine (drawEdgeRange_any _ n _ h).mono ?_
      rintro e w1 ⟨u, l, s, q, rfl, o1, hl, hbd, hs, hq, c1⟩
      have HO1 := hid o1
      have HBD := hid hbd
      clear o1 hbd hs hq
      go_wp2_with fail
      refine (implRange_any _ l s q _ HO1.out.rd (by omega)).mono ?_
      rintro e w2 ⟨p, rfl, o2, b2⟩
      have c2 := c1.trans (b2.mono c1.size)
      have HO2 := hid (HO1.out.later b2)
      have HP2 := hid o2
      clear b2 HO1 o2
      go_wp2_with fail
      refine (specRange_any _ l s q _ HO2.out.rd (by omega)).mono ?_
      rintro e w3 ⟨p', rfl, o3, b3⟩
      have c3 := c2.trans (b3.mono c2.size)
      have HO3 := hid (HO2.out.later b3)
      have HP3 := hid (HP2.out.later b3)
      have HQ3 := hid o3
      clear b3 HO2 o3 HP2
      go_wp2_with fail
      refine (implSame_any _ _ _ _ _ HP3.out.rd HQ3.out.rd).mono ?_
      rintro e w4 ⟨rfl, b4⟩
      rw [eqL_refl]
      have c4 := c3.trans (b4.mono c3.size)
      have HO4 := hid (HO3.out.later b4)
      clear b4 HO3 HP3 HQ3
      go_wp2_with fail
      obtain ⟨k, hk⟩ : ∃ k : Int, (m : Int) % 7 = k := ⟨_, rfl⟩
      have hk0 : 0 ≤ k := by omega
      have hk1 : k ≤ 6 := by omega
      rw [hk]
      clear hk
      obtain ⟨uo, uc, hu, _⟩ := HO4.out.rd
      subst hu
      refine (implRange_any _ l 0 k _ HO4.out.rd (by omega)).mono ?_
      rintro e w5 ⟨pa, rfl, o5, b5⟩
      have c5 := c4.trans (b5.mono c4.size)
      have HO5 := hid (HO4.out.later b5)
      have HA5 := hid o5
      clear b5 HO4 o5
      go_wp2_with fail
      refine (implRange_any _ l k l.length _ HO5.out.rd (by omega)).mono ?_
      rintro e w6 ⟨pb, rfl, o6, b6⟩
      have c6 := c5.trans (b6.mono c5.size)
      have HO6 := hid (HO5.out.later b6)
      have HA6 := hid (HA5.out.later b6)
      have HB6 := hid o6
      clear b6 HO5 HA5 o6
      go_wp2_with fail
      refine (implTime_any _ l 0 k _ HO6.out.rd (by omega)).mono ?_
      rintro e w7 ⟨pc, rfl, o7, b7⟩
      have c7 := c6.trans (b7.mono c6.size)
      have HO7 := hid (HO6.out.later b7)
      have HA7 := hid (HA6.out.later b7)
      have HB7 := hid (HB6.out.later b7)
      have HC7 := hid o7
      clear b7 HO6 HA6 HB6 o7
      go_wp2_with fail
      refine (implTime_any _ l (k + 1) 1000 _ HO7.out.rd (by omega)).mono ?_
      rintro e w8 ⟨pd, rfl, o8, b8⟩
      have c8 := c7.trans (b8.mono c7.size)
      have HO8 := hid (HO7.out.later b8)
      have HA8 := hid (HA7.out.later b8)
      have HB8 := hid (HB7.out.later b8)
      have HC8 := hid (HC7.out.later b8)
      have HD8 := hid o8
      clear b8 HO7 HA7 HB7 HC7 o8
      have HR := hid (World.ownsRow_lit (e := 53) (size := 2) w8 #[] 0 (Nat.le_refl _) (Nat.zero_le _) rfl)
      have cl : Below w8.heap.size w8 (w8.alloc (.cells #[] 53)) := (Below.refl _ w8).alloc (Nat.le_refl _) _
      have HAa := hid (HA8.out.later cl)
      have HBa := hid (HB8.out.later cl)
      have hbb := hid (fun q e => (HB8.out.block q e).2 : ∀ q, pb.ownBlock = some q → q < w8.heap.size)
      have hbs : w8.heap.size ≤ (w8.alloc (.cells #[] 53)).heap.size := by simp
      have hra : (rangeL l 0 k).length ≤ 7 := Nat.le_trans (rangeL_length l 0 k) hl
      have hrb : (rangeL l k l.length).length ≤ 7 := Nat.le_trans (rangeL_length l k l.length) hl
      go_wp2_with (first
        | (at_builtin; refine wpList_append_edges rfl _ _ rfl w5.heap.size w8.heap.size v9 _ _ pb _ (by rfl) (by rfl) HO9.out HB9.out (by omega) (by omega) HS9.out ?_; intro v10 w10 hown10 hgr10; have HOx := hid hown10; have HGx := hid hgr10; clear hown10 hgr10)
        | (at_builtin; refine wpList_append_edges rfl _ _ rfl w4.heap.size w8.heap.size _ 0 _ pa _ (by rfl) (by rfl) HR.out HAa.out (by omega) (by omega) hbs ?_; intro v9 w9 hown9 hgr9; have HO9 := hid hown9; have HG9 := hid hgr9; have HB9 := hid (own_past HBa.out HR.out hgr9 hbb.out); have HS9 := hid (Nat.le_trans hbs hgr9.size); clear hown9 hgr9)
        | fail)
      have e0 : Own w10 w8.heap.size v10 l := by
        have h0 := HOx.out
        have e1 := range_both l k hk0
        generalize rangeL l 0 k = la at h0 e1
        generalize rangeL l k l.length = lb at h0 e1
        subst e1
        unfold Own
        rw [ecells_append, List.length_append]
        simpa using h0
      have d10 : Below w8.heap.size w8 w10 := (cl.grown HG9.out hbs (fun q e => (HR.out.lt q e).1)).grown HGx.out HS9.out (fun q e => (HO9.out.lt q e).1)
      have c10 := c8.trans (d10.mono c8.size)
      have HO10 := hid (HO8.out.later d10)
      have HC10 := hid (HC8.out.later d10)
      have HD10 := hid (HD8.out.later d10)
      have HE10 := hid e0
      clear HOx HGx HO9 HG9 HB9 HS9 HR cl HAa HBa hbb hbs HA8 HB8 HO8 HC8 HD8 d10 e0
      refine (implSame_any _ _ _ _ _ HE10.out.rd HO10.out.rd).mono ?_
      rintro e w11 ⟨rfl, b11⟩
      rw [eqL_refl]
      have c11 := c10.trans (b11.mono c10.size)
      have HO11 := hid (HO10.out.later b11)
      have HC11 := hid (HC10.out.later b11)
      have HD11 := hid (HD10.out.later b11)
      clear b11 HO10 HC10 HD10 HE10
      go_wp2_with fail
      refine (implText_any _ l _ HO11.out.rd (by omega) (bd_wf HBD.out) (HL.out.tab.below c11)).mono ?_
      rintro e w12 ⟨rfl, b12⟩
      have c12 := c11.trans (b12.mono c11.size)
      have HO12 := hid (HO11.out.later b12)
      have HC12 := hid (HC11.out.later b12)
      have HD12 := hid (HD11.out.later b12)
      clear b12 HO11 HC11 HD11
      obtain ⟨tx, htx⟩ : ∃ s : ByteArray, s = ⟨(textL l).toArray⟩ := ⟨_, rfl⟩
      have htl : tx.data.toList = textL l := by rw [htx]
      have hts : tx.size ≤ 1048576 := by
        have h1 : tx.size = (textL l).length := by rw [htx]; rfl
        have := text_len HBD.out
        omega
      rw [← htx]
      have HTX := hid htx
      have HTL := hid htl
      clear htx htl
      go_wp2_with fail
      refine (implRead_any tx _ hts (HL.out.below c12)).mono ?_
      rintro e w13 ⟨⟨vb, lb, bb, rfl, ob, hR⟩, b13⟩
      have c13 := c12.trans (b13.mono c12.size)
      have HO13 := hid (HO12.out.later b13)
      have HC13 := hid (HC12.out.later b13)
      have HD13 := hid (HD12.out.later b13)
      have HB13 := hid ob
      have HRB := hid hR
      clear b13 HO12 HC12 HD12 ob hR
      go_wp2_with fail
      refine (drawEdgeRead_any _ m _ (h1.later c13)).mono ?_
      rintro e w14 ⟨ty, rfl, hty, b14⟩
      have c14 := c13.trans (b14.mono c13.size)
      have HO14 := hid (HO13.out.later b14)
      have HC14 := hid (HC13.out.later b14)
      have HD14 := hid (HD13.out.later b14)
      have HB14 := hid (HB13.out.later b14)
      clear b14 HO13 HC13 HD13 HB13
      go_wp2_with fail
      refine (implRead_any ty _ (by omega) (HL.out.below c14)).mono ?_
      rintro e w15 ⟨⟨vx, lx, bx, rfl, ox, hR⟩, b15⟩
      have c15 := c14.trans (b15.mono c14.size)
      have HO15 := hid (HO14.out.later b15)
      have HC15 := hid (HC14.out.later b15)
      have HD15 := hid (HD14.out.later b15)
      have HB15 := hid (HB14.out.later b15)
      have HX15 := hid ox
      have HRX := hid hR
      clear b15 HO14 HC14 HD14 HB14 ox hR
      go_wp2_with fail
      refine (specRead_any ty _ (by omega)).mono ?_
      rintro e w16 ⟨⟨vt, lt, bt, rfl, _, hR, _⟩, b16⟩
      obtain ⟨_, rfl⟩ := ReadR.unique HRX.out hR
      have c16 := c15.trans (b16.mono c15.size)
      have HO16 := hid (HO15.out.later b16)
      have HC16 := hid (HC15.out.later b16)
      have HD16 := hid (HD15.out.later b16)
      have HB16 := hid (HB15.out.later b16)
      have HX16 := hid (HX15.out.later b16)
      clear b16 HO15 HC15 HD15 HB15 HX15 hR
      have hsv : (⟨(textL l).toArray⟩ : ByteArray) = tx := HTX.out.symm
      cases bx
      case' true =>
        obtain ⟨_, hokx, htx, hlx⟩ : true = true ∧ okL lx = true ∧ textL lx = ty.data.toList ∧ ty.data.toList.length ≤ 200 := by
          rcases HRX.out with h | h
          · exact h
          · cases h.1
        have hlxn := readR_length HRX.out
        have hty2 : (⟨(textL lx).toArray⟩ : ByteArray) = ty := by rw [htx]
        have HTY := hid hty2
        have hwx := wf_ok hokx
        clear htx hlx hty2
        go_wp2_with fail
        refine (implText_any _ lx _ HX16.out.rd (by omega) hwx (HL.out.tab.below c16)).mono ?_
        rintro e w17 ⟨rfl, b17⟩
        rw [HTY.out]
        have c17 := c16.trans (b17.mono c16.size)
        have HO17 := hid (HO16.out.later b17)
        have HC17 := hid (HC16.out.later b17)
        have HD17 := hid (HD16.out.later b17)
        have HB17 := hid (HB16.out.later b17)
        clear b17 HO16 HC16 HD16 HB16 HX16
      case' false =>
        generalize w16 = w17 at *
        have HO17 := HO16
        have HC17 := HC16
        have HD17 := HD16
        have HB17 := HB16
        have c17 := c16
        clear HO16 HC16 HD16 HB16 HX16 c16
      all_goals
        go_wp2_with fail
        refine (specText_any _ l _ HO17.out.rd (by omega) (bd_wf HBD.out)).mono ?_
        rintro e w18 ⟨rfl, b18⟩
        rw [hsv]
        have c18 := c17.trans (b18.mono c17.size)
        have HO18 := hid (HO17.out.later b18)
        have HC18 := hid (HC17.out.later b18)
        have HD18 := hid (HD17.out.later b18)
        have HB18 := hid (HB17.out.later b18)
        clear b18 HO17 HC17 HD17 HB17
        go_wp2_with fail
        refine (specOk_any _ l _ HO18.out.rd).mono ?_
        rintro e w19 ⟨rfl, b19⟩
        have c19 := c18.trans (b19.mono c18.size)
        have HO19 := hid (HO18.out.later b19)
        have HC19 := hid (HC18.out.later b19)
        have HD19 := hid (HD18.out.later b19)
        have HB19 := hid (HB18.out.later b19)
        clear b19 HO18 HC18 HD18 HB18
        cases hok : okL l with
        | false =>
          go_wp2
          go_ret
          exact ⟨by simp, c19⟩
        | true =>
          obtain ⟨hlb, hbb⟩ := ReadR.unique HRB.out (Or.inl ⟨rfl, hok, HTL.out.symm, by rw [HTL.out]; have := text_short hok; omega⟩)
          subst hbb
          rw [hlb] at HB19
          have hboth := times_both hok k
          have hlens := times_length hok k
          generalize l.filter (inTime 0 k) = lc at *
          generalize l.filter (inTime (k + 1) 1000) = ld at *
          have HBO := hid hboth
          clear hboth hok hlb
          obtain ⟨co, cc, hc, _⟩ := HC19.out.rd
          subst hc
          obtain ⟨do', dc, hd, _⟩ := HD19.out.rd
          subst hd
          have hlc : lc.length ≤ 7 := by omega
          have hld : ld.length ≤ 7 := by omega
          have hlen2 : (lc.length : Int) + (ld.length : Int) = (l.length : Int) := by omega
          go_wp2_with fail
          refine (implSame_any _ _ _ _ _ HB19.out.rd HO19.out.rd).mono ?_
          rintro e w20 ⟨rfl, b20⟩
          rw [eqL_refl]
          have c20 := c19.trans (b20.mono c19.size)
          have HO20 := hid (HO19.out.later b20)
          have HC20 := hid (HC19.out.later b20)
          have HD20 := hid (HD19.out.later b20)
          clear b20 HO19 HC19 HD19 HB19
          have HR := hid (World.ownsRow_lit (e := 53) (size := 2) w20 #[] 0 (Nat.le_refl _) (Nat.zero_le _) rfl)
          have cl : Below w20.heap.size w20 (w20.alloc (.cells #[] 53)) := (Below.refl _ w20).alloc (Nat.le_refl _) _
          have HCa := hid (HC20.out.later cl)
          have HDa := hid (HD20.out.later cl)
          have hbb := hid (fun q e => (HC20.out.block q e).2 : ∀ q, (Value.slice co lc.length cc).ownBlock = some q → q < w20.heap.size)
          have hbs : w20.heap.size ≤ (w20.alloc (.cells #[] 53)).heap.size := by simp
          go_wp2_with (first
            | (at_builtin; refine wpList_append_edges_if (by rfl) _ _ rfl w6.heap.size w20.heap.size v21 _ _ (.slice co lc.length cc) lc (by rfl) (by rfl) HO21.out HC21.out (by omega) (by omega) HS21.out ?_; intro v22 w22 hown22 hgr22; have HOx := hid hown22; have HGx := hid hgr22; clear hown22 hgr22)
            | (at_builtin; refine wpList_append_edges_if (by rfl) _ _ rfl w7.heap.size w20.heap.size _ 0 _ (.slice do' ld.length dc) ld (by rfl) (by rfl) HR.out HDa.out (by omega) (by omega) hbs ?_; intro v21 w21 hown21 hgr21; have HO21 := hid hown21; have HG21 := hid hgr21; have HC21 := hid (own_past HCa.out HR.out hgr21 hbb.out); have HS21 := hid (Nat.le_trans hbs hgr21.size); clear hown21 hgr21)
            | fail)
          have e0 : Own w22 w20.heap.size v22 l := by
            have h0 := HOx.out
            have e1 := HBO.out
            subst e1
            unfold Own
            rw [ecells_append, List.length_append]
            simpa using h0
          have d22 : Below w20.heap.size w20 w22 := (cl.grown HG21.out hbs (fun q e => (HR.out.lt q e).1)).grown HGx.out HS21.out (fun q e => (HO21.out.lt q e).1)
          have c22 := c20.trans (d22.mono c20.size)
          have HO22 := hid (HO20.out.later d22)
          have HE22 := hid e0
          clear HOx HGx HO21 HG21 HC21 HS21 HR cl HCa HDa hbb hbs HC20 HD20 HO20 d22 e0
          refine (implSame_any _ _ _ _ _ HE22.out.rd HO22.out.rd).mono ?_
          rintro e w23 ⟨rfl, b23⟩
          rw [eqL_refl]
          have c23 := c22.trans (b23.mono c22.size)
          clear b23
          go_wp2
          go_ret
          exact ⟨by simp, c23⟩
end Go.Proofs.YtomfimgjkdkpaaaGreatDoor
