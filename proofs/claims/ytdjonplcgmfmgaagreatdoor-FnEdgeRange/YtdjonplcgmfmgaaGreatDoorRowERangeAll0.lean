/- Proved here: FnEdgeRange returns true for every two slices of bytes (no condition on them; the library's tables and errors hold what start-up lays: the card ties them); what it was handed reads as before. -/
import Derived.Test.YtdjonplcgmfmgaaGreatDoorLl
import Derived.Test.YtdjonplcgmfmgaaGreatDoorRa
import Derived.Test.YtdjonplcgmfmgaaGreatDoorTi
import Derived.Test.YtdjonplcgmfmgaaGreatDoorOkP
import Derived.Test.YtdjonplcgmfmgaaGreatDoorSo
import Derived.Test.YtdjonplcgmfmgaaGreatDoorDs
import Derived.Test.YtdjonplcgmfmgaaGreatDoorAp
import Derived.Test.YtdjonplcgmfmgaaGreatDoorRv
import Derived.Test.YtdjonplcgmfmgaaGreatDoorRn
import Derived.Test.YtdjonplcgmfmgaaGreatDoorTj
import Derived.Test.YtdjonplcgmfmgaaGreatDoorSame
import Derived.Test.YtdjonplcgmfmgaaGreatDoorOkS
import Derived.Deep.Cut
import Derived.Test.YtdjonplcgmfmgaaGreatDoorRw
import Derived.HandedShaped
import Derived.Handed
import Derived.Shelf.Vars
import Derived.MakeChecks
import Derived.Stop.LaidErr
import Derived.LaidMore
import Derived.Test.YtdjonplcgmfmgaaGreatDoorRows
import Derived.WalkKit
import Derived.ProofKit
import Derived.Test.YtdjonplcgmfmgaaGreatDoorDk
import Derived.OpenShut
import Derived.Deep.SlicePairs
import Derived.Test.YtdjonplcgmfmgaaGreatDoorCards
import Derived.Test.YtdjonplcgmfmgaaGreatDoorTie
import Derived.Lay
import Derived.ChangeMaps5
import Derived.Stop.Joined
import Derived.SevenTiedAt
/- Part: The draw of a list and two numbers: contract. -/
namespace Go.Proofs.YtdjonplcgmfmgaaGreatDoor
open Go.RowKit

set_option maxHeartbeats 1000000 in
theorem drawEdgeRange_any (v : Value) (n : Nat) (w : World) (h : Bs w v n) :
    Calls Tryz.prog 5 #[v] w fun e w' => ∃ u l a b, e = .returned (.tuple #[u, .int .i64 a, .int .i64 b]) ∧ Own w' w.heap.size u l ∧ l.length ≤ 7 ∧ BdL l ∧ (-1 ≤ a ∧ a ≤ 6) ∧ (-1 ≤ b ∧ b ≤ 6) ∧ Below w.heap.size w w' := by
  obtain ⟨ao, cap, rfl, h0, h1, h2, h3⟩ := h
  go_enter Tryz.func5, Tryz.ntmps5
  go_wp2_with fail
  refine (open_any ao n cap _ h0 h1 h2 h3).mono ?_
  rintro e w1 ⟨g, rfl, R1, b1⟩
  go_wp2_with fail
  refine (l1List_any g 0 w.heap.size _ R1 (by omega)).mono ?_
  rintro e w2 ⟨u, l, q, rfl, L, hl, _, hq, hbd⟩
  have b2 : Below w.heap.size w w2 := b1.grown L.2.2.1 b1.size (fun k e => by cases e; exact R1.1)
  have HL := hid L
  have HB := hid hbd
  clear L hbd
  go_wp2_with fail
  refine (pick_any g q 8 w.heap.size _ HL.out.2.1 (by omega) (by omega)).mono ?_
  rintro e w3 ⟨a, rfl, ha0, ha1, R3, g3⟩
  have ha := ha1 (by omega)
  have L3 := hid (HL.out.kept R3 g3)
  have b3 : Below w.heap.size w w3 := b2.grown g3 b2.size (fun k e => by cases e; exact R1.1)
  clear R3 g3 HL ha1
  go_wp2_with fail
  refine (pick_any g (q + 1) 8 w.heap.size _ L3.out.2.1 (by omega) (by omega)).mono ?_
  rintro e w4 ⟨b, rfl, hb0, hb1, R4, g4⟩
  have hb := hb1 (by omega)
  have L4 := hid (L3.out.kept R4 g4)
  have b4 : Below w.heap.size w w4 := b3.grown g4 b3.size (fun k e => by cases e; exact R1.1)
  clear R4 g4 L3 hb1
  go_wp2
  go_ret3
  exact ⟨u, l, a - 1, b - 1, by simp, L4.out.1.mono b1.size, hl, HB.out, by omega, by omega, b4⟩
end Go.Proofs.YtdjonplcgmfmgaaGreatDoor

/- Part: Plain: a list is its first ones and then the others; an ok list's later ones and then the earlier ones. -/
namespace Go.Proofs.YtdjonplcgmfmgaaGreatDoor

theorem range_both (l : List (Int × Int)) (k : Int) (h : 0 ≤ k) : rangeL l 0 k ++ rangeL l k l.length = l := by
  obtain ⟨n, rfl⟩ := Int.eq_ofNat_of_zero_le h
  have e : rangeL l (n : Int) (l.length : Int) = l.drop n := by
    rw [rangeL, fromL, if_neg (by omega), Int.toNat_natCast, Int.toNat_natCast]
    exact List.take_of_length_le (by simp)
  rw [e, rangeL, fromL, if_neg (by omega), Int.toNat_natCast]
  simp
theorem times_both {l : List (Int × Int)} (h : okL l = true) (k : Int) : l.filter (inTime (k + 1) 1000) ++ l.filter (inTime 0 k) = l := by
  induction l with
  | nil => rfl
  | cons e r ih =>
    rw [okL, Bool.and_eq_true, Bool.and_eq_true] at h
    obtain ⟨⟨h1, h2⟩, h3⟩ := h
    have hr := rightB_iff.1 h1
    have ih := ih h3
    by_cases hk : e.2 ≤ k
    · have hi : inTime 0 k e = true := by simp [inTime]; omega
      have hn : inTime (k + 1) 1000 e = false := by simp [inTime]; omega
      have hnone : r.filter (inTime (k + 1) 1000) = [] := by
        rw [List.filter_eq_nil_iff]
        intro x hx
        have := List.all_eq_true.1 h2 x hx
        simp only [Bool.and_eq_true] at this
        have := aheadB_iff.1 this.1
        simp [inTime]; omega
      rw [hnone, List.nil_append] at ih
      rw [List.filter_cons, List.filter_cons, hi, hn, hnone, ih]
      rfl
    · have hi : inTime 0 k e = false := by simp [inTime]; omega
      have hn : inTime (k + 1) 1000 e = true := by simp [inTime]; omega
      rw [List.filter_cons, List.filter_cons, hi, hn]
      show e :: _ ++ _ = _
      rw [List.cons_append]
      exact congrArg (e :: ·) ih
theorem times_length {l : List (Int × Int)} (h : okL l = true) (k : Int) : (l.filter (inTime 0 k)).length + (l.filter (inTime (k + 1) 1000)).length = l.length := by
  have := congrArg List.length (times_both h k)
  rw [List.length_append] at this
  omega
theorem digits_le (k : Nat) : ∀ u : Nat, u < 10 ^ (k + 1) → Lib.nDigits u ≤ k + 1 := by
  induction k with
  | zero => intro u h; rw [Lib.nDigits_small (by simpa using h)]; omega
  | succ k ih =>
    intro u h
    by_cases hu : u < 10
    · rw [Lib.nDigits_small hu]; omega
    · rw [Lib.nDigits_big hu]
      have := ih (u / 10) (by
        rw [Nat.pow_succ] at h
        exact Nat.div_lt_of_lt_mul (by rw [Nat.mul_comm]; exact h))
      omega
theorem itoa_le (n : Int) (k : Nat) (h0 : 0 ≤ n) (h1 : n.toNat < 10 ^ (k + 1)) : (Lib.itoa n).length ≤ k + 1 := by
  obtain ⟨u, rfl⟩ := Int.eq_ofNat_of_zero_le h0
  rw [Lib.itoa_nonneg, Lib.decDigits_length]
  exact digits_le k u (by simpa using h1)
theorem edge_short {x : Int × Int} (h : rightB x = true) : (edgeT x).length ≤ 6 := by
  have hr := rightB_iff.1 h
  have h1 := itoa_le x.1 0 hr.1 (by simp; omega)
  have h2 := itoa_le x.2 3 hr.2.2.1 (by simp; omega)
  simp [edgeT]
  omega
theorem rights_of_ok {l : List (Int × Int)} (h : okL l = true) : ∀ x ∈ l, rightB x = true := by
  induction l with
  | nil => intro x hx; cases hx
  | cons e r ih =>
    rw [okL, Bool.and_eq_true, Bool.and_eq_true] at h
    intro x hx
    rcases List.mem_cons.1 hx with rfl | hx
    · exact h.1.1
    · exact ih h.2 x hx
theorem tail_short (r : List (Int × Int)) (h : ∀ x ∈ r, (edgeT x).length ≤ 6) : (Lib.joinTail [32] (r.map edgeT)).length ≤ 7 * r.length := by
  induction r with
  | nil => simp [Lib.joinTail]
  | cons e r ih =>
    have h1 := h e (by simp)
    have h2 := ih fun x hx => h x (by simp [hx])
    simp [Lib.joinTail] at h2 ⊢
    omega
theorem text_short {l : List (Int × Int)} (h : okL l = true) : (textL l).length ≤ 2 + 7 * l.length := by
  have hs : ∀ x ∈ l, (edgeT x).length ≤ 6 := fun x hx => edge_short (rights_of_ok h x hx)
  cases l with
  | nil => simp [textL, innerL, Lib.join_nil]
  | cons e r =>
    have h1 := hs e (by simp)
    have h2 := tail_short r fun x hx => hs x (by simp [hx])
    simp [textL, innerL, Lib.join_cons] at h2 ⊢
    omega
end Go.Proofs.YtdjonplcgmfmgaaGreatDoor

/- Part: The law FnEdgeRange: its walk. -/
namespace Go.Proofs.YtdjonplcgmfmgaaGreatDoor
open Go.RowKit
attribute [local go_sem ↓] Go.wp_at_zero Go.wp_at_succ

/-- What is owned elsewhere stays so behind an append onto a row of one's own. -/
theorem own_past {W W' : World} {B base size n : Nat} {e : TypeId} {v u : Value} {l : List (Int × Int)} {xs : List Value} (h : Own W B u l) (hr : W.ownsRow base e size v n xs) (hg : W.grownBy W' v.ownBlock) (hb : ∀ k, u.ownBlock = some k → k < base) : Own W' B u l :=
  World.ownsRow.kept h hg (by
    cases hu : u.ownBlock with
    | none => exact Or.inl rfl
    | some k =>
      refine Or.inr fun e' => ?_
      have h1 := hb k hu
      have h2 := (World.ownsRow.lt hr k e'.symm).1
      omega)

set_option maxRecDepth 100000 in
set_option maxHeartbeats 4000000 in
theorem lawERange_any (v : Value) (n : Nat) (v1 : Value) (m : Nat) (w : World) (h : Bs w v n) (h1 : Bs w v1 m) (hL : Lib4 w) :
    Calls Tryz.prog 3 #[v, v1] w fun e w' => e = .returned (.bool true) ∧ Below w.heap.size w w' := by
  obtain ⟨ao, cap, hv, h0, _⟩ := id h
  subst hv
  obtain ⟨bo, cbp, hv, h2, _⟩ := id h1
  subst hv
  unfold maxLen at h0 h2
  have HL := hid hL
  clear hL
  by_cases hbig : 1048576 < n
  · go_enter Tryz.func3, Tryz.ntmps3
    go_wp2
    all_goals
      go_ret
      exact ⟨rfl, Below.refl _ _⟩
  · by_cases hbig2 : 1048576 < m
    · go_enter Tryz.func3, Tryz.ntmps3
      go_wp2
      go_ret
      exact ⟨rfl, Below.refl _ _⟩
    · go_enter Tryz.func3, Tryz.ntmps3
      go_wp2_with fail
      refine (drawEdgeRange_any _ n _ h).mono ?_
      rintro e w1 ⟨u, l, s, q, rfl, o1, hl, hbd, hs, hq, c1⟩
      have HO1 := hid o1
      have HBD := hid hbd
      clear o1 hbd hs hq
      go_wp2_with fail
      refine (implRange_any _ l s q _ HO1.out.rd (by omega)).mono ?_
      rintro e w2 ⟨p, rfl, o2, b2⟩
      have c2 := c1.trans (b2.mono c1.size)
      have HO2 := hid (HO1.out.later b2)
      have HP2 := hid o2
      clear b2 HO1 o2
      go_wp2_with fail
      refine (specRange_any _ l s q _ HO2.out.rd (by omega)).mono ?_
      rintro e w3 ⟨p', rfl, o3, b3⟩
      have c3 := c2.trans (b3.mono c2.size)
      have HO3 := hid (HO2.out.later b3)
      have HP3 := hid (HP2.out.later b3)
      have HQ3 := hid o3
      clear b3 HO2 o3 HP2
      go_wp2_with fail
      refine (implSame_any _ _ _ _ _ HP3.out.rd HQ3.out.rd).mono ?_
      rintro e w4 ⟨rfl, b4⟩
      rw [eqL_refl]
      have c4 := c3.trans (b4.mono c3.size)
      have HO4 := hid (HO3.out.later b4)
      clear b4 HO3 HP3 HQ3
      go_wp2_with fail
      obtain ⟨k, hk⟩ : ∃ k : Int, (m : Int) % 7 = k := ⟨_, rfl⟩
      have hk0 : 0 ≤ k := by omega
      have hk1 : k ≤ 6 := by omega
      rw [hk]
      clear hk
      obtain ⟨uo, uc, hu, _⟩ := HO4.out.rd
      subst hu
      refine (implRange_any _ l 0 k _ HO4.out.rd (by omega)).mono ?_
      rintro e w5 ⟨pa, rfl, o5, b5⟩
      have c5 := c4.trans (b5.mono c4.size)
      have HO5 := hid (HO4.out.later b5)
      have HA5 := hid o5
      clear b5 HO4 o5
      go_wp2_with fail
      refine (implRange_any _ l k l.length _ HO5.out.rd (by omega)).mono ?_
      rintro e w6 ⟨pb, rfl, o6, b6⟩
      have c6 := c5.trans (b6.mono c5.size)
      have HO6 := hid (HO5.out.later b6)
      have HA6 := hid (HA5.out.later b6)
      have HB6 := hid o6
      clear b6 HO5 HA5 o6
      go_wp2_with fail
      refine (implTime_any _ l 0 k _ HO6.out.rd (by omega)).mono ?_
      rintro e w7 ⟨pc, rfl, o7, b7⟩
      have c7 := c6.trans (b7.mono c6.size)
      have HO7 := hid (HO6.out.later b7)
      have HA7 := hid (HA6.out.later b7)
      have HB7 := hid (HB6.out.later b7)
      have HC7 := hid o7
      clear b7 HO6 HA6 HB6 o7
      go_wp2_with fail
      refine (implTime_any _ l (k + 1) 1000 _ HO7.out.rd (by omega)).mono ?_
      rintro e w8 ⟨pd, rfl, o8, b8⟩
      have c8 := c7.trans (b8.mono c7.size)
      have HO8 := hid (HO7.out.later b8)
      have HA8 := hid (HA7.out.later b8)
      have HB8 := hid (HB7.out.later b8)
      have HC8 := hid (HC7.out.later b8)
      have HD8 := hid o8
      clear b8 HO7 HA7 HB7 HC7 o8
      have HR := hid (World.ownsRow_lit (e := 53) (size := 2) w8 #[] 0 (Nat.le_refl _) (Nat.zero_le _) rfl)
      have cl : Below w8.heap.size w8 (w8.alloc (.cells #[] 53)) := (Below.refl _ w8).alloc (Nat.le_refl _) _
      have HAa := hid (HA8.out.later cl)
      have HBa := hid (HB8.out.later cl)
      have hbb := hid (fun q e => (HB8.out.block q e).2 : ∀ q, pb.ownBlock = some q → q < w8.heap.size)
      have hbs : w8.heap.size ≤ (w8.alloc (.cells #[] 53)).heap.size := by simp
      have hra : (rangeL l 0 k).length ≤ 7 := Nat.le_trans (rangeL_length l 0 k) hl
      have hrb : (rangeL l k l.length).length ≤ 7 := Nat.le_trans (rangeL_length l k l.length) hl
      go_wp2_with (first
        | (at_builtin; refine wpList_append_edges rfl _ _ rfl w5.heap.size w8.heap.size v9 _ _ pb _ (by rfl) (by rfl) HO9.out HB9.out (by omega) (by omega) HS9.out ?_; intro v10 w10 hown10 hgr10; have HOx := hid hown10; have HGx := hid hgr10; clear hown10 hgr10)
        | (at_builtin; refine wpList_append_edges rfl _ _ rfl w4.heap.size w8.heap.size _ 0 _ pa _ (by rfl) (by rfl) HR.out HAa.out (by omega) (by omega) hbs ?_; intro v9 w9 hown9 hgr9; have HO9 := hid hown9; have HG9 := hid hgr9; have HB9 := hid (own_past HBa.out HR.out hgr9 hbb.out); have HS9 := hid (Nat.le_trans hbs hgr9.size); clear hown9 hgr9)
        | fail)
      have e0 : Own w10 w8.heap.size v10 l := by
        have h0 := HOx.out
        have e1 := range_both l k hk0
        generalize rangeL l 0 k = la at h0 e1
        generalize rangeL l k l.length = lb at h0 e1
        subst e1
        unfold Own
        rw [ecells_append, List.length_append]
        simpa using h0
      have d10 : Below w8.heap.size w8 w10 := (cl.grown HG9.out hbs (fun q e => (HR.out.lt q e).1)).grown HGx.out HS9.out (fun q e => (HO9.out.lt q e).1)
      have c10 := c8.trans (d10.mono c8.size)
      have HO10 := hid (HO8.out.later d10)
      have HC10 := hid (HC8.out.later d10)
      have HD10 := hid (HD8.out.later d10)
      have HE10 := hid e0
      clear HOx HGx HO9 HG9 HB9 HS9 HR cl HAa HBa hbb hbs HA8 HB8 HO8 HC8 HD8 d10 e0
      refine (implSame_any _ _ _ _ _ HE10.out.rd HO10.out.rd).mono ?_
      rintro e w11 ⟨rfl, b11⟩
      rw [eqL_refl]
      have c11 := c10.trans (b11.mono c10.size)
      have HO11 := hid (HO10.out.later b11)
      have HC11 := hid (HC10.out.later b11)
      have HD11 := hid (HD10.out.later b11)
      clear b11 HO10 HC10 HD10 HE10
      go_wp2_with fail
      refine (implText_any _ l _ HO11.out.rd (by omega) (bd_wf HBD.out) (HL.out.tab.below c11)).mono ?_
      rintro e w12 ⟨rfl, b12⟩
      have c12 := c11.trans (b12.mono c11.size)
      have HO12 := hid (HO11.out.later b12)
      have HC12 := hid (HC11.out.later b12)
      have HD12 := hid (HD11.out.later b12)
      clear b12 HO11 HC11 HD11
      obtain ⟨tx, htx⟩ : ∃ s : ByteArray, s = ⟨(textL l).toArray⟩ := ⟨_, rfl⟩
      have htl : tx.data.toList = textL l := by rw [htx]
      have hts : tx.size ≤ 1048576 := by
        have h1 : tx.size = (textL l).length := by rw [htx]; rfl
        have := text_len HBD.out
        omega
      rw [← htx]
      have HTX := hid htx
      have HTL := hid htl
      clear htx htl
      go_wp2_with fail
      refine (implRead_any tx _ hts (HL.out.below c12)).mono ?_
      rintro e w13 ⟨⟨vb, lb, bb, rfl, ob, hR⟩, b13⟩
      have c13 := c12.trans (b13.mono c12.size)
      have HO13 := hid (HO12.out.later b13)
      have HC13 := hid (HC12.out.later b13)
      have HD13 := hid (HD12.out.later b13)
      have HB13 := hid ob
      have HRB := hid hR
      clear b13 HO12 HC12 HD12 ob hR
      go_wp2_with fail
      refine (drawEdgeRead_any _ m _ (h1.later c13)).mono ?_
      rintro e w14 ⟨ty, rfl, hty, b14⟩
      have c14 := c13.trans (b14.mono c13.size)
      have HO14 := hid (HO13.out.later b14)
      have HC14 := hid (HC13.out.later b14)
      have HD14 := hid (HD13.out.later b14)
      have HB14 := hid (HB13.out.later b14)
      clear b14 HO13 HC13 HD13 HB13
      go_wp2_with fail
      refine (implRead_any ty _ (by omega) (HL.out.below c14)).mono ?_
      rintro e w15 ⟨⟨vx, lx, bx, rfl, ox, hR⟩, b15⟩
      have c15 := c14.trans (b15.mono c14.size)
      have HO15 := hid (HO14.out.later b15)
      have HC15 := hid (HC14.out.later b15)
      have HD15 := hid (HD14.out.later b15)
      have HB15 := hid (HB14.out.later b15)
      have HX15 := hid ox
      have HRX := hid hR
      clear b15 HO14 HC14 HD14 HB14 ox hR
      go_wp2_with fail
      refine (specRead_any ty _ (by omega)).mono ?_
      rintro e w16 ⟨⟨vt, lt, bt, rfl, _, hR, _⟩, b16⟩
      obtain ⟨_, rfl⟩ := ReadR.unique HRX.out hR
      have c16 := c15.trans (b16.mono c15.size)
      have HO16 := hid (HO15.out.later b16)
      have HC16 := hid (HC15.out.later b16)
      have HD16 := hid (HD15.out.later b16)
      have HB16 := hid (HB15.out.later b16)
      have HX16 := hid (HX15.out.later b16)
      clear b16 HO15 HC15 HD15 HB15 HX15 hR
      have hsv : (⟨(textL l).toArray⟩ : ByteArray) = tx := HTX.out.symm
      cases bx
      case' true =>
        obtain ⟨_, hokx, htx, hlx⟩ : true = true ∧ okL lx = true ∧ textL lx = ty.data.toList ∧ ty.data.toList.length ≤ 200 := by
          rcases HRX.out with h | h
          · exact h
          · cases h.1
        have hlxn := readR_length HRX.out
        have hty2 : (⟨(textL lx).toArray⟩ : ByteArray) = ty := by rw [htx]
        have HTY := hid hty2
        have hwx := wf_ok hokx
        clear htx hlx hty2
        go_wp2_with fail
        refine (implText_any _ lx _ HX16.out.rd (by omega) hwx (HL.out.tab.below c16)).mono ?_
        rintro e w17 ⟨rfl, b17⟩
        rw [HTY.out]
        have c17 := c16.trans (b17.mono c16.size)
        have HO17 := hid (HO16.out.later b17)
        have HC17 := hid (HC16.out.later b17)
        have HD17 := hid (HD16.out.later b17)
        have HB17 := hid (HB16.out.later b17)
        clear b17 HO16 HC16 HD16 HB16 HX16
      case' false =>
        generalize w16 = w17 at *
        have HO17 := HO16
        have HC17 := HC16
        have HD17 := HD16
        have HB17 := HB16
        have c17 := c16
        clear HO16 HC16 HD16 HB16 HX16 c16
      all_goals
        go_wp2_with fail
        refine (specText_any _ l _ HO17.out.rd (by omega) (bd_wf HBD.out)).mono ?_
        rintro e w18 ⟨rfl, b18⟩
        rw [hsv]
        have c18 := c17.trans (b18.mono c17.size)
        have HO18 := hid (HO17.out.later b18)
        have HC18 := hid (HC17.out.later b18)
        have HD18 := hid (HD17.out.later b18)
        have HB18 := hid (HB17.out.later b18)
        clear b18 HO17 HC17 HD17 HB17
        go_wp2_with fail
        refine (specOk_any _ l _ HO18.out.rd).mono ?_
        rintro e w19 ⟨rfl, b19⟩
        have c19 := c18.trans (b19.mono c18.size)
        have HO19 := hid (HO18.out.later b19)
        have HC19 := hid (HC18.out.later b19)
        have HD19 := hid (HD18.out.later b19)
        have HB19 := hid (HB18.out.later b19)
        clear b19 HO18 HC18 HD18 HB18
        cases hok : okL l with
        | false =>
          go_wp2
          go_ret
          exact ⟨by simp, c19⟩
        | true =>
          obtain ⟨hlb, hbb⟩ := ReadR.unique HRB.out (Or.inl ⟨rfl, hok, HTL.out.symm, by rw [HTL.out]; have := text_short hok; omega⟩)
          subst hbb
          rw [hlb] at HB19
          have hboth := times_both hok k
          have hlens := times_length hok k
          generalize l.filter (inTime 0 k) = lc at *
          generalize l.filter (inTime (k + 1) 1000) = ld at *
          have HBO := hid hboth
          clear hboth hok hlb
          obtain ⟨co, cc, hc, _⟩ := HC19.out.rd
          subst hc
          obtain ⟨do', dc, hd, _⟩ := HD19.out.rd
          subst hd
          have hlc : lc.length ≤ 7 := by omega
          have hld : ld.length ≤ 7 := by omega
          have hlen2 : (lc.length : Int) + (ld.length : Int) = (l.length : Int) := by omega
          go_wp2_with fail
          refine (implSame_any _ _ _ _ _ HB19.out.rd HO19.out.rd).mono ?_
          rintro e w20 ⟨rfl, b20⟩
          rw [eqL_refl]
          have c20 := c19.trans (b20.mono c19.size)
          have HO20 := hid (HO19.out.later b20)
          have HC20 := hid (HC19.out.later b20)
          have HD20 := hid (HD19.out.later b20)
          clear b20 HO19 HC19 HD19 HB19
          have HR := hid (World.ownsRow_lit (e := 53) (size := 2) w20 #[] 0 (Nat.le_refl _) (Nat.zero_le _) rfl)
          have cl : Below w20.heap.size w20 (w20.alloc (.cells #[] 53)) := (Below.refl _ w20).alloc (Nat.le_refl _) _
          have HCa := hid (HC20.out.later cl)
          have HDa := hid (HD20.out.later cl)
          have hbb := hid (fun q e => (HC20.out.block q e).2 : ∀ q, (Value.slice co lc.length cc).ownBlock = some q → q < w20.heap.size)
          have hbs : w20.heap.size ≤ (w20.alloc (.cells #[] 53)).heap.size := by simp
          go_wp2_with (first
            | (at_builtin; refine wpList_append_edges_if (by rfl) _ _ rfl w6.heap.size w20.heap.size v21 _ _ (.slice co lc.length cc) lc (by rfl) (by rfl) HO21.out HC21.out (by omega) (by omega) HS21.out ?_; intro v22 w22 hown22 hgr22; have HOx := hid hown22; have HGx := hid hgr22; clear hown22 hgr22)
            | (at_builtin; refine wpList_append_edges_if (by rfl) _ _ rfl w7.heap.size w20.heap.size _ 0 _ (.slice do' ld.length dc) ld (by rfl) (by rfl) HR.out HDa.out (by omega) (by omega) hbs ?_; intro v21 w21 hown21 hgr21; have HO21 := hid hown21; have HG21 := hid hgr21; have HC21 := hid (own_past HCa.out HR.out hgr21 hbb.out); have HS21 := hid (Nat.le_trans hbs hgr21.size); clear hown21 hgr21)
            | fail)
          have e0 : Own w22 w20.heap.size v22 l := by
            have h0 := HOx.out
            have e1 := HBO.out
            subst e1
            unfold Own
            rw [ecells_append, List.length_append]
            simpa using h0
          have d22 : Below w20.heap.size w20 w22 := (cl.grown HG21.out hbs (fun q e => (HR.out.lt q e).1)).grown HGx.out HS21.out (fun q e => (HO21.out.lt q e).1)
          have c22 := c20.trans (d22.mono c20.size)
          have HO22 := hid (HO20.out.later d22)
          have HE22 := hid e0
          clear HOx HGx HO21 HG21 HC21 HS21 HR cl HCa HDa hbb hbs HC20 HD20 HO20 d22 e0
          refine (implSame_any _ _ _ _ _ HE22.out.rd HO22.out.rd).mono ?_
          rintro e w23 ⟨rfl, b23⟩
          rw [eqL_refl]
          have c23 := c22.trans (b23.mono c22.size)
          clear b23
          go_wp2
          go_ret
          exact ⟨by simp, c23⟩
end Go.Proofs.YtdjonplcgmfmgaaGreatDoor

/- Part: What a row gives a walk: the laid variables and the world's shape together; the number and the errors that the library reads. -/
namespace Go.Proofs.YtdjonplcgmfmgaaGreatDoor
open Go.RowKit

/-- The frame of a row, at a condition X of the first world, its shape besides. -/
theorem handed_both {H : Type} {enc : TypeId × Value → H} {C : Checked} {os : Os} {f : FuncId} {fn : Func} {s : ChangeSpec} {conds : List PathCond} {apart fresh handsOn again : Bool} {X : World → Array Value → Prop}
    (hX : ∀ (w w' : World) (args : Array Value), w.heap = w'.heap → X w args → X w' args)
    (own : ownKnob C.prog.godebug = none) (started : os.Started) (noInit : C.prog.inits.idxOf? f = none) (hfn : C.prog.funcs[f]? = some fn)
    (witness : ∃ (w : World) (tape : Tape) (i : Input), w.os = os ∧ (w.forCall tape i).Shaped C.prog ∧ i.vars = [] ∧ Input.okWide C.prog (w.forCall tape i) .any w.heap.size f i ∧
      ((s.pre enc C.prog fn conds apart (w.forCall tape i).memory i.args ∧ X (w.forCall tape i).memory i.args) ∧ sizedMet enc C.prog fn (OpenSpec.ofChange s) apart (w.forCall tape i).memory i.args) ∧ ({} : Assume).holds C.prog (lone (Frame.enter C.prog f i.args .normal) [] (w.forCall tape i)))
    (contract : ∀ (W : World) (base : Nat) (args : Array Value) (ds gs : List (DataW H)) (before : List MemPlace),
      (∀ (j : Nat) t v, fn.params[j]? = some t → args[j]? = some v → Value.okWide C.prog W .any base t v) →
      DataW.Whole enc C.prog fn.params.toList s.vars apart W args.toList ds gs before → X W args → W.ShapedOpen C.prog →
      Calls C.prog f args W fun e W' => ∃ v, e = .returned v ∧ s.post enc C.prog fn apart fresh handsOn again W args v W') :
    ReturnsInHanded {} C os f .any (fun w args => (s.pre enc C.prog fn conds apart w args ∧ X w args) ∧ sizedMet enc C.prog fn (OpenSpec.ofChange s) apart w args) (s.post enc C.prog fn apart fresh handsOn again) := by
  refine returnsInHanded_of_calls own started noInit witness fun w tape i _ hshape _ hok ⟨⟨⟨ds, gs, before, hw, _⟩, hx⟩, _⟩ _ => ?_
  obtain ⟨_, _, _, fn', hfn', _, _, _, _, hval⟩ := hok
  obtain rfl : fn' = fn := Option.some.inj (hfn'.symm.trans hfn)
  refine (contract (w.forCall tape i) w.heap.size i.args ds gs before hval (hw.of_heap (by rfl)) (hX _ _ _ (by rfl) hx) hshape).mono ?_
  rintro e W' ⟨v, rfl, hp⟩
  exact ChangeSpec.post_blind hp

theorem max_of_shape {W : World} (h : W.ShapedOpen Tryz.prog) : MaxVar W :=
  cell_of_shapedOpen_int (g := 1) (t := 3) (zero := #[.int .i64 0]) h (of_decide_eq_true (by kernel_rfl)) (by kernel_rfl) rfl (by kernel_rfl) (by kernel_rfl) Tryz.underlying3

theorem Tryz.star : "*" ++ "errors.errorString" = "*errors.errorString" := by decide
theorem Tryz.rowErr (u : TypeId) (h : Tryz.prog.typeName? 3 u = some "*errors.errorString") : u = 152 :=
  typeName_ptr_named (nm := "errors.errorString") (by rw [Tryz.star]; kernel_rfl) (by kernel_rfl) (by decide) u (by rw [Tryz.star]; exact h)
theorem err_of_head {n : String} {g : Nat} {text : List UInt8} {r : List (String × DataW Unit)} {W : World} (hg : Tryz.prog.globalNamed n = some g) (ht : (Tryz.prog.globals[g]?).map (·.type) = some 87)
    (h : laidMet Tryz.prog ((n, .iface "*errors.errorString" (.ptr (.agg [.lit (.string text)]))) :: r) W) : ∃ tp p, W.var? Tryz.prog n = some #[.iface tp p] := by
  obtain ⟨a, s, hv, _⟩ := laid_sentinel h hg ht Tryz.underlying87 Tryz.rowErr Tryz.underlying152 Tryz.underlying154 rfl rfl Tryz.underlying9 (by kernel_rfl) (by kernel_rfl)
  exact ⟨_, _, hv⟩
end Go.Proofs.YtdjonplcgmfmgaaGreatDoor

/- Part: What every row here asks of the program: two closed facts. -/
namespace Go.Proofs.YtdjonplcgmfmgaaGreatDoor
open Go.ChangeShapes Go.WideShapes Go.ChangeAt Go.RowKit
theorem Tryz.own : ownKnob Tryz.prog.godebug = none := by kernel_rfl
theorem Tryz.laidOut : laidOutB Tryz.prog = true := by kernel_rfl
end Go.Proofs.YtdjonplcgmfmgaaGreatDoor

/- Part: An argument that is a slice of bytes. -/
namespace Go.Proofs.YtdjonplcgmfmgaaGreatDoor
open Go.ChangeShapes Go.WideShapes Go.ChangeAt Go.RowKit Go.Deep

theorem Tryz.cells5 : Tryz.prog.cellsOf 5 = 1 := by kernel_rfl

set_option maxRecDepth 100000 in
theorem by_of {H : Type} {enc : TypeId × Value → H} {W : World} {base : Nat} {v : Value} {d : DataW H} {p : List MemPlace} (hv : Value.okWide Tryz.prog W .any base 22 v)
    (h : DataW.Trod enc Tryz.prog W 0 (fun _ => true) true 22 v d p) (hlt : ∀ x ∈ p, x.block < W.heap.size) : ∃ n, Bs W v n := by
  obtain ⟨a0, len, cap, rfl⟩ := okWide_slice Tryz.underlying22 hv
  obtain ⟨fuel, hf⟩ := h
  rcases open_ints Tryz.underlying22 Tryz.underlying5 Tryz.cells5 hf with ⟨hcs, _⟩ | ⟨a, len', cap', zs, hcs, hh, hl, hm, hz, hx, hcell, hwz⟩
  · simp [Value.cells] at hcs
    obtain ⟨rfl, rfl, rfl⟩ := hcs
    exact ⟨0, none, 0, rfl, Nat.zero_le _, Nat.le_refl _, Nat.zero_le _, fun h0 => absurd h0 (Nat.lt_irrefl 0)⟩
  · simp [Value.cells] at hcs
    obtain ⟨rfl, rfl, rfl⟩ := hcs
    simp only [if_true] at hz
    refine ⟨len, some a, cap, rfl, Nat.le_trans hl hm, hl, hm, fun h0 => ?_⟩
    obtain ⟨b, off, spot⟩ := a
    have hs : spot = none := by
      have := hcell 0 (by omega)
      simpa [Addr.add] using World.cell?_spot this
    subst hs
    refine ⟨b, off, rfl, ?_, fun i hi => ?_⟩
    · simp only [Prod.mk.injEq] at hx
      exact hlt (.cell b off) (by rw [hx.2]; exact MemPlace.mem_row.2 ⟨0, by omega, by simp⟩)
    · have hc := hcell i (by omega)
      rw [add_plain] at hc
      have hw := bounds_u8 (hwz (zs.getD i 0) (by rw [List.getD_eq_getElem?_getD, List.getElem?_eq_getElem (by omega)]; exact List.getElem_mem _))
      exact ⟨_, hc, hw.1, by omega⟩
end Go.Proofs.YtdjonplcgmfmgaaGreatDoor

/- Part: Proved here: FnEdgeRange returns true for every two slices of bytes (no condition on them; the library's tables and errors hold what start-up lays: the card ties them); what it was handed reads as before. -/
namespace Go.Proofs.YtdjonplcgmfmgaaGreatDoor
open Go.ChangeShapes Go.WideShapes Go.ChangeAt Go.RowKit

/-- The door's own heap meets the condition. -/
theorem door_met (os : Os) (args : Array Value) : laidMetH Tryz.prog Rows.fnEdgeRangeRow.laid ((World.laidAll Tryz.prog os Rows.fnEdgeRangeRow.laid).forCall (fun _ _ => 0) ⟨#[], args, []⟩).memory := by
  rw [MakeChecks.laidMetH_plain _ _ _ (by kernel_rfl)]; exact laidMet_laidAll _ (by kernel_rfl) (by kernel_rfl)
theorem tab_of_laid {W : World} (h : laidMetH Tryz.prog Rows.fnEdgeRangeRow.laid W) : Tab W := by
  rw [MakeChecks.laidMetH_plain _ _ _ (by kernel_rfl)] at h
  exact Lib.tabIs_of_head (g := 0) (by kernel_rfl) (by kernel_rfl) Tryz.underlying135 Tryz.underlying115 (by kernel_rfl) (by kernel_rfl) h.tail.tail

theorem lib_of {W : World} (h : laidMetH Tryz.prog Rows.fnEdgeRangeRow.laid W) (hS : W.ShapedOpen Tryz.prog) : Lib4 W := by
  have hT := tab_of_laid h
  rw [MakeChecks.laidMetH_plain _ _ _ (by kernel_rfl)] at h
  exact ⟨hT, ⟨err_of_head (g := 2) (by kernel_rfl) (by kernel_rfl) h.tail.tail.tail.tail.tail, err_of_head (g := 3) (by kernel_rfl) (by kernel_rfl) h.tail.tail.tail.tail⟩, max_of_shape hS⟩

set_option maxRecDepth 100000 in
theorem eRange_lifted (os : Os) (started : os.Started) (H : Type) (enc : TypeId × Value → H) :
    ReturnsInHanded {} Tryz.checked os 3 .any (fun w args => (Rows.fnEdgeRangeSpec.pre enc Tryz.prog Tryz.f3 Rows.fnEdgeRangeRow.domain false w args ∧ laidMetH Tryz.prog Rows.fnEdgeRangeRow.laid w) ∧ sizedMet enc Tryz.prog Tryz.f3 (OpenSpec.ofChange Rows.fnEdgeRangeSpec) false w args) (Rows.fnEdgeRangeSpec.post enc Tryz.prog Tryz.f3 false true false false) := by
  refine handed_both (C := Tryz.checked) (X := fun w _ => laidMetH Tryz.prog Rows.fnEdgeRangeRow.laid w) (fun _ _ _ hh h => h.of_heap hh) Tryz.own started (by kernel_rfl) Tryz.func3
    (ChangeSpec.witness_shaped (enc := enc) (C := Tryz.checked) (os := os) (X := fun w _ => laidMetH Tryz.prog Rows.fnEdgeRangeRow.laid w) false (World.laidAll Tryz.prog os Rows.fnEdgeRangeRow.laid) #[.slice none 0 0, .slice none 0 0] 8 (World.laidAll_os _ _ _) (World.shaped_of_ZipB (by kernel_rfl) (by kernel_rfl)) (by kernel_rfl) (by kernel_rfl) (by kernel_rfl) (door_met os _)) ?_
  intro W base args ds gs before hval0 hW hL hS
  have htab := lib_of hL hS
  have hval : ∀ (j : Nat) t v, Tryz.f3.params[j]? = some t → args[j]? = some v → Value.okWide Tryz.prog W .any base t v := hval0
  have hW' := hW
  obtain ⟨p, q, hA0, hV, rfl, _, _⟩ := hW
  have hA : DataW.TrodAll enc Tryz.prog W 0 (fun _ => true) true Tryz.f3.params.toList args.toList ds p := hA0
  rw [Tryz.params3] at hA hval
  obtain ⟨v0, v1, d0, d1, p0, p1, rfl, rfl, rfl, h0, h1⟩ := trodAll_two hA
  obtain ⟨rfl, rfl⟩ := trodVars_none hV
  clear hA0 hval0
  simp only [List.append_nil] at hW'
  have hlt0 : ∀ x ∈ p0, x.block < W.heap.size := fun x hx => by have := hW'.lt x (by first | exact hx | (simp; first | exact hx | exact Or.inl hx | exact Or.inr hx | exact Or.inr (Or.inl hx))); exact this
  obtain ⟨l0, hl0⟩ := by_of (hval 0 22 v0 rfl rfl) h0 hlt0
  have hargs0 : ∀ (W' : World), Below W.heap.size W W' → DataW.Trod enc Tryz.prog W' 0 (fun b => decide (b < W.heap.size)) true 22 v0 d0 p0 :=
    fun W' hn => Below.trod Tryz.laidOut (by kernel_rfl) (of_decide_eq_true (by kernel_rfl)) h0 hn hlt0
  have hlt1 : ∀ x ∈ p1, x.block < W.heap.size := fun x hx => by have := hW'.lt x (by first | exact hx | (simp; first | exact hx | exact Or.inl hx | exact Or.inr hx | exact Or.inr (Or.inl hx))); exact this
  obtain ⟨l1, hl1⟩ := by_of (hval 1 22 v1 rfl rfl) h1 hlt1
  have hargs1 : ∀ (W' : World), Below W.heap.size W W' → DataW.Trod enc Tryz.prog W' 0 (fun b => decide (b < W.heap.size)) true 22 v1 d1 p1 :=
    fun W' hn => Below.trod Tryz.laidOut (by kernel_rfl) (of_decide_eq_true (by kernel_rfl)) h1 hn hlt1
  refine (lawERange_any v0 l0 v1 l1 W hl0 hl1 htab).mono fun e W' ⟨he, hnx⟩ => ?_
  subst he
  exact ⟨_, rfl, _, _, _, [], p0 ++ (p1), [], hW', trodAll_mk1 (shut_bool Tryz.underlying4 _), trodAll_mk2 (hargs0 _ hnx) (hargs1 _ hnx), rfl, hnx.frame _, fun h => by cases h⟩

theorem eRange_holds : Rows.FnEdgeRangeSaid :=
  OpenClaim.holds_of_wide 3 Tryz.f3 rfl rfl rfl rfl rfl rfl rfl ⟨rfl, rfl, rfl, rfl, rfl⟩ rfl rfl rfl rfl rfl (by kernel_rfl) Tryz.func3 (by kernel_rfl)
    (of_decide_eq_true (by kernel_rfl)) (by unfold Func.isWrapper; first | (rw [if_pos (by decide +kernel)]; kernel_rfl) | (rw [if_neg (by decide +kernel)]; exact ⟨rfl, rfl⟩))
    (fun os started H enc _ => eRange_lifted os started H enc)
#print axioms eRange_holds
theorem eRange_card : Rows.FnEdgeRangeCardSaid :=
  Claim7.holds_tied_plain_at .later [] [.data, .data, .data, .data, .sentinel, .sentinel, .pinned] true (true, "060c0ab2dd3319b8fcf83532e5fe3cea8aff29b0639748d82347ba918030b1c0") true
    eRange_holds (fun _ h => by cases h) (by kernel_rfl) (fun _ h => by cases h) fnEdgeRange_row_tie rfl ⟨rfl, rfl⟩ (by kernel_rfl) rfl
    (fun f fn hf hfn => by
      obtain rfl : f = 3 := Option.some.inj ((show Tryz.prog.funcNamed "loop.example/kith/laws.FnEdgeRange" = some 3 by kernel_rfl).symm.trans hf) |>.symm
      obtain rfl : fn = Tryz.f3 := (Option.some.inj (Tryz.func3.symm.trans hfn)).symm
      exact ⟨by kernel_rfl, fun j t ht => by
        rw [Tryz.params3] at ht
        have hm : t ∈ [22, 22] := by simpa using Array.mem_of_getElem? ht
        have hall : ([22, 22].all fun u => !Tryz.prog.wantsStandIn u) = true := by kernel_rfl
        exact (show Tryz.prog.wantsStandIn t = false by simpa using List.all_eq_true.1 hall t hm)⟩)
    (by kernel_rfl)
#print axioms eRange_card

end Go.Proofs.YtdjonplcgmfmgaaGreatDoor
