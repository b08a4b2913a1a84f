/- The law FnValSame: its walk. -/
import Derived.Test.YtdcendbfkjmfjabDoorLd
import Derived.Test.YtdcendbfkjmfjabDoorVh
import Derived.Test.YtdcendbfkjmfjabDoorVt
import Derived.Test.YtdcendbfkjmfjabDoorTn
namespace Go.Proofs.YtdcendbfkjmfjabDoor
open Go.RowKit
attribute [local go_sem ↓] Go.wp_at_zero Go.wp_at_succ

theorem eqV_comm (n m : Int) (la lb : List (Int × Int)) : eqV n m la lb = eqV m n lb la := by
  unfold eqV eqL
  rw [Bool.beq_comm]
  congr 1
  by_cases h : la = lb
  · subst h; rfl
  · rw [decide_eq_false h, decide_eq_false (fun e => h e.symm)]
theorem BdL.wf {l : List (Int × Int)} (h : BdL l) : WfL l := fun i hi => by
  have := h.at hi
  omega
theorem okL_pos {l : List (Int × Int)} (h : okL l = true) : ∀ x ∈ l, PosE x := by
  induction l with
  | nil => intro x hx; cases hx
  | cons e r ih =>
    obtain ⟨he, _, hr⟩ := okL_cons.1 h
    intro x hx
    rcases List.mem_cons.1 hx with rfl | hx
    · have := rightB_iff.1 he; exact ⟨this.1, this.2.2.1⟩
    · exact ih hr x hx
theorem toList_loop (bs : ByteArray) : ∀ (n i : Nat) (r : List UInt8), bs.size - i = n → ByteArray.toList.loop bs i r = r.reverse ++ bs.data.toList.drop i := by
  intro n
  induction n with
  | zero =>
    intro i r h
    rw [ByteArray.toList.loop]
    have hs : bs.data.toList.length = bs.size := rfl
    rw [if_neg (by omega), List.drop_eq_nil_of_le (by omega)]
    simp
  | succ n ih =>
    intro i r h
    rw [ByteArray.toList.loop]
    have hs : bs.data.toList.length = bs.size := rfl
    have hi : i < bs.data.toList.length := by omega
    rw [if_pos (by omega), ih (i + 1) _ (by omega), List.drop_eq_getElem_cons hi]
    have e : bs.get! i = bs.data.toList[i] := by
      show bs.data[i]! = _
      rw [getElem!_pos bs.data i (by simpa using hi)]
      simp
    rw [e]
    simp
theorem toList_data (bs : ByteArray) : bs.toList = bs.data.toList := by
  unfold ByteArray.toList
  rw [toList_loop bs bs.size 0 [] (by omega)]
  simp
theorem toList_ne {A B : ByteArray} (h : ¬ A = B) : ¬ A.toList = B.toList := fun e => h (by
  rw [toList_data, toList_data] at e
  cases A; cases B
  simpa using e)

/-- Two that one key can have are one just if their texts are. -/
theorem same_texts {k n m : Int} {la lb : List (Int × Int)} (ha : okV k n la = true) (hb : okV k m lb = true) :
    eqV n m la lb = decide ((⟨(vTextL k n la).toArray⟩ : ByteArray) = ⟨(vTextL k m lb).toArray⟩) := by
  have hin : 0 ≤ k ∧ k < 24 := by
    apply Classical.byContradiction
    intro h
    rw [okV_out h] at ha
    cases ha
  have hinj : ∀ (x y : List UInt8), ((⟨x.toArray⟩ : ByteArray) = ⟨y.toArray⟩) ↔ x = y := fun x y => by
    constructor
    · intro h
      have := congrArg (fun s : ByteArray => s.data.toList) h
      simpa using this
    · intro h; rw [h]
  by_cases hk : k / 8 = 0
  · have hkd : kindOf k = 0 := by rw [kindOf_in hin.1 hin.2, hk]
    rw [vText_num hkd, vText_num hkd]
    have hn : 0 ≤ n ∧ n ≤ 1000000 := by
      apply Classical.byContradiction
      intro h
      rw [okV_numNo hin.1 hin.2 hk h] at ha
      cases ha
    have hm : 0 ≤ m ∧ m ≤ 1000000 := by
      apply Classical.byContradiction
      intro h
      rw [okV_numNo hin.1 hin.2 hk h] at hb
      cases hb
    rw [okV_numD hin.1 hin.2 hk hn.1 hn.2] at ha
    rw [okV_numD hin.1 hin.2 hk hm.1 hm.2] at hb
    have ea : la = [] := List.eq_nil_of_length_eq_zero (by simpa using ha)
    have eb : lb = [] := List.eq_nil_of_length_eq_zero (by simpa using hb)
    subst ea eb
    rw [eqV, eqL_refl, Bool.and_true]
    by_cases e : n = m
    · subst e; simp
    · rw [beq_eq_false_iff_ne.2 e, decide_eq_false]
      intro h
      exact e (itoa_inj hn.1 hm.1 ((hinj _ _).1 h))
  · have hkd : ¬ kindOf k = 0 := by rw [kindOf_in hin.1 hin.2]; exact hk
    rw [vText_kin hkd, vText_kin hkd]
    rw [okV_kin hin.1 hin.2 hk, Bool.and_eq_true] at ha hb
    have en : n = 0 := by simpa using ha.1
    have em : m = 0 := by simpa using hb.1
    subst en em
    rw [eqV_yes, eqL]
    by_cases e : la = lb
    · subst e; simp
    · rw [decide_eq_false e, decide_eq_false]
      intro h
      exact e (textL_inj (okL_pos ha.2) (okL_pos hb.2) ((hinj _ _).1 h))

set_option maxRecDepth 100000 in
set_option maxHeartbeats 4000000 in
theorem lawVSm_any (v : Value) (n : Nat) (v1 : Value) (m : Nat) (w : World) (h : Bs w v n) (h1 : Bs w v1 m) (ht : Tab w) :
    Calls Tryd.prog 3 #[v, v1] w fun e w' => e = .returned (.bool true) ∧ Below w.heap.size w w' := by
  obtain ⟨ao, cap, hv, h0, _⟩ := id h
  subst hv
  obtain ⟨bo, cbp, hv, h2, _⟩ := id h1
  subst hv
  unfold maxLen at h0 h2
  have HT := hid ht
  clear ht
  by_cases hbig : 1048576 < n
  · go_enter Tryd.func3, Tryd.ntmps3
    go_wp2
    all_goals
      go_ret
      exact ⟨rfl, Below.refl _ _⟩
  · by_cases hbig2 : 1048576 < m
    · go_enter Tryd.func3, Tryd.ntmps3
      go_wp2
      go_ret
      exact ⟨rfl, Below.refl _ _⟩
    · go_enter Tryd.func3, Tryd.ntmps3
      go_wp2_with fail
      refine (drawValOk_any _ n _ h).mono ?_
      rintro e w1 ⟨k, z, u, l, rfl, o1, hl, hbd, hz, c1⟩
      obtain ⟨uo, uc, hu, _⟩ := o1.rd
      subst hu
      have HO := hid o1
      have HBD := hid hbd
      clear o1 hbd
      have s1 := c1.size
      go_wp2_with fail
      refine (drawValOk_any _ m _ (h1.later (by go_grown))).mono ?_
      rintro e w2 ⟨k', z', u', l', rfl, o2, hl', hbd, hz', b2⟩
      have d2 : Below w1.heap.size w1 w2 := (Below.trans (by go_grown) (b2.mono (by first | omega | (simp; done) | (simp; omega))))
      have c2 : Below w.heap.size w w2 := c1.trans (d2.mono c1.size)
      have a0_2 : w2.cell? ⟨w1.heap.size, 0, none⟩ = some (.int .i64 z) := (by rw [b2.cell (by first | omega | (simp; done) | (simp; omega))]; go_cell)
      have a1_2 : w2.cell? ⟨w1.heap.size, 1, none⟩ = some (.slice uo l.length uc) := (by rw [b2.cell (by first | omega | (simp; done) | (simp; omega))]; go_cell)
      have al_2 : w1.heap.size < w2.heap.size := (by have := b2.size; first | omega | (revert this; simp; done) | (revert this; simp; omega))
      obtain ⟨uo', uc', hu, _⟩ := o2.rd
      subst hu
      have HO2 := hid (HO.out.later d2)
      have HP2 := hid o2
      have HBD' := hid hbd
      clear b2 d2 HO o2 hbd
      go_wp2_with fail
      refine (implVSame_any z z' _ _ l l' _ (HO2.out.rd.later (by go_grown)) (HP2.out.rd.later (by go_grown))).mono ?_
      rintro e w3 ⟨rfl, b3⟩
      have d3 : Below w2.heap.size w2 w3 := (Below.trans (by go_grown) (b3.mono (by first | omega | (simp; done) | (simp; omega))))
      have c3 : Below w.heap.size w w3 := c2.trans (d3.mono c2.size)
      have a0_3 : w3.cell? ⟨w1.heap.size, 0, none⟩ = some (.int .i64 z) := (by rw [b3.cell (by first | omega | (simp; done) | (simp; omega))]; go_cell)
      have a1_3 : w3.cell? ⟨w1.heap.size, 1, none⟩ = some (.slice uo l.length uc) := (by rw [b3.cell (by first | omega | (simp; done) | (simp; omega))]; go_cell)
      have al_3 : w1.heap.size < w3.heap.size := (by have := b3.size; first | omega | (revert this; simp; done) | (revert this; simp; omega))
      have b0_3 : w3.cell? ⟨w2.heap.size, 0, none⟩ = some (.int .i64 z') := (by rw [b3.cell (by first | omega | (simp; done) | (simp; omega))]; go_cell)
      have b1_3 : w3.cell? ⟨w2.heap.size, 1, none⟩ = some (.slice uo' l'.length uc') := (by rw [b3.cell (by first | omega | (simp; done) | (simp; omega))]; go_cell)
      have bl_3 : w2.heap.size < w3.heap.size := (by have := b3.size; first | omega | (revert this; simp; done) | (revert this; simp; omega))
      clear a0_2 a1_2 al_2
      have HO3 := hid (HO2.out.later d3)
      have HP3 := hid (HP2.out.later d3)
      clear b3 d3 HO2 HP2
      go_wp2_with fail
      refine (specVSame_any z z' _ _ l l' _ HO3.out.rd HP3.out.rd).mono ?_
      rintro e w4 ⟨rfl, b4⟩
      have d4 : Below w3.heap.size w3 w4 := (Below.trans (by go_grown) (b4.mono (by first | omega | (simp; done) | (simp; omega))))
      have c4 : Below w.heap.size w w4 := c3.trans (d4.mono c3.size)
      have a0_4 : w4.cell? ⟨w1.heap.size, 0, none⟩ = some (.int .i64 z) := (by rw [b4.cell (by first | omega | (simp; done) | (simp; omega))]; go_cell)
      have a1_4 : w4.cell? ⟨w1.heap.size, 1, none⟩ = some (.slice uo l.length uc) := (by rw [b4.cell (by first | omega | (simp; done) | (simp; omega))]; go_cell)
      have al_4 : w1.heap.size < w4.heap.size := (by have := b4.size; first | omega | (revert this; simp; done) | (revert this; simp; omega))
      have b0_4 : w4.cell? ⟨w2.heap.size, 0, none⟩ = some (.int .i64 z') := (by rw [b4.cell (by first | omega | (simp; done) | (simp; omega))]; go_cell)
      have b1_4 : w4.cell? ⟨w2.heap.size, 1, none⟩ = some (.slice uo' l'.length uc') := (by rw [b4.cell (by first | omega | (simp; done) | (simp; omega))]; go_cell)
      have bl_4 : w2.heap.size < w4.heap.size := (by have := b4.size; first | omega | (revert this; simp; done) | (revert this; simp; omega))
      clear a0_3 a1_3 al_3 b0_3 b1_3 bl_3
      have HO4 := hid (HO3.out.later d4)
      have HP4 := hid (HP3.out.later d4)
      clear b4 d4 HO3 HP3
      go_wp2_with fail
      refine (implVSame_any z' z _ _ l' l _ HP4.out.rd HO4.out.rd).mono ?_
      rintro e w5 ⟨rfl, b5⟩
      have d5 : Below w4.heap.size w4 w5 := (Below.trans (by go_grown) (b5.mono (by first | omega | (simp; done) | (simp; omega))))
      have c5 : Below w.heap.size w w5 := c4.trans (d5.mono c4.size)
      have a0_5 : w5.cell? ⟨w1.heap.size, 0, none⟩ = some (.int .i64 z) := (by rw [b5.cell (by first | omega | (simp; done) | (simp; omega))]; go_cell)
      have a1_5 : w5.cell? ⟨w1.heap.size, 1, none⟩ = some (.slice uo l.length uc) := (by rw [b5.cell (by first | omega | (simp; done) | (simp; omega))]; go_cell)
      have al_5 : w1.heap.size < w5.heap.size := (by have := b5.size; first | omega | (revert this; simp; done) | (revert this; simp; omega))
      have b0_5 : w5.cell? ⟨w2.heap.size, 0, none⟩ = some (.int .i64 z') := (by rw [b5.cell (by first | omega | (simp; done) | (simp; omega))]; go_cell)
      have b1_5 : w5.cell? ⟨w2.heap.size, 1, none⟩ = some (.slice uo' l'.length uc') := (by rw [b5.cell (by first | omega | (simp; done) | (simp; omega))]; go_cell)
      have bl_5 : w2.heap.size < w5.heap.size := (by have := b5.size; first | omega | (revert this; simp; done) | (revert this; simp; omega))
      clear a0_4 a1_4 al_4 b0_4 b1_4 bl_4
      have HO5 := hid (HO4.out.later d5)
      have HP5 := hid (HP4.out.later d5)
      clear b5 d5 HO4 HP4
      rw [eqV_comm z' z l' l]
      go_wp2_with fail
      refine (implVSame_any z z _ _ l l _ HO5.out.rd HO5.out.rd).mono ?_
      rintro e w6 ⟨rfl, b6⟩
      have d6 : Below w5.heap.size w5 w6 := (Below.trans (by go_grown) (b6.mono (by first | omega | (simp; done) | (simp; omega))))
      have c6 : Below w.heap.size w w6 := c5.trans (d6.mono c5.size)
      have a0_6 : w6.cell? ⟨w1.heap.size, 0, none⟩ = some (.int .i64 z) := (by rw [b6.cell (by first | omega | (simp; done) | (simp; omega))]; go_cell)
      have a1_6 : w6.cell? ⟨w1.heap.size, 1, none⟩ = some (.slice uo l.length uc) := (by rw [b6.cell (by first | omega | (simp; done) | (simp; omega))]; go_cell)
      have al_6 : w1.heap.size < w6.heap.size := (by have := b6.size; first | omega | (revert this; simp; done) | (revert this; simp; omega))
      have b0_6 : w6.cell? ⟨w2.heap.size, 0, none⟩ = some (.int .i64 z') := (by rw [b6.cell (by first | omega | (simp; done) | (simp; omega))]; go_cell)
      have b1_6 : w6.cell? ⟨w2.heap.size, 1, none⟩ = some (.slice uo' l'.length uc') := (by rw [b6.cell (by first | omega | (simp; done) | (simp; omega))]; go_cell)
      have bl_6 : w2.heap.size < w6.heap.size := (by have := b6.size; first | omega | (revert this; simp; done) | (revert this; simp; omega))
      clear a0_5 a1_5 al_5 b0_5 b1_5 bl_5
      have HO6 := hid (HO5.out.later d6)
      have HP6 := hid (HP5.out.later d6)
      clear b6 d6 HO5 HP5
      rw [eqV_refl]
      go_wp2_with fail
      refine (specOkV_any k z _ l _ HO6.out.rd).mono ?_
      rintro e w7 ⟨rfl, b7⟩
      have d7 : Below w6.heap.size w6 w7 := (Below.trans (by go_grown) (b7.mono (by first | omega | (simp; done) | (simp; omega))))
      have c7 : Below w.heap.size w w7 := c6.trans (d7.mono c6.size)
      have a0_7 : w7.cell? ⟨w1.heap.size, 0, none⟩ = some (.int .i64 z) := (by rw [b7.cell (by first | omega | (simp; done) | (simp; omega))]; go_cell)
      have a1_7 : w7.cell? ⟨w1.heap.size, 1, none⟩ = some (.slice uo l.length uc) := (by rw [b7.cell (by first | omega | (simp; done) | (simp; omega))]; go_cell)
      have al_7 : w1.heap.size < w7.heap.size := (by have := b7.size; first | omega | (revert this; simp; done) | (revert this; simp; omega))
      have b0_7 : w7.cell? ⟨w2.heap.size, 0, none⟩ = some (.int .i64 z') := (by rw [b7.cell (by first | omega | (simp; done) | (simp; omega))]; go_cell)
      have b1_7 : w7.cell? ⟨w2.heap.size, 1, none⟩ = some (.slice uo' l'.length uc') := (by rw [b7.cell (by first | omega | (simp; done) | (simp; omega))]; go_cell)
      have bl_7 : w2.heap.size < w7.heap.size := (by have := b7.size; first | omega | (revert this; simp; done) | (revert this; simp; omega))
      clear a0_6 a1_6 al_6 b0_6 b1_6 bl_6
      have HO7 := hid (HO6.out.later d7)
      have HP7 := hid (HP6.out.later d7)
      clear b7 d7 HO6 HP6
      cases hoa : okV k z l with
      | false =>
        go_wp2_with fail
        have r0 := cell_regrown a0_7
        have r1 := cell_regrown a1_7
        refine wp_region_quiet_below (by kernel_rfl) (by kernel_rfl) ?_
        repeat (first | go_big_quiet_skip | (go_big_quiet_want; go_big_quiet_op; first | go_big_quiet_on | go_big_quiet_call (first | (go_at_call 10; exact Calls.regrown_of (implOkV_any k z _ l _ (HO7.out.rd.later (below_regrown _ _ _)))) | (go_at_call 9; exact Calls.regrown_of (specOkV_any k z _ l _ (HO7.out.rd.later (below_regrown _ _ _)))))))
        refine wpQuiet_nil ?_
        rintro wq ⟨pq, hwq⟩
        have hq : Below w7.heap.size w7 wq := by rw [hwq]; exact below_regrown _ _ _
        clear hwq pq
        clear r0 r1
        have cq := c7.trans (hq.mono c7.size)
        go_wp2
        go_ret
        exact ⟨by simp, cq⟩
      | true =>
        go_wp2_with fail
        refine (specOkV_any k z' _ l' _ HP7.out.rd).mono ?_
        rintro e w8 ⟨rfl, b8⟩
        have d8 : Below w7.heap.size w7 w8 := (Below.trans (by go_grown) (b8.mono (by first | omega | (simp; done) | (simp; omega))))
        have c8 : Below w.heap.size w w8 := c7.trans (d8.mono c7.size)
        have a0_8 : w8.cell? ⟨w1.heap.size, 0, none⟩ = some (.int .i64 z) := (by rw [b8.cell (by first | omega | (simp; done) | (simp; omega))]; go_cell)
        have a1_8 : w8.cell? ⟨w1.heap.size, 1, none⟩ = some (.slice uo l.length uc) := (by rw [b8.cell (by first | omega | (simp; done) | (simp; omega))]; go_cell)
        have al_8 : w1.heap.size < w8.heap.size := (by have := b8.size; first | omega | (revert this; simp; done) | (revert this; simp; omega))
        have b0_8 : w8.cell? ⟨w2.heap.size, 0, none⟩ = some (.int .i64 z') := (by rw [b8.cell (by first | omega | (simp; done) | (simp; omega))]; go_cell)
        have b1_8 : w8.cell? ⟨w2.heap.size, 1, none⟩ = some (.slice uo' l'.length uc') := (by rw [b8.cell (by first | omega | (simp; done) | (simp; omega))]; go_cell)
        have bl_8 : w2.heap.size < w8.heap.size := (by have := b8.size; first | omega | (revert this; simp; done) | (revert this; simp; omega))
        clear a0_7 a1_7 al_7 b0_7 b1_7 bl_7
        have HO8 := hid (HO7.out.later d8)
        have HP8 := hid (HP7.out.later d8)
        clear b8 d8 HO7 HP7
        cases hob : okV k z' l' with
        | false =>
          go_wp2_with fail
          have r0 := cell_regrown a0_8
          have r1 := cell_regrown a1_8
          refine wp_region_quiet_below (by kernel_rfl) (by kernel_rfl) ?_
          repeat (first | go_big_quiet_skip | (go_big_quiet_want; go_big_quiet_op; first | go_big_quiet_on | go_big_quiet_call (first | (go_at_call 10; exact Calls.regrown_of (implOkV_any k z _ l _ (HO8.out.rd.later (below_regrown _ _ _)))) | (go_at_call 9; exact Calls.regrown_of (specOkV_any k z _ l _ (HO8.out.rd.later (below_regrown _ _ _)))))))
          refine wpQuiet_nil ?_
          rintro wq ⟨pq, hwq⟩
          have hq : Below w8.heap.size w8 wq := by rw [hwq]; exact below_regrown _ _ _
          clear hwq pq
          clear r0 r1
          have cq := c8.trans (hq.mono c8.size)
          go_wp2
          go_ret
          exact ⟨by simp, cq⟩
        | true =>
          have hst := same_texts hoa hob
          have HT8 := hid (HT.out.below c8)
          obtain ⟨A, hA⟩ : ∃ A : ByteArray, (⟨(vTextL k z l).toArray⟩ : ByteArray) = A := ⟨_, rfl⟩
          obtain ⟨B, hB⟩ : ∃ B : ByteArray, (⟨(vTextL k z' l').toArray⟩ : ByteArray) = B := ⟨_, rfl⟩
          have HA : Hid (∀ (w : World), Rd w (.slice uo l.length uc) l → (-9223372036854775808 ≤ z ∧ z ≤ 9223372036854775807) → Tab w → Calls Tryd.prog 11 #[.int .i64 k, .agg #[.int .i64 z, .slice uo l.length uc]] w fun e w' => e = .returned (.string A) ∧ Below w.heap.size w w') := by
            refine hid fun w h1 h2 h3 => ?_
            rw [← hA]
            exact implVText_any k z _ l w h1 (by omega) HBD.out.wf h2.1 h2.2 h3
          have HB : Hid (∀ (w : World), Rd w (.slice uo' l'.length uc') l' → (-9223372036854775808 ≤ z' ∧ z' ≤ 9223372036854775807) → Tab w → Calls Tryd.prog 11 #[.int .i64 k, .agg #[.int .i64 z', .slice uo' l'.length uc']] w fun e w' => e = .returned (.string B) ∧ Below w.heap.size w w') := by
            refine hid fun w h1 h2 h3 => ?_
            rw [← hB]
            exact implVText_any k z' _ l' w h1 (by omega) HBD'.out.wf h2.1 h2.2 h3
          rw [hA, hB] at hst
          clear hA hB hoa hob
          by_cases e : A = B
          · subst e
            have hs : eqV z z' l l' = true := by rw [hst]; simp
            rw [hs]
            clear hst hs
            go_wp2_with fail
            have r0 := cell_regrown a0_8
            have r1 := cell_regrown a1_8
            have r2 := cell_regrown b0_8
            have r3 := cell_regrown b1_8
            refine wp_region_quiet_below (by kernel_rfl) (by kernel_rfl) ?_
            repeat (first | go_big_quiet_skip | (go_big_quiet_want; go_big_quiet_op; first | go_big_quiet_on | go_big_quiet_call (first | (go_at_call 11; exact Calls.regrown_of (HA.out _ (HO8.out.rd.later (below_regrown _ _ _)) ⟨by omega, by omega⟩ (HT8.out.below (below_regrown _ _ _)))) | (go_at_call 11; exact Calls.regrown_of (HB.out _ (HP8.out.rd.later (below_regrown _ _ _)) ⟨by omega, by omega⟩ (HT8.out.below (below_regrown _ _ _)))))))
            refine wpQuiet_nil ?_
            rintro wq ⟨pq, hwq⟩
            have hq : Below w8.heap.size w8 wq := by rw [hwq]; exact below_regrown _ _ _
            clear hwq pq
            clear r0 r1 r2 r3
            have cq := c8.trans (hq.mono c8.size)
            go_wp2
            go_ret
            exact ⟨by simp, cq⟩
          · have hs : eqV z z' l l' = false := by rw [hst]; simp [e]
            have hne := hid (toList_ne e)
            rw [hs]
            clear hst hs e
            go_wp2_with fail
            have r0 := cell_regrown a0_8
            have r1 := cell_regrown a1_8
            have r2 := cell_regrown b0_8
            have r3 := cell_regrown b1_8
            refine wp_region_quiet_below (by kernel_rfl) (by kernel_rfl) ?_
            repeat (first | go_big_quiet_skip | (go_big_quiet_want; go_big_quiet_op; first | go_big_quiet_on | go_big_quiet_call (first | (go_at_call 11; exact Calls.regrown_of (HA.out _ (HO8.out.rd.later (below_regrown _ _ _)) ⟨by omega, by omega⟩ (HT8.out.below (below_regrown _ _ _)))) | (go_at_call 11; exact Calls.regrown_of (HB.out _ (HP8.out.rd.later (below_regrown _ _ _)) ⟨by omega, by omega⟩ (HT8.out.below (below_regrown _ _ _)))))))
            refine wpQuiet_nil ?_
            rintro wq ⟨pq, hwq⟩
            have hq : Below w8.heap.size w8 wq := by rw [hwq]; exact below_regrown _ _ _
            clear hwq pq
            clear r0 r1 r2 r3
            have cq := c8.trans (hq.mono c8.size)
            go_wp2
            go_ret
            exact ⟨by simp [hne.out], cq⟩
end Go.Proofs.YtdcendbfkjmfjabDoor
