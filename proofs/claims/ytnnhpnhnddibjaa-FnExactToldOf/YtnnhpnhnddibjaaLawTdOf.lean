/- The law FnExactToldOf: its walk. Written by a program (gtd.py). -/
import Derived.Test.YtnnhpnhnddibjaaJf
import Derived.Test.YtnnhpnhnddibjaaJc
import Derived.Test.YtnnhpnhnddibjaaGrA
import Derived.Deep.Cut
namespace Go.Proofs.Ytnnhpnhnddibjaa
open Go.RowKit
attribute [local go_sem ↓] Go.wp_at_zero Go.wp_at_succ

theorem cntM_kdI (ns : List Int) : cntM 1 (kdI ns) = (ns.length : Int) := by
  induction ns with
  | nil => rfl
  | cons x r ih =>
    have : cntM 1 (kdI (x :: r)) = 1 + cntM 1 (kdI r) := by simp [cntM, kdI, cntK]
    rw [this, ih]
    simp
    omega

set_option maxRecDepth 100000 in
set_option maxHeartbeats 4000000 in
theorem lawTdOf_any (v0 : Value) (L : List KD) (n1 n2 : Int) (w : World) (h : RdT w v0 L) :
    Calls Try.prog 4 #[v0, .int .i64 n1, .int .i64 n2] w fun e w' => e = .returned (.bool true) ∧ Below w.heap.size w w' := by
  have H0 := hid h
  obtain ⟨ao, cap, rfl, _, _⟩ := h
  go_enter Try.func4, Try.ntmps4
  go_wp2_with fail
  refine (szToldS_any _ L _ _ H0.out (by omega) (by omega)).mono ?_
  rintro e w2 ⟨hs, c2⟩
  rcases hs with ⟨rfl, hpos⟩ | ⟨rfl, hneg⟩
  · have HL : Hid (L.length ≤ 1048576 ∧ (∀ i, i < L.length → (L.getD i kd0).2.length ≤ 1048576) ∧ L.length + bulkM L ≤ 1048576) := hid ⟨by omega, fun i hi => by have := bulkM_get L i hi; omega, by omega⟩
    generalize hr : (1048576 : Int) - (L.length : Int) - (bulkM L : Int) = r at *
    have hr2 : ¬ (r < 0) := by omega
    clear hr hpos
    go_wp2_with fail
    refine (toToldS_own _ L _ (H0.out.later c2) HL.out.1 HL.out.2.1).mono ?_
    rintro e w3 ⟨x3, rfl, o3, b3⟩
    have c3 := c2.trans (b3.mono c2.size)
    have R3 := hid o3.rd
    have HNL := hid (toldOf_le L n1 n2)
    clear o3 b3
    go_wp2_with fail
    refine (specToldOf_any _ L n1 n2 _ R3.out HL.out.1).mono ?_
    rintro e w4 ⟨x4, rfl, o4, b4⟩
    have c4 := c3.trans (b4.mono c3.size)
    have OW := hid o4
    have BW := hid (fun q hq => (o4.block q hq).2)
    have z4 := c3.size
    clear b4 o4
    go_wp2_with fail
    refine (toToldS_own _ L _ (H0.out.later c4) HL.out.1 HL.out.2.1).mono ?_
    rintro e w5 ⟨x5, rfl, o5, b5⟩
    have c5 := c4.trans (b5.mono c4.size)
    have OX := hid o5
    have OW5 := hid (OW.out.later b5)
    have z5 := b5.size
    clear o5 b5
    go_wp2_with fail
    refine (implToldOf_any _ L n1 n2 _ OX.out.rd HL.out.1).mono ?_
    rintro e w6 ⟨x6, rfl, o6, b6⟩
    have c6 := c5.trans (b6.mono c5.size)
    have OG6 := hid o6
    have OX6 := hid (OX.out.later b6)
    have OW6 := hid (OW5.out.later b6)
    have z6 := b6.size
    clear o6 b6
    obtain ⟨ns, hns⟩ : ∃ ns, toldOf L n1 n2 = ns := ⟨_, rfl⟩
    have HNS := hid hns
    rw [hns] at OG6 OW6 HNL
    clear hns OW OW5
    go_wp2_with fail
    refine (eqIntS_any _ _ (kdI ns) (kdI ns) _ (OG6.out.ownM.rd (by decide) (by decide)) (OW6.out.ownM.rd (by decide) (by decide))).mono ?_
    rintro e w7 ⟨rfl, b7⟩
    rw [eqM_refl]
    have c7 := c6.trans (b7.mono c6.size)
    have OG7 := hid (OG6.out.later b7)
    have OX7 := hid (OX6.out.later b7)
    have OW7 := hid (OW6.out.later b7)
    have z7 := b7.size
    clear b7
    go_wp2_with fail
    refine (toToldS_own _ L _ (H0.out.later c7) HL.out.1 HL.out.2.1).mono ?_
    rintro e w8 ⟨x8, rfl, o8, b8⟩
    have c8 := c7.trans (b8.mono c7.size)
    have R8 := hid o8.rd
    have OG8 := hid (OG7.out.later b8)
    have OX8 := hid (OX7.out.later b8)
    have OW8 := hid (OW7.out.later b8)
    have z8 := b8.size
    clear o8 b8
    go_wp2_with fail
    refine (eqToldS_any _ _ L L _ OX8.out.rd R8.out).mono ?_
    rintro e w9 ⟨rfl, b9⟩
    rw [eqM_refl]
    have c9 := c8.trans (b9.mono c8.size)
    have OG9 := hid (OG8.out.later b9)
    have OX9 := hid (OX8.out.later b9)
    have OW9 := hid (OW8.out.later b9)
    have z9 := b9.size
    clear b9
    go_wp2_with fail
    refine (markToldS_any x5 L 1 _ _ OX9.out (by omega) (by have := HL.out.2.2; unfold cntT; omega)).mono ?_
    rintro e w10 ⟨⟨r1, hr1, rfl⟩, o10⟩
    have hr1' : ¬ (r1 < 0) := by omega
    have c10 := c9.trans (o10.below (B := w.heap.size) (fun q hq => by have := hq.1; have := c4.size; omega) c9.size)
    have OG10 := hid (OG9.out.agree (w' := w10) (fun q hq => o10.block q (OG9.out.block q hq).2 (fun hf => by have := (OG9.out.block q hq).1; have := hf.2; omega)))
    have OW10 := hid (OW9.out.agree (w' := w10) (fun q hq => o10.block q (OW9.out.block q hq).2 (fun hf => by have := BW.out q hq; have := hf.1; omega)))
    have z10 := o10.size
    clear o10
    go_wp2_with fail
    refine (eqIntS_any _ _ (kdI ns) (kdI ns) _ (OG10.out.ownM.rd (by decide) (by decide)) (OW10.out.ownM.rd (by decide) (by decide))).mono ?_
    rintro e w11 ⟨rfl, b11⟩
    rw [eqM_refl]
    have c11 := c10.trans (b11.mono c10.size)
    have OG11 := hid (OG10.out.later b11)
    have OW11 := hid (OW10.out.later b11)
    have z11 := b11.size
    clear b11
    have HCN : Hid (cntM 1 (kdI ns) = (ns.length : Int)) := hid (cntM_kdI ns)
    have HC0 : 0 ≤ cntM 1 (kdI ns) ∧ cntM 1 (kdI ns) ≤ 1048576 := by have := HCN.out; have := HNL.out; have := HL.out.1; omega
    generalize hcn : cntM 1 (kdI ns) = cn at *
    go_wp2_with fail
    refine (markIntS_any x6 (kdI ns) 1 _ _ OG11.out.ownM (by omega) (by rw [hcn]; omega)).mono ?_
    rintro e w12 ⟨rfl, og, o12⟩
    rw [hcn]
    have c12 := c11.trans (o12.below (B := w.heap.size) (fun q hq => by have := hq.1; have := c5.size; omega) c11.size)
    have OW12 := hid (OW11.out.agree (w' := w12) (fun q hq => o12.block q (OW11.out.block q hq).2 (fun hf => by have := BW.out q hq; have := hf.1; omega)))
    have RG12 := hid (og.rd (by decide) (by decide))
    have z12 := o12.size
    have HKL : Hid (∀ i, i < (kdI ns).length → ((kdI ns).getD i kd0).1.length = 1 ∧ ((kdI ns).getD i kd0).2 = []) := hid (fun i hi => by rw [kdI_length] at hi; rw [kdI_get ns i hi]; exact ⟨rfl, rfl⟩)
    clear og o12
    go_wp2_with fail
    refine (heldIntS_any x6 (kdI ns) 1 _ RG12.out HKL.out (by omega) (by rw [hcn]; omega)).mono ?_
    rintro e w13 ⟨rfl, b13⟩
    rw [hcn]
    have c13 := c12.trans (b13.mono c12.size)
    have OW13 := hid (OW12.out.later b13)
    have RG13 := hid (RG12.out.later b13)
    have hq2 : ¬ ((1 : Int) + cn < 0) := by omega
    clear b13
    go_wp2_with fail
    refine (toToldS_own _ L _ (H0.out.later c13) HL.out.1 HL.out.2.1).mono ?_
    rintro e w14 ⟨x14, rfl, o14, b14⟩
    have c14 := c13.trans (b14.mono c13.size)
    have R14 := hid o14.rd
    have OW14 := hid (OW13.out.later b14)
    have RG14 := hid (RG13.out.later b14)
    clear o14 b14
    go_wp2_with fail
    refine (implToldOf_any _ L n1 n2 _ R14.out HL.out.1).mono ?_
    rintro e w15 ⟨x15, rfl, o15, b15⟩
    rw [HNS.out] at o15
    have c15 := c14.trans (b15.mono c14.size)
    have OH15 := hid o15
    have OW15 := hid (OW14.out.later b15)
    have RG15 := hid (RG14.out.later b15)
    clear o15 b15
    go_wp2_with fail
    refine (eqIntS_any _ _ (kdI ns) (kdI ns) _ (OH15.out.ownM.rd (by decide) (by decide)) (OW15.out.ownM.rd (by decide) (by decide))).mono ?_
    rintro e w16 ⟨rfl, b16⟩
    rw [eqM_refl]
    have c16 := c15.trans (b16.mono c15.size)
    have RG16 := hid (RG15.out.later b16)
    clear b16
    go_wp2_with fail
    refine (heldIntS_any x6 (kdI ns) 1 _ RG16.out HKL.out (by omega) (by rw [hcn]; omega)).mono ?_
    rintro e w17 ⟨rfl, b17⟩
    rw [hcn]
    have c17 := c16.trans (b17.mono c16.size)
    clear b17
    go_wp2
    go_ret
    exact ⟨by simp, c17⟩
  · go_wp2
    go_ret
    exact ⟨by simp, c2⟩
end Go.Proofs.Ytnnhpnhnddibjaa
