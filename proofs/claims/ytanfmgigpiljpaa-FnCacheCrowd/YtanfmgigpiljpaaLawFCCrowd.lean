/- The law FnCacheCrowd: its walk. Written by a program (gfc.py). -/
import Derived.Test.YtanfmgigpiljpaaYl
import Derived.Test.YtanfmgigpiljpaaYj
import Derived.Test.YtanfmgigpiljpaaYf
import Derived.Test.YtanfmgigpiljpaaYc
import Derived.Test.YtanfmgigpiljpaaZa
import Derived.Test.YtanfmgigpiljpaaAps
import Derived.Test.YtanfmgigpiljpaaJz
import Derived.Maps.AppendAt
import Derived.OwnWalk
import Derived.BigQuiet
import Derived.Lib.QuietBelow
import Derived.Deep.Cut
import Derived.Deep.CutRange
namespace Go.Proofs.Ytanfmgigpiljpaa
open Go.RowKit
attribute [local go_sem ↓] Go.wp_at_zero Go.wp_at_succ

theorem zeroR : ((List.range 24).map fun _ => (([0], []) : KD)) = zeroF := by rfl
theorem cok_zero {v0 v1 : Value} {w : World} (h : RSCache w v0 v1 [] zeroF) : Calls Try.prog 9 #[.agg #[v0, v1]] w fun e w' => e = .returned (.bool true) ∧ Below w.heap.size w w' := by
  have := implCOk_any v0 v1 [] zeroF w h.h0 h.h1
  rw [okC_zero] at this
  exact this
theorem rs_own {B g : Nat} {w : World} (h : w.ownsRow B 3 1 (.slice (some ⟨g, 0, none⟩) 24 24) 24 (floC zeroF)) : RSCache w (.slice none 0 0) (.slice (some ⟨g, 0, none⟩) 24 24) [] zeroF := ⟨RdM.nil _ none 0, rowF_rd h zeroF_flo⟩
theorem rs_open {g : Nat} {w : World} (h : RowN w g 84 (fun _ => 0)) (hg : g < w.heap.size) : RSCache w (.slice none 0 0) (.slice (some ⟨g, 84, none⟩) 24 24) [] zeroF := ⟨RdM.nil _ none 0, by have := h.rd hg; rw [zeroR] at this; exact this⟩
theorem mem_take_more (S : List Int) (q : Nat) (h : q < S.length) {y : Int} (hy : S.getD q 0 = y) (x : Int) : decide (x ∈ S.take (q + 1)) = (decide (x ∈ S.take q) || decide (y = x)) := by
  have e : S[q] = y := by rw [← hy]; simp [List.getD_eq_getElem?_getD, h]
  rw [List.take_succ_eq_append_getElem h, e, Bool.eq_iff_iff]
  simp only [List.mem_append, List.mem_singleton, Bool.or_eq_true, decide_eq_true_eq]
  exact or_congr Iff.rfl eq_comm
theorem VarAt.of2 {w : World} {b : Nat} {x y : Value} (hb : b < w.heap.size) (c0 : w.cell? ⟨b, 0, none⟩ = some x) (f0 : w.frozen? ⟨b, 0, none⟩ = false) (c1 : w.cell? ⟨b, 1, none⟩ = some y) (f1 : w.frozen? ⟨b, 1, none⟩ = false) : VarAt w b [x, y] :=
  ⟨hb, fun i v hv => by
    match i, hv with
    | 0, hv => cases hv; exact ⟨c0, f0⟩
    | 1, hv => cases hv; exact ⟨c1, f1⟩⟩
theorem ap_open {g : Nat} {w : World} (h : RowN w g 84 (fun _ => 0)) (hg : g < w.heap.size) : ApC g w.heap.size w (.slice none 0 0) (.slice (some ⟨g, 84, none⟩) 24 24) [] zeroF := fun w2 h2 =>
  rs_open (h.agree (h2.block g hg (by show ¬ (g < g ∨ w.heap.size ≤ g); omega))) (Nat.lt_of_lt_of_le hg h2.size)
set_option maxRecDepth 100000 in
set_option maxHeartbeats 16000000 in
theorem lawFCCrowd_any (v : Value) (n : Nat) (v2 : Value) (n2 : Nat) (w : World) (h : Bs w v n) (h2 : Bs w v2 n2) :
    Calls Try.prog 4 #[v, v2] w fun e w' => e = .returned (.bool true) ∧ Below w.heap.size w w' := by
  have HB1 := hid h
  have HB2 := hid h2
  obtain ⟨ao, cap, hv, h0, _⟩ := h
  subst hv
  obtain ⟨ao2, cap2, hv, h20, _⟩ := h2
  subst hv
  unfold maxLen at h0 h20
  by_cases hbign : 1048576 < n
  · go_enter Try.func4, Try.ntmps4
    go_wp2
    go_ret
    exact ⟨rfl, Below.refl _ _⟩
  by_cases hbign2 : 1048576 < n2
  · go_enter Try.func4, Try.ntmps4
    go_wp2
    go_ret
    exact ⟨rfl, Below.refl _ _⟩
  go_enter Try.func4, Try.ntmps4
  go_wp2_with fail
  refine (implCOpen_any _).mono ?_
  rintro e w1 ⟨⟨gf, rfl, hg1, hg2, hrow⟩, c1⟩
  have HC_1 := hid (rs_open hrow hg2)
  have HAP_1 := hid (ap_open hrow hg2)
  clear hrow hg1
  go_upto_region 4 with fail
  generalize hW2 : (w1.alloc (.cells #[.slice none 0 0, .slice (some ⟨gf, 84, none⟩) 24 24] 26)) = w2
  have c0_2 : w2.cell? ⟨w1.heap.size, 0, none⟩ = some (.slice none 0 0) := by subst hW2; go_cell
  have cf0_2 : w2.frozen? ⟨w1.heap.size, 0, none⟩ = false := by subst hW2; (first | go_cell | (simp [World.frozen?, World.alloc]; done) | rfl)
  have c1_2 : w2.cell? ⟨w1.heap.size, 1, none⟩ = some (.slice (some ⟨gf, 84, none⟩) 24 24) := by subst hW2; go_cell
  have cf1_2 : w2.frozen? ⟨w1.heap.size, 1, none⟩ = false := by subst hW2; (first | go_cell | (simp [World.frozen?, World.alloc]; done) | rfl)
  have cl_2 : w1.heap.size < w2.heap.size := by subst hW2; simp
  have d2 : Below w1.heap.size w1 w2 := by subst hW2; go_grown
  clear hW2
  have c2 : Below w.heap.size w w2 := c1.trans (d2.mono c1.size)
  have HC_2 := hid (HC_1.out.later d2)
  have HAP_2 := hid (HAP_1.out.later d2)
  clear d2 HC_1 HAP_1
  go_cut [33] from 25 (fun s wx => s = .bool false ∧ Below w2.heap.size w2 wx)
  case first =>
    go_region_with (first
      | (go_at_call 9; refine (cok_zero (HC_2.out.later (by go_grown))).mono ?_; rintro e w50 ⟨rfl, b50⟩; have d50 : Below w2.heap.size w2 w50 := (Below.trans (by go_grown) (b50.mono (by first | omega | (simp; done) | (simp; omega)))); have c50 : Below w.heap.size w w50 := c2.trans (d50.mono c2.size); have c0_50 : w50.cell? ⟨w1.heap.size, 0, none⟩ = some (.slice none 0 0) := (by rw [b50.cell (by first | omega | (simp; done) | (simp; omega))]; go_cell); have cf0_50 : w50.frozen? ⟨w1.heap.size, 0, none⟩ = false := (by rw [b50.frozen (by first | omega | (simp; done) | (simp; omega))]; (first | go_cell | (simp [World.frozen?, World.alloc]; done) | rfl)); have c1_50 : w50.cell? ⟨w1.heap.size, 1, none⟩ = some (.slice (some ⟨gf, 84, none⟩) 24 24) := (by rw [b50.cell (by first | omega | (simp; done) | (simp; omega))]; go_cell); have cf1_50 : w50.frozen? ⟨w1.heap.size, 1, none⟩ = false := (by rw [b50.frozen (by first | omega | (simp; done) | (simp; omega))]; (first | go_cell | (simp [World.frozen?, World.alloc]; done) | rfl)); have cl_50 : w1.heap.size < w50.heap.size := (by have := b50.size; first | omega | (revert this; simp; done) | (revert this; simp; omega)); clear c0_2 cf0_2 c1_2 cf1_2 cl_2; have HC50 := hid (HC_2.out.later d50))
      | (go_at_call 17; refine (specCOpen_own _).mono ?_; rintro e w51 ⟨⟨gs, rfl, hrow⟩, b51⟩; have d51 : Below w50.heap.size w50 w51 := (Below.trans (by go_grown) (b51.mono (by first | omega | (simp; done) | (simp; omega)))); have c51 : Below w.heap.size w w51 := c50.trans (d51.mono c50.size); have c0_51 : w51.cell? ⟨w1.heap.size, 0, none⟩ = some (.slice none 0 0) := (by rw [b51.cell (by first | omega | (simp; done) | (simp; omega))]; go_cell); have cf0_51 : w51.frozen? ⟨w1.heap.size, 0, none⟩ = false := (by rw [b51.frozen (by first | omega | (simp; done) | (simp; omega))]; (first | go_cell | (simp [World.frozen?, World.alloc]; done) | rfl)); have c1_51 : w51.cell? ⟨w1.heap.size, 1, none⟩ = some (.slice (some ⟨gf, 84, none⟩) 24 24) := (by rw [b51.cell (by first | omega | (simp; done) | (simp; omega))]; go_cell); have cf1_51 : w51.frozen? ⟨w1.heap.size, 1, none⟩ = false := (by rw [b51.frozen (by first | omega | (simp; done) | (simp; omega))]; (first | go_cell | (simp [World.frozen?, World.alloc]; done) | rfl)); have cl_51 : w1.heap.size < w51.heap.size := (by have := b51.size; first | omega | (revert this; simp; done) | (revert this; simp; omega)); clear c0_50 cf0_50 c1_50 cf1_50 cl_50; have HC51 := hid (HC50.out.later d51); have HS51 := hid (rs_own hrow); clear hrow)
      | (go_at_call 8; refine (csame_is (HC51.out.later (by go_grown)) (HS51.out.later (by go_grown))).mono ?_; rintro e w52 ⟨rfl, b52⟩; have d52 : Below w51.heap.size w51 w52 := (Below.trans (by go_grown) (b52.mono (by first | omega | (simp; done) | (simp; omega)))); have c52 : Below w.heap.size w w52 := c51.trans (d52.mono c51.size); have c0_52 : w52.cell? ⟨w1.heap.size, 0, none⟩ = some (.slice none 0 0) := (by rw [b52.cell (by first | omega | (simp; done) | (simp; omega))]; go_cell); have cf0_52 : w52.frozen? ⟨w1.heap.size, 0, none⟩ = false := (by rw [b52.frozen (by first | omega | (simp; done) | (simp; omega))]; (first | go_cell | (simp [World.frozen?, World.alloc]; done) | rfl)); have c1_52 : w52.cell? ⟨w1.heap.size, 1, none⟩ = some (.slice (some ⟨gf, 84, none⟩) 24 24) := (by rw [b52.cell (by first | omega | (simp; done) | (simp; omega))]; go_cell); have cf1_52 : w52.frozen? ⟨w1.heap.size, 1, none⟩ = false := (by rw [b52.frozen (by first | omega | (simp; done) | (simp; omega))]; (first | go_cell | (simp [World.frozen?, World.alloc]; done) | rfl)); have cl_52 : w1.heap.size < w52.heap.size := (by have := b52.size; first | omega | (revert this; simp; done) | (revert this; simp; omega)); clear c0_51 cf0_51 c1_51 cf1_51 cl_51))
    all_goals
      go_wp2_with fail
      go_meet
      exact ⟨rfl, (d50.trans (d51.mono d50.size)).trans (d52.mono (Nat.le_trans d50.size d51.size))⟩
  case rest =>
    obtain ⟨rfl, b3⟩ := hcut
    obtain ⟨w3, hw3⟩ : ∃ y, y = wc := ⟨_, rfl⟩
    subst hw3
    have d3 : Below w2.heap.size w2 w3 := (Below.trans (by go_grown) (b3.mono (by first | omega | (simp; done) | (simp; omega))))
    have c3 : Below w.heap.size w w3 := c2.trans (d3.mono c2.size)
    have c0_3 : w3.cell? ⟨w1.heap.size, 0, none⟩ = some (.slice none 0 0) := (by rw [b3.cell (by first | omega | (simp; done) | (simp; omega))]; go_cell)
    have cf0_3 : w3.frozen? ⟨w1.heap.size, 0, none⟩ = false := (by rw [b3.frozen (by first | omega | (simp; done) | (simp; omega))]; (first | go_cell | (simp [World.frozen?, World.alloc]; done) | rfl))
    have c1_3 : w3.cell? ⟨w1.heap.size, 1, none⟩ = some (.slice (some ⟨gf, 84, none⟩) 24 24) := (by rw [b3.cell (by first | omega | (simp; done) | (simp; omega))]; go_cell)
    have cf1_3 : w3.frozen? ⟨w1.heap.size, 1, none⟩ = false := (by rw [b3.frozen (by first | omega | (simp; done) | (simp; omega))]; (first | go_cell | (simp [World.frozen?, World.alloc]; done) | rfl))
    have cl_3 : w1.heap.size < w3.heap.size := (by have := b3.size; first | omega | (revert this; simp; done) | (revert this; simp; omega))
    clear c0_2 cf0_2 c1_2 cf1_2 cl_2
    have HC_3 := hid (HC_2.out.later d3)
    have HAP_3 := hid (HAP_2.out.later d3)
    clear d3 b3 HC_2 HAP_2
    go_wp2_with fail
    obtain ⟨i0, hi, hz0, hz1, hz2⟩ := info_parts Try.infoInt_T
    go_loopw [6, 7] (fun s i wr => ∃ (j : Nat) (I F : List KD) (K : List Int) (vo : Value) (io fo : Option Addr) (ic fc N M : Nat), j ≤ 12 ∧ j ≤ n2 ∧ i = .int .i64 j ∧ vo = s ∧ Hid (CrowdI I F K j) ∧ Hid (VarAt wr w1.heap.size [.slice io I.length ic, .slice fo F.length fc]) ∧ Hid (ApC N M wr (.slice io I.length ic) (.slice fo F.length fc) I F) ∧ Hid (w1.heap.size < N ∨ M ≤ w1.heap.size) ∧ Hid (∀ q, vo.ownBlock = some q → (q < N ∨ M ≤ q) ∧ q ≠ w1.heap.size) ∧ Hid (OwnI wr w.heap.size vo K) ∧ Hid (Below w.heap.size w wr) ∧ Hid (w1.heap.size < wr.heap.size)) (fun _ i _ => 12 - (intOf i).toNat)
    case atStart =>
      exact ⟨0, [], zeroF, [], _, _, _, _, _, gf, w1.heap.size, Nat.zero_le _, Nat.zero_le _, rfl, rfl, hid CrowdI.zero, hid (VarAt.later (VarAt.of2 cl_3 c0_3 cf0_3 c1_3 cf1_3) ((Below.refl _ w3).alloc (Nat.le_refl _) _)), hid (HAP_3.out.later ((Below.refl _ w3).alloc (Nat.le_refl _) _)), hid (Or.inr (Nat.le_refl _)), hid (fun q hq => by have e : q = w3.heap.size := (by cases hq; rfl); subst e; have := cl_3; exact ⟨Or.inr (by omega), by omega⟩), hid (World.ownsRow_lit w3 #[] 0 (by have := c3.size; omega) (Nat.zero_le _) rfl), hid (c3.trans (((Below.refl _ w3).alloc (Nat.le_refl _) _).mono c3.size)), hid (by have := cl_3; simp; omega)⟩
    case round =>
      obtain ⟨j, I, F, K, vo, io, fo, ic, fc, N, M, hj, hjn, rfl, rfl, hC, hV, hA, hN, hvb, hK, hB, hlt1⟩ := hrel
      by_cases hgo : j < n2 ∧ j < 12
      · have hBs := HB2.out.later hB.out
        obtain ⟨ao', cp', hv', _, _, _, hbt⟩ := hBs
        injection hv' with e1 e2 e3
        subst e1
        obtain ⟨bm, om, rfl, hbm, hcm⟩ := hbt (by omega)
        obtain ⟨x, hx, hx0, hx1⟩ := hcm j hgo.1
        obtain ⟨xn, rfl⟩ := Int.eq_ofNat_of_zero_le hx0
        obtain ⟨hj2, hj12⟩ := hgo
        have hstp := hC.out.step (xn % 24) (Nat.mod_lt _ (by decide)) hj12
        have v0 := hV.out.c 0 rfl
        have v1 := hV.out.c 1 rfl
        have hcj : (j : Int) < (n2 : Int) := by omega
        have hcj12 : (j : Int) < 12 := by omega
        clear hbt hcm hx0 e2 e3 hbm
        go_wp2_with fail
        have hkc : (xn : Int) % 24 = ((xn % 24 : Nat) : Int) := by omega
        rw [hkc]
        have hk24 : xn % 24 < 24 := Nat.mod_lt _ (by decide)
        generalize xn % 24 = kk at *
        clear hkc hx hx1
        refine (implCPut_any _ _ I F (kk : Int) (j : Int) 0 (.slice none 0 0) [] _ hA.out.self.h0 hA.out.self.h1 (Rd.nil _ none 0) hstp.1).mono ?_
        rintro e w5 ⟨⟨r, rfl, hr⟩, b5⟩
        obtain ⟨x0, x1, rfl, hap⟩ := hr.apart
        have hap2 := hap.apC
        obtain ⟨xo, xg, xc, xd, rfl, rfl⟩ := hap2.self.open
        have HC2 := hid hstp.2
        simp only at hap2 HC2
        generalize hX : putI (kk : Int) (j : Int) 0 [] I = X at *
        generalize hG : putF F (kk : Int) (j : Int) = G at *
        have HAP2 := hid hap2
        have V5 := hV.out.later b5
        have c0_5 := V5.c 0 rfl
        have c1_5 := V5.c 1 rfl
        have f0_5 := V5.f 0 rfl
        have f1_5 := V5.f 1 rfl
        have hl5 : w1.heap.size < w5.heap.size := V5.1
        have hlr := hlt1.out
        have HV5 := hid V5
        have HB5 := hid b5
        have HO8 : Hid (Only (fun q => q = w1.heap.size) w5 (((w5.setCell ⟨w1.heap.size, 0, none⟩ (.slice xo X.length xc)).setCell ⟨w1.heap.size, 1, none⟩ (.slice xg G.length xd)).alloc (.cells #[.slice xo X.length xc, .slice xg G.length xd] 26))) := hid (((Only.set (F := fun q => q = w1.heap.size) _ (p := ⟨w1.heap.size, 0, none⟩) rfl _).trans (Only.set (F := fun q => q = w1.heap.size) _ (p := ⟨w1.heap.size, 1, none⟩) rfl _)).trans (Only.later ((Below.refl _ _).alloc (Nat.le_refl _) _)))
        have HV8 : Hid (VarAt (((w5.setCell ⟨w1.heap.size, 0, none⟩ (.slice xo X.length xc)).setCell ⟨w1.heap.size, 1, none⟩ (.slice xg G.length xd)).alloc (.cells #[.slice xo X.length xc, .slice xg G.length xd] 26)) w1.heap.size [.slice xo X.length xc, .slice xg G.length xd]) := hid (((HV5.out.set 0 (by simp) _).set 1 (by simp) _).later ((Below.refl _ _).alloc (Nat.le_refl _) _))
        have HB8 : Hid (Below w.heap.size w (((w5.setCell ⟨w1.heap.size, 0, none⟩ (.slice xo X.length xc)).setCell ⟨w1.heap.size, 1, none⟩ (.slice xg G.length xd)).alloc (.cells #[.slice xo X.length xc, .slice xg G.length xd] 26))) := hid ((((hB.out.trans (b5.mono hB.out.size)).setCell (p := ⟨w1.heap.size, 0, none⟩) c1.size _).setCell (p := ⟨w1.heap.size, 1, none⟩) c1.size _).alloc (by have := hB.out.size; have := b5.size; simp [World.setCell]; omega) _)
        have HK8 : Hid (OwnI (((w5.setCell ⟨w1.heap.size, 0, none⟩ (.slice xo X.length xc)).setCell ⟨w1.heap.size, 1, none⟩ (.slice xg G.length xd)).alloc (.cells #[.slice xo X.length xc, .slice xg G.length xd] 26)) w.heap.size vo K) := hid ((hK.out.later b5).agree fun q hq => HO8.out.block q (Nat.lt_of_lt_of_le (hK.out.block q hq).2 b5.size) (hvb.out q hq).2)
        have HR8 : Hid (((((w5.setCell ⟨w1.heap.size, 0, none⟩ (.slice xo X.length xc)).setCell ⟨w1.heap.size, 1, none⟩ (.slice xg G.length xd)).alloc (.cells #[.slice xo X.length xc, .slice xg G.length xd] 26)).alloc (.cells #[.int .i64 (kk : Int)] 3)).ownsRow w.heap.size 3 1 vo K.length (ints K)) := hid (HK8.out.alloc _)
        have HNW : Hid (∀ q u, [Value.int .i64 (kk : Int)][q]? = some u → ((((w5.setCell ⟨w1.heap.size, 0, none⟩ (.slice xo X.length xc)).setCell ⟨w1.heap.size, 1, none⟩ (.slice xg G.length xd)).alloc (.cells #[.slice xo X.length xc, .slice xg G.length xd] 26)).alloc (.cells #[.int .i64 (kk : Int)] 3)).cell? ((⟨(((w5.setCell ⟨w1.heap.size, 0, none⟩ (.slice xo X.length xc)).setCell ⟨w1.heap.size, 1, none⟩ (.slice xg G.length xd)).alloc (.cells #[.slice xo X.length xc, .slice xg G.length xd] 26)).heap.size, 0, none⟩ : Addr).add q) = some u) := hid (cell_one_new (((w5.setCell ⟨w1.heap.size, 0, none⟩ (.slice xo X.length xc)).setCell ⟨w1.heap.size, 1, none⟩ (.slice xg G.length xd)).alloc (.cells #[.slice xo X.length xc, .slice xg G.length xd] 26)) (.int .i64 (kk : Int)) 3)
        have hs8 : (((w5.setCell ⟨w1.heap.size, 0, none⟩ (.slice xo X.length xc)).setCell ⟨w1.heap.size, 1, none⟩ (.slice xg G.length xd)).alloc (.cells #[.slice xo X.length xc, .slice xg G.length xd] 26)).heap.size = w5.heap.size + 1 := by simp [World.setCell]
        rw [hs8] at HNW
        have hKl : K.length ≤ 12 := by have := hC.out.len; omega
        have hk1 : K.length + 1 ≤ maxLen := by unfold maxLen; omega
        have hk2 : (K.length + 1) * 8 ≤ 140737488355328 := by omega
        have hbs : w.heap.size ≤ ((((w5.setCell ⟨w1.heap.size, 0, none⟩ (.slice xo X.length xc)).setCell ⟨w1.heap.size, 1, none⟩ (.slice xg G.length xd)).alloc (.cells #[.slice xo X.length xc, .slice xg G.length xd] 26)).alloc (.cells #[.int .i64 (kk : Int)] 3)).heap.size := by rw [World.size_alloc]; exact Nat.le_succ_of_le HB8.out.size
        have HS8 := hid hs8
        clear hap hap2 hr b5 V5 hstp hs8
        go_wp2_with (first | (at_builtin; refine wpList_append_own_at _ rfl _ _ 24 rfl w.heap.size 3 i0 (.int .i64 0) 1 8 Try.underlying24 hi hz0 hz1 hz2 rfl (by decide) vo K.length _ rfl HR8.out ⟨w5.heap.size + 1, 0, none⟩ 1 1 [.int .i64 (kk : Int)] rfl rfl HNW.out (by simp [Value.oneCell']) hk1 hk2 hbs ?_; intro v6 w6 hown6 hgr6 _ hl6; have HO6 := hid hown6; have HG6 := hid hgr6; have HL6 := hid hl6; clear hown6 hgr6 hl6))
        go_roundw
        case rel =>
          have hsa : ((((w5.setCell ⟨w1.heap.size, 0, none⟩ (.slice xo X.length xc)).setCell ⟨w1.heap.size, 1, none⟩ (.slice xg G.length xd)).alloc (.cells #[.slice xo X.length xc, .slice xg G.length xd] 26)).alloc (.cells #[.int .i64 (kk : Int)] 3)).heap.size = w5.heap.size + 2 := by rw [World.size_alloc, HS8.out]
          have hvr : ∀ q, vo.ownBlock = some q → q < wr.heap.size ∧ q ≠ w1.heap.size := fun q hq => ⟨(hK.out.block q hq).2, (hvb.out q hq).2⟩
          refine ⟨j + 1, X, G, K ++ [(kk : Int)], v6, _, _, _, _, wr.heap.size, w5.heap.size, by omega, by omega, by go_num, rfl, HC2, hid ((HV8.out.later ((Below.refl _ _).alloc (Nat.le_refl _) _)).kept HG6.out (fun e => (hvr _ e).2 rfl)), hid (((HAP2.out.only (HO8.out.mono (fun q hq => Or.inl (by rw [hq]; exact hlr)))).later ((Below.refl _ _).alloc (Nat.le_refl _) _)).only (Only.of_grown HG6.out (fun q hq => Or.inl (hvr q hq).1))), hid (Or.inl hlr), hid (fun q hq => ?_), hid (by have h9 := HO6.out; unfold OwnI; simpa [ints] using h9), hid ((HB8.out.alloc HB8.out.size _).trans (Below.of_grown HG6.out hbs (fun q hq => (hK.out.block q hq).1))), hid (by have h9 := HG6.out.size; rw [hsa] at h9; omega)⟩
          rcases HL6.out with h9 | h9
          · have := hvr q (h9 ▸ hq)
            exact ⟨Or.inl this.1, this.2⟩
          · rw [hq] at h9
            have h8 := Option.some.inj h9
            rw [hsa] at h8
            exact ⟨Or.inr (by omega), by omega⟩
        case measure => simp [intOf]; omega
      · obtain ⟨wA, hwA⟩ : ∃ y, y = wr := ⟨_, rfl⟩
        subst hwA
        obtain ⟨ko, kc, hkv, _⟩ := hK.out.ownM.rd (by decide) (by decide)
        rw [kdI_length] at hkv
        subst hkv
        have hKl : K.length ≤ 12 := by have := hC.out.len; omega
        have hcs : ((j : Int) < (n2 : Int) ∧ ¬ (j : Int) < 12) ∨ ¬ (j : Int) < (n2 : Int) := by omega
        clear hgo hj hjn
        rcases hcs with ⟨hcj, hcj12⟩ | hcj
        all_goals
          go_wp2_with fail
          go_loopw [11, 12] (fun s i wr => ∃ (m : Nat) (vs : Value) (t : Int), m ≤ K.length ∧ i = .int .i64 t ∧ Hid (t = (K.length : Int) - 1 - m) ∧ vs = s ∧ Hid (OwnI wr wA.heap.size vs (seenTo K m)) ∧ Hid (Below wA.heap.size wA wr)) (fun _ i _ => (intOf i + 1).toNat)
          case atStart => exact ⟨0, _, _, Nat.zero_le _, rfl, hid (by first | (simp; done) | (simp only [show wrap64 ((K.length : Int) - 1) = (K.length : Int) - 1 from by unfold wrap64; omega]; simp)), rfl, hid (World.ownsRow_lit wA #[] 0 (Nat.le_refl _) (Nat.zero_le _) rfl), hid ((Below.refl _ wA).alloc (Nat.le_refl _) _)⟩
          case round =>
            obtain ⟨m, vs, t, hm, rfl, ht, rfl, hS, hBA⟩ := hrel
            obtain ⟨so, sc, hsv, _⟩ := hS.out.ownM.rd (by decide) (by decide)
            rw [kdI_length] at hsv
            subst hsv
            have hSl := seenTo_len K m
            obtain ⟨wB, hwB⟩ : ∃ y, y = wr := ⟨_, rfl⟩
            subst hwB
            by_cases hgo : m < K.length ∧ (seenTo K m).length < 4
            · have hst := seenTo_step K m hgo.1
              obtain ⟨p, hp⟩ : ∃ p : Nat, p = K.length - 1 - m := ⟨_, rfl⟩
              rw [← hp] at hst
              have htp : t = (p : Int) := by have := ht.out; omega
              subst htp
              have hpK : p < K.length := by omega
              obtain ⟨gk, hko, hkc, hkl⟩ := (hK.out.later hBA.out).at p hpK
              subst hko
              obtain ⟨x, hx⟩ : ∃ x, K.getD p 0 = x := ⟨_, rfl⟩
              rw [hx] at hst hkc
              have HST := hid hst
              obtain ⟨S, hSe⟩ : ∃ S, seenTo K m = S := ⟨_, rfl⟩
              rw [hSe] at hS hSl hgo HST ⊢
              obtain ⟨hgo1, hgo2⟩ := hgo
              have HM := hid hgo1
              have HP := hid hp
              clear hp
              have hp0 : (p : Int) < (K.length : Int) := by omega
              have hs4 : (S.length : Int) < 4 := by omega
              have hsz := hBA.out.size
              clear hst hx hSe hSl
              go_wp2_with fail
              go_loopw [13, 14] (fun h i wr => ∃ (q : Nat) (b : Bool), q ≤ S.length ∧ i = .int .i64 q ∧ h = .bool b ∧ Hid (b = decide (x ∈ S.take q)) ∧ Hid (Below wB.heap.size wB wr)) (fun _ i _ => S.length - (intOf i).toNat)
              case atStart => exact ⟨0, false, Nat.zero_le _, rfl, rfl, hid (by simp), hid (Below.refl _ _)⟩
              case round =>
                obtain ⟨q, b, hq9, rfl, rfl, hb, hBB⟩ := hrel
                have hkc' := cell_later hBB.out hkc
                by_cases hlt : q < S.length
                · obtain ⟨gs, hso, hsc, hsl⟩ := (hS.out.later hBB.out).at q hlt
                  subst hso
                  obtain ⟨y, hy⟩ : ∃ y, S.getD q 0 = y := ⟨_, rfl⟩
                  rw [hy] at hsc
                  have hmem : Hid (decide (x ∈ S.take (q + 1)) = (decide (x ∈ S.take q) || decide (y = x))) := hid (mem_take_more S q hlt hy x)
                  have hqS : (q : Int) < (S.length : Int) := by omega
                  have Q1 := cell_regrown hkc'
                  have Q2 := cell_regrown hsc
                  cases b with
                  | true =>
                    have HB1 := hid (show true = decide (x ∈ S.take (q + 1)) by rw [hmem.out, ← hb.out]; rfl)
                    go_wp2_with fail
                    refine wp_region_quiet_below (by kernel_rfl) (by kernel_rfl) ?_
                    repeat (first | go_big_quiet_skip | (go_big_quiet_want; go_big_quiet_op; first | go_big_quiet_on | go_big_quiet_call (first | (fail))))
                    refine wpQuiet_nil ?_
                    rintro wq ⟨pq, hwq⟩
                    have hq : Below wr.heap.size wr wq := by rw [hwq]; exact below_regrown _ _ _
                    clear hwq pq
                    go_wp2
                    go_roundw
                    case rel => exact ⟨q + 1, true, by omega, by go_num, rfl, HB1, hid (hBB.out.trans (hq.mono hBB.out.size))⟩
                    case measure => first | (simp [intOf]; done) | (simp [intOf]; omega)
                  | false =>
                    by_cases hyx : y = x
                    · have HB1 := hid (show true = decide (x ∈ S.take (q + 1)) by rw [hmem.out, ← hb.out]; simp [hyx])
                      subst hyx
                      go_wp2_with fail
                      refine wp_region_quiet_below (by kernel_rfl) (by kernel_rfl) ?_
                      repeat (first | go_big_quiet_skip | (go_big_quiet_want; go_big_quiet_op; first | go_big_quiet_on | go_big_quiet_call (first | (fail))))
                      refine wpQuiet_nil ?_
                      rintro wq ⟨pq, hwq⟩
                      have hq : Below wr.heap.size wr wq := by rw [hwq]; exact below_regrown _ _ _
                      clear hwq pq
                      go_wp2
                      go_roundw
                      case rel => exact ⟨q + 1, true, by omega, by go_num, by simp, HB1, hid (hBB.out.trans (hq.mono hBB.out.size))⟩
                      case measure => first | (simp [intOf]; done) | (simp [intOf]; omega)
                    · have HB1 := hid (show false = decide (x ∈ S.take (q + 1)) by rw [hmem.out, ← hb.out]; simp [hyx])
                      have hyx' : (y == x) = false := by simpa using hyx
                      go_wp2_with fail
                      refine wp_region_quiet_below (by kernel_rfl) (by kernel_rfl) ?_
                      repeat (first | go_big_quiet_skip | (go_big_quiet_want; go_big_quiet_op; first | go_big_quiet_on | go_big_quiet_call (first | (fail))))
                      refine wpQuiet_nil ?_
                      rintro wq ⟨pq, hwq⟩
                      have hq : Below wr.heap.size wr wq := by rw [hwq]; exact below_regrown _ _ _
                      clear hwq pq
                      go_wp2
                      go_roundw
                      case rel => exact ⟨q + 1, false, by omega, by go_num, by simp, HB1, hid (hBB.out.trans (hq.mono hBB.out.size))⟩
                      case measure => first | (simp [intOf]; done) | (simp [intOf]; omega)
                · obtain rfl : q = S.length := by omega
                  rw [List.take_length] at hb
                  have hwp : wrap64 ((p : Int) - 1) = (p : Int) - 1 := by unfold wrap64; omega
                  cases b with
                  | true =>
                    have HS1 : Hid (S = seenTo K (m + 1)) := hid (by rw [HST.out, stepC, if_neg (fun h => h.2 (by simpa using hb.out.symm))])
                    go_wp2_with fail
                    go_roundw
                    case rel => exact ⟨m + 1, _, _, by omega, rfl, hid (by have := HM.out; have := HP.out; first | omega | (rw [hwp]; omega)), rfl, hid (by rw [← HS1.out]; exact hS.out.later hBB.out), hid (hBA.out.trans (hBB.out.mono hsz))⟩
                    case measure => first | (simp [intOf]; done) | (simp [intOf]; omega)
                  | false =>
                    have HS1 : Hid (S ++ [x] = seenTo K (m + 1)) := hid (by rw [HST.out, stepC, if_pos ⟨hgo2, by simpa using hb.out.symm⟩])
                    have hB2 : Below wA.heap.size wA wr := hBA.out.trans (hBB.out.mono hsz)
                    have HB2' := hid hB2
                    have HR8 : Hid ((wr.alloc (.cells #[.int .i64 x] 3)).ownsRow wA.heap.size 3 1 (.slice so S.length sc) S.length (ints S)) := hid ((hS.out.later hBB.out).alloc _)
                    have HNW : Hid (∀ q u, [Value.int .i64 x][q]? = some u → (wr.alloc (.cells #[.int .i64 x] 3)).cell? ((⟨wr.heap.size, 0, none⟩ : Addr).add q) = some u) := hid (cell_one_new wr (.int .i64 x) 3)
                    have hk1 : S.length + 1 ≤ maxLen := by unfold maxLen; omega
                    have hk2 : (S.length + 1) * 8 ≤ 140737488355328 := by omega
                    have hbs : wA.heap.size ≤ (wr.alloc (.cells #[.int .i64 x] 3)).heap.size := by rw [World.size_alloc]; exact Nat.le_succ_of_le hB2.size
                    clear hB2
                    go_wp2_with (first | (at_builtin; refine wpList_append_own _ rfl _ _ 24 rfl wA.heap.size 3 i0 (.int .i64 0) 1 8 Try.underlying24 hi hz0 hz1 hz2 rfl (by decide) (.slice so S.length sc) S.length _ rfl HR8.out ⟨wr.heap.size, 0, none⟩ 1 1 [.int .i64 x] rfl rfl HNW.out (by simp [Value.oneCell']) hk1 hk2 hbs ?_; intro v6 w6 hown6 hgr6 _; have HO6 : Hid (OwnI w6 wA.heap.size v6 (S ++ [x])) := hid (by unfold OwnI; simpa [ints] using hown6); have HB6 : Hid (Below wA.heap.size wA w6) := hid ((HB2'.out.trans (((Below.refl _ wr).alloc (Nat.le_refl _) _).mono HB2'.out.size)).trans (Below.of_grown hgr6 hbs (fun q hq => (HR8.out.lt q hq).1))); clear hown6 hgr6))
                    go_roundw
                    case rel => exact ⟨m + 1, v6, _, by omega, rfl, hid (by have := HM.out; have := HP.out; first | omega | (rw [hwp]; omega)), rfl, hid (by rw [← HS1.out]; exact HO6.out), HB6⟩
                    case measure => first | (simp [intOf]; done) | (simp [intOf]; omega)
            · have hall : seenTo K m = seenC [] K.reverse := seenTo_all (by omega)
              have hkeys : I.map keyK = seenTo K m := by rw [hall]; exact hC.out.keys
              obtain ⟨S, hSe⟩ : ∃ S, seenTo K m = S := ⟨_, rfl⟩
              rw [hSe] at hS hgo hkeys ⊢
              have hIl : I.length = S.length := by rw [← hkeys, List.length_map]
              have hS4 : S.length ≤ 4 := by rw [← hSe]; exact hSl.2
              have hne : ((I.length : Int) != (S.length : Int)) = false := by simp [hIl]
              have VB := hV.out.later hBA.out
              have vb0 := VB.c 0 rfl
              have vb1 := VB.c 1 rfl
              have HAB := hid (hA.out.later hBA.out)
              have HB9 := hid (hB.out.trans (hBA.out.mono hB.out.size))
              have HKY := hid hkeys
              have HIL := hid hIl
              have hcs2 : ¬ (0 ≤ t) ∨ (0 ≤ t ∧ ¬ (S.length : Int) < 4) := by have := ht.out; omega
              clear hgo hall hkeys hSe hSl VB hIl
              rcases hcs2 with ht0 | ⟨ht0, hs4⟩
              all_goals
                go_wp2_with fail
                go_loopw [15] (fun i wr => ∃ (q : Nat), q ≤ S.length ∧ i = .int .i64 q ∧ Hid (Below wB.heap.size wB wr)) (fun i _ => S.length - (intOf i).toNat)
                case atStart => exact ⟨0, Nat.zero_le _, rfl, hid (Below.refl _ _)⟩
                case round =>
                  obtain ⟨q, hq9, rfl, hBB⟩ := hrel
                  have vr0 := cell_later hBB.out vb0
                  have vr1 := cell_later hBB.out vb1
                  have HR := hid (HAB.out.later hBB.out)
                  by_cases hlt : q < S.length
                  · have hq1 : q < I.length := by have := HIL.out; omega
                    obtain ⟨bi, oi, hio⟩ := item_nil HAB.out.self.h0 (by omega)
                    subst hio
                    have hkc := key_cell HR.out.self.h0 q hq1
                    obtain ⟨gs, hso, hsc, _⟩ := (hS.out.later hBB.out).at q hlt
                    subst hso
                    have heq : keyK (I.getD q kd0) = S.getD q 0 := by
                      rw [← HKY.out]
                      simp [List.getD_eq_getElem?_getD, hq1]
                    rw [heq] at hkc
                    generalize S.getD q 0 = y at hkc hsc
                    have hqI : (q : Int) < (I.length : Int) := by omega
                    have hqS : (q : Int) < (S.length : Int) := by omega
                    have Q1 := cell_regrown hkc
                    have Q2 := cell_regrown hsc
                    have Q3 := cell_regrown vr0
                    have HQ := hid hlt
                    clear heq
                    go_wp2_with fail
                    refine wp_region_quiet_below (by kernel_rfl) (by kernel_rfl) ?_
                    repeat (first | go_big_quiet_skip | (go_big_quiet_want; go_big_quiet_op; first | go_big_quiet_on | go_big_quiet_call (first | (fail))))
                    refine wpQuiet_nil ?_
                    rintro wq ⟨pq, hwq⟩
                    have hq : Below wr.heap.size wr wq := by rw [hwq]; exact below_regrown _ _ _
                    clear hwq pq
                    go_wp2
                    go_roundw
                    case rel => exact ⟨q + 1, by have := HQ.out; omega, by go_num, hid (hBB.out.trans (hq.mono hBB.out.size))⟩
                    case measure =>
                      have := HQ.out
                      simp [intOf]
                      omega
                  · obtain rfl : q = S.length := by omega
                    go_wp2_with fail
                    refine (implCOk_any _ _ I F _ HR.out.self.h0 HR.out.self.h1).mono ?_
                    rintro e w9 ⟨rfl, b9⟩
                    rw [hC.out.ok]
                    have HB10 := hid ((HB9.out.trans (hBB.out.mono HB9.out.size)).trans (b9.mono (Nat.le_trans HB9.out.size hBB.out.size)))
                    clear b9
                    go_wp2
                    go_ret
                    exact ⟨by simp, HB10.out⟩
end Go.Proofs.Ytanfmgigpiljpaa
