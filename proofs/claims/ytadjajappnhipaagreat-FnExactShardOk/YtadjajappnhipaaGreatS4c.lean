/- impl.writtenAnew, (*truth).toldRows: contracts. -/
import Derived.Test.YtadjajappnhipaaGreatS4b
import Derived.Test.YtadjajappnhipaaGreatGrA
namespace Go.Proofs.YtadjajappnhipaaGreat
open Go.RowKit
attribute [local go_sem ↓] Go.wp_at_zero Go.wp_at_succ

theorem len2 {x : KD} (h : x.1.length = 2) : x = ([x.1.getD 0 0, x.1.getD 1 0], x.2) := by
  obtain ⟨xs, l⟩ := x
  match xs, h with
  | [a, b], _ => rfl
theorem newAt_put {Lg : List KD} {k : Nat} {key p1 nm : Int} {l : List (Int × Int)} (hx : Lg.getD k kd0 = ([key, p1, nm], l)) : putN (newAt Lg k) key ([(newAt Lg k key).1.getD 0 0 + 1, nm], l) = newAt Lg (k + 1) := by
  have hc : colK Lg k 2 = nm := by rw [colK, hx]; rfl
  rw [newAt_step, hx, hc]
  funext q
  unfold putN
  by_cases e : q = key
  · subst e
    simp [keyK]
  · have e' : ¬ key = q := fun h => e h.symm
    simp [keyK, e, e']
theorem newLog_put {Lg : List KD} {k : Nat} {key p1 nm : Int} {l : List (Int × Int)} (hx : Lg.getD k kd0 = ([key, p1, nm], l)) : newLog Lg k ++ [([key, (newAt Lg k key).1.getD 0 0 + 1, nm], l)] = newLog Lg (k + 1) := by
  rw [newLog_succ, newCom, colK, hx]
  rfl
theorem Tru.zero (w : World) (db : Nat) (sb : Nat) (o1 o2 : Obj) : Tru ((((w.alloc (.map #[] 0)).alloc o1).alloc o2).alloc (.cells #[.int .i64 0, .int .i64 0, .int .i64 0, .map (some w.heap.size), .map (some db), .slice none 0 0, .map (some sb), .slice none 0 0] 108))
    w.heap.size (w.heap.size + 1 + 1 + 1) w.heap.size 0 0 0 0 db (.slice none 0 0) sb (fun _ => ([0, 0], [])) [] (.slice none 0 0) (fun _ => .slice none 0 0) [] (fun _ => .slice none 0 0) := by
  have e : rowOf (fun _ => ([0, 0], [])) (fun _ => .slice none 0 0) = fun _ => none := by
    funext x
    unfold rowOf
    split <;> simp
  refine ⟨⟨by go_cell, by go_cell, by go_cell, by go_cell, by go_cell, by go_cell, by go_cell, by go_cell, fun o => by (first | go_cell | (simp [World.frozen?, World.alloc]; done) | rfl), by simp⟩, ?_, RowC.nil _ _ _, KinC.nil _ _ _, fun k h => absurd rfl h, fun _ _ => rfl, ⟨by simp [Value.ownBlock], by simp [Value.ownBlock]⟩, fun k h => absurd rfl h, fun i hi => absurd hi (Nat.not_lt_zero _), by omega, Nat.le_refl _, by omega⟩
  rw [e]
  exact (MapF.made IsNum w).later ((((Below.refl _ _).alloc (Nat.le_refl _) _).alloc (by simp) _).alloc (by simp) _)
set_option maxRecDepth 100000 in
set_option maxHeartbeats 4000000 in
theorem writtenAnew_any (v : Value) (Lg : List KD) (w : World) (h : RdM 4 3 true w v Lg) (hn : Lg.length ≤ 1000) (hk : ∀ i, i < Lg.length → (Lg.getD i kd0).2.length ≤ 1099511627776) :
    Calls Tryz.prog 48 #[v] w fun e w' => ∃ (K rb db sb : Nat) (lv : Value) (us : Int → Value) (xs : List Value) (ts : Nat → Value), e = .returned (.pointer (some ⟨K, 0, none⟩)) ∧ Tru w' w.heap.size K rb Lg.length 0 0 0 db (.slice none 0 0) sb (newAt Lg Lg.length) (newLog Lg Lg.length) lv us xs ts ∧ Below w.heap.size w w' := by
  obtain ⟨ao, cap, rfl, hml, hc⟩ := h
  have HC := hid hc
  have HK := hid hk
  clear hc hk
  unfold maxLen at hml
  go_enter Tryz.func48, Tryz.ntmps48
  have hmm := @run_makeMap Tryz.prog
  go_wp2
  go_loopw [13] (fun i wr => ∃ (k : Nat) (lv : Value) (us : Int → Value) (xs : List Value) (ts : Nat → Value), k ≤ Lg.length ∧ i = .int .i64 k ∧ Hid (Tru wr w.heap.size (w.heap.size + 1 + 1 + 1) w.heap.size k 0 0 0 (w.heap.size + 1) (.slice none 0 0) (w.heap.size + 1 + 1) (newAt Lg k) (newLog Lg k) lv us xs ts) ∧ Hid (Below w.heap.size w wr)) (fun i _ => Lg.length - (intOf i).toNat)
  case atStart => exact ⟨0, _, _, _, _, Nat.zero_le _, rfl, hid (Tru.zero w (w.heap.size + 1) (w.heap.size + 1 + 1) (.map #[] 0) (.map #[] 0)), hid (by go_grown)⟩
  case round =>
    obtain ⟨k, lv, us, xs, ts, hk, rfl, hT, hbel⟩ := hrel
    obtain ⟨w50, hw50⟩ : ∃ y, y = wr := ⟨_, rfl⟩
    subst hw50
    by_cases hlt : k < Lg.length
    · obtain ⟨b, o, rfl, hb, hcc⟩ := HC.out (by omega)
      obtain ⟨key, p1, nm, l, u, hx, e0, e1, e2, e3, hu⟩ := atK_3k (hcc k hlt)
      have HU := hid hu
      have HX := hid hx
      have hll := HK.out k hlt
      rw [hx] at hll
      have HLL := hid hll
      obtain ⟨uo, uc, rfl, _⟩ := hu
      have hki : (k : Int) < (Lg.length : Int) := by omega
      have x0 := (hbel.out.cell (p := ⟨b, o + k * 4, none⟩) hb).trans e0
      have x1 := (hbel.out.cell (p := ⟨b, o + k * 4 + 1, none⟩) hb).trans e1
      have x2 := (hbel.out.cell (p := ⟨b, o + k * 4 + 2, none⟩) hb).trans e2
      have x3 := (hbel.out.cell (p := ⟨b, o + k * 4 + 3, none⟩) hb).trans e3
      have c50 : Below w.heap.size w w50 := hbel.out
      have HLT := hid hlt
      clear hx hll hcc e0 e1 e2 e3 hlt hmm
      go_wp2_with fail
      generalize hW51 : (w50.alloc (.cells #[.int .i64 key, .int .i64 p1, .int .i64 nm, .slice uo l.length uc] 70)) = w51
      have m0_51 : w51.cell? ⟨w50.heap.size, 0, none⟩ = some (.int .i64 key) := by subst hW51; go_cell
      have m1_51 : w51.cell? ⟨w50.heap.size, 1, none⟩ = some (.int .i64 p1) := by subst hW51; go_cell
      have m2_51 : w51.cell? ⟨w50.heap.size, 2, none⟩ = some (.int .i64 nm) := by subst hW51; go_cell
      have m3_51 : w51.cell? ⟨w50.heap.size, 3, none⟩ = some (.slice uo l.length uc) := by subst hW51; go_cell
      have ml_51 : w50.heap.size < w51.heap.size := by subst hW51; simp
      have d51 : Below w50.heap.size w50 w51 := by subst hW51; go_grown
      clear hW51
      have c51 : Below w.heap.size w w51 := c50.trans (d51.mono c50.size)
      have H51 := hid (hT.out.later d51)
      clear x0 x1 x2 x3
      refine (commit_any w w51 w.heap.size (w.heap.size + 1 + 1 + 1) w.heap.size k 0 0 0 (w.heap.size + 1) (.slice none 0 0) (w.heap.size + 1 + 1) (newAt Lg k) (newLog Lg k) lv us xs ts key nm (.slice uo l.length uc) l H51.out HU.out HLL.out c51 (Nat.le_refl _) (by rw [newLog_length]; omega) (newAt_le Lg k key).1 (by have := (newAt_le Lg k key).2; omega)).mono ?_
      rintro e w52 ⟨rfl, ⟨lv', us', xs', ts', hT2⟩, b52⟩
      rw [newAt_put HX.out, newLog_put HX.out] at hT2
      have HT2 := hid hT2
      have HB2 := hid (c51.trans b52)
      clear hT2 b52
      go_wp2_with fail
      go_roundw
      case rel => exact ⟨k + 1, lv', us', xs', ts', by have := HLT.out; omega, by go_num, HT2, HB2⟩
      case measure =>
        have := HLT.out
        simp [intOf]
        omega
    · obtain rfl : k = Lg.length := by omega
      go_wp2
      go_ret
      exact ⟨_, _, _, _, _, _, _, _, by simp, hT.out, hbel.out⟩
set_option maxRecDepth 100000 in
set_option maxHeartbeats 4000000 in
theorem toldRows_any (w : World) (B K rb n : Nat) (p f st : Int) (db : Nat) (iv : Value) (sb : Nat) (N : Int → KD) (M : List KD) (lv : Value) (us : Int → Value) (xs : List Value) (ts : Nat → Value)
    (h : Tru w B K rb n p f st db iv sb N M lv us xs ts) (h2 : ∀ k, (N k).1.length = 2) :
    Calls Tryz.prog 52 #[.pointer (some ⟨K, 0, none⟩)] w fun e w' => (∃ v, e = .returned v ∧ RdM 3 2 true w' v ((List.range 24).map fun (k : Nat) => N (k : Int))) ∧ Below w.heap.size w w' := by
  have H := hid h
  have H2 := hid h2
  obtain ⟨i0, hi, hz0, hz1, hz2⟩ := info_parts Tryz.info74
  have hby : i0.bytes * 24 ≤ 281474976710656 := by rw [hz2]; omega
  have hKw := h.var.lt
  clear h h2
  go_enter Tryz.func52, Tryz.ntmps52
  go_wp2_with (first | (at_make; refine wpList_make_full _ rfl (.const (.int .i64 24)) (.const (.int .i64 24)) 31 rfl w.heap.size 74 i0 _ 3 Tryz.underlying31 hi hz0 hz1 .i64 .i64 _ _ 24 rfl rfl rfl rfl hby (by decide) (Nat.le_refl _) ?_; intro w1 hown hgrow; have HOW := hid hown; have HGR := hid hgrow; clear hown hgrow))
  have c1 : Below w.heap.size w w1 := (Below.refl _ w).grown HGR.out (Nat.le_refl _) (by simp)
  have HR1 := hid (RowsC.made HOW.out (W := w1) rfl (Nat.le_refl _))
  clear hi hz0 hz1 hz2 hby HOW HGR
  go_loopw [8] (fun i wr => ∃ (j : Nat) (vs : Nat → Value), j ≤ 24 ∧ i = .int .i64 j ∧ Hid (RowsC wr w.heap.size (fun k => if k < j then N (k : Int) else ([0, 0], [])) vs) ∧ Hid (∀ k, k < 24 → Rd w (vs k) (if k < j then N (k : Int) else ([0, 0], [])).2) ∧ Hid (Below w.heap.size w wr)) (fun i _ => 24 - (intOf i).toNat)
  case atStart => exact ⟨0, _, Nat.zero_le _, rfl, hid (by simpa using HR1.out), hid (fun k _ => by simpa using Rd.nil w none 0), hid c1⟩
  case round =>
    obtain ⟨j, vs, hj, rfl, hrow, hrd, hbel⟩ := hrel
    obtain ⟨w50, hw50⟩ : ∃ y, y = wr := ⟨_, rfl⟩
    subst hw50
    by_cases hlt : j < 24
    · have hT := H.out.later hbel.out
      have k3 := hT.var.c3
      have hlk := hT.lookup (j : Int)
      have hown := H.out.kinOf (j : Int)
      obtain ⟨zo, zc, hz, _⟩ := hown.rd
      have HU := hid hown.rd
      have hx := len2 (H2.out (j : Int))
      obtain ⟨na, ha⟩ : ∃ z, (N (j : Int)).1.getD 0 0 = z := ⟨_, rfl⟩
      obtain ⟨nb, hb⟩ : ∃ z, (N (j : Int)).1.getD 1 0 = z := ⟨_, rfl⟩
      rw [ha, hb] at hlk hx
      rw [ha] at hz HU
      have hN : (fun k => if k = j then ([na, nb], (N (j : Int)).2) else (if k < j then N (k : Int) else ([0, 0], []))) = (fun k => if k < j + 1 then N (k : Int) else (([0, 0], []) : KD)) := by
        funext k
        by_cases e : k = j
        · subst e
          simp only [if_true, show k < k + 1 from Nat.lt_succ_self k]
          exact hx.symm
        · simp only [if_neg e]
          by_cases e2 : k < j
          · simp only [if_pos e2, show k < j + 1 from by omega, if_true]
          · simp only [if_neg e2, show ¬ k < j + 1 from by omega, if_false]
      have HN := hid hN
      rw [hz] at hlk HU
      have HLJ : Hid ((N (j : Int)).2.length = (N (j : Int)).2.length) := hid rfl
      generalize (N (j : Int)).2 = lj at hlk HU HN
      have hji : (j : Int) < 24 := by omega
      have f0 := hrow.out.frz (j * 3)
      have f1 := hrow.out.frz (j * 3 + 1)
      have f2 := hrow.out.frz (j * 3 + 2)
      have x0 := hrow.out.ver j hlt
      have x1 := hrow.out.num j hlt
      have x2 := hrow.out.kin j hlt
      have hG := hrow.out.lt
      have HLT := hid hlt
      clear hz hown hT hx hlt ha hb hN HLJ
      go_wp2_with fail
      go_roundw
      case rel =>
        have hr2 := hrow.out.put j na nb (.slice zo lj.length zc) lj
        rw [HN.out] at hr2
        have hd2 : ∀ k, k < 24 → Rd w ((fun k => if k = j then .slice zo lj.length zc else vs k) k) (if k < j + 1 then N (k : Int) else ([0, 0], [])).2 := fun k hk => by
          rw [← congrFun HN.out k]
          by_cases e : k = j
          · simp only [if_pos e]; exact HU.out
          · simp only [if_neg e]; exact hrd.out k hk
        exact ⟨j + 1, _, by have := HLT.out; omega, by go_num, hid hr2, hid hd2, hid (((hbel.out.setCell (p := ⟨w.heap.size, j * 3, none⟩) (Nat.le_refl _) _).setCell (p := ⟨w.heap.size, j * 3 + 1, none⟩) (Nat.le_refl _) _).setCell (p := ⟨w.heap.size, j * 3 + 2, none⟩) (Nat.le_refl _) _)⟩
      case measure =>
        have := HLT.out
        simp [intOf]
        omega
    · obtain rfl : j = 24 := by omega
      go_wp2
      go_ret
      refine ⟨⟨.slice (some ⟨w.heap.size, 0, none⟩) 24 24, by simp, ?_⟩, hbel.out⟩
      have := hrow.out.rd (fun k hk => by simp only [if_pos hk]; exact H2.out _) (fun k hk => (hrd.out k hk).later hbel.out)
      rwa [List.map_congr_left (g := fun (k : Nat) => N (k : Int)) (fun k hk => if_pos (by simpa using hk))] at this
end Go.Proofs.YtadjajappnhipaaGreat
