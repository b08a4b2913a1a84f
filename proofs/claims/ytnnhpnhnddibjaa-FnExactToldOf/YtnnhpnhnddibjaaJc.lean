/- The law's own mark of lists of Told: contract. Written by a program (gjb.py). -/
import Derived.Test.YtnnhpnhnddibjaaJb
import Derived.Test.YtnnhpnhnddibjaaGrA
namespace Go.Proofs.Ytnnhpnhnddibjaa
open Go.RowKit
attribute [local go_sem ↓] Go.wp_at_zero Go.wp_at_succ

/-- What a slice of Told is good for while it is marked: its row, and the kin of each, each in a block of its own. -/
structure MkT (w : World) (F : Nat → Prop) (g cap n : Nat) (len : Nat → Nat) (xs : List Value) (us : Nat → Value) : Prop where
  row : w.ownsRow 0 50 7 (.slice (some ⟨g, 0, none⟩) n cap) n xs
  inF : F g
  kin : ∀ i, i < n → xs[i * 7 + 4]? = some (us i) ∧ (∃ l : List (Int × Int), l.length = len i ∧ Own w 0 (us i) l) ∧ ∀ b, (us i).ownBlock = some b → F b ∧ g ≠ b
  dis : ∀ i j, i < n → j < n → i ≠ j → ∀ b, (us i).ownBlock = some b → (us j).ownBlock ≠ some b
theorem MkT.of {w : World} {F : Nat → Prop} {g cap : Nat} {L : List KD} {xs : List Value} {us : Nat → Value} (h : OwT w F (.slice (some ⟨g, 0, none⟩) L.length cap) L xs us) :
    MkT w F g cap L.length (fun i => (L.getD i kd0).2.length) xs us := by
  refine ⟨h.row, h.inF g rfl, fun i hi => ?_, h.fil.dis⟩
  obtain ⟨a0, a1, a2, a3, wr, c, l, hx, h0, h1, h2, h3, h4, h5, h6, h7⟩ := h.fil.at_ i hi
  exact ⟨h4, ⟨l, by rw [hx]; rfl, h7⟩, fun b hb => ⟨(h.fil.inF i hi b hb).1, fun q => (h.fil.inF i hi b hb).2.1 (by rw [q]; rfl)⟩⟩
/-- A cell that is no kin's is written. -/
theorem MkT.put {w : World} {F : Nat → Prop} {g cap n : Nat} {len : Nat → Nat} {xs : List Value} {us : Nat → Value} (h : MkT w F g cap n len xs us) (j s : Nat) (hs : s < 7) (h4 : s ≠ 4) (a : Value) :
    MkT (w.setCell ⟨g, j * 7 + s, none⟩ a) F g cap n len (xs.set (j * 7 + s) a) us := by
  refine ⟨row_put1 h.row _ _, h.inF, fun i hi => ?_, h.dis⟩
  obtain ⟨h1, ⟨l, h2, h3⟩, h5⟩ := h.kin i hi
  refine ⟨by rw [List.getElem?_set_ne (by omega)]; exact h1, ⟨l, h2, h3.agree fun b hb => Below.heap_setCell _ _ _ _ (fun q => (h5 b hb).2 q.symm)⟩, h5⟩
/-- One's kin are marked. -/
theorem MkT.mark {w w' : World} {F : Nat → Prop} {g cap n j : Nat} {len : Nat → Nat} {xs : List Value} {us : Nat → Value} {l : List (Int × Int)} (h : MkT w F g cap n len xs us) (hj : j < n) (hl : l.length = len j) (ho : Own w' 0 (us j) l) (hg : w.grownBy w' (us j).ownBlock) :
    MkT w' F g cap n len xs us := by
  have hk := (h.kin j hj).2.2
  refine ⟨World.ownsRow.kept h.row hg (.inr fun q => (hk g (q ▸ rfl)).2 rfl), h.inF, fun i hi => ?_, h.dis⟩
  obtain ⟨h1, ⟨m, h2, h3⟩, h5⟩ := h.kin i hi
  by_cases e : i = j
  · subst e
    exact ⟨h1, ⟨l, hl, ho⟩, h5⟩
  · refine ⟨h1, ⟨m, h2, World.ownsRow.kept h3 hg ?_⟩, h5⟩
    cases q : (us i).ownBlock with
    | none => exact .inl rfl
    | some b => exact .inr fun hc => h.dis i j hi hj e b q hc.symm

def cntT (L : List KD) : Nat := 6 * L.length + 2 * bulkM L

set_option maxRecDepth 100000 in
set_option maxHeartbeats 4000000 in
theorem markToldS_any (v : Value) (L : List KD) (k : Int) (F : Nat → Prop) (w : World) (h : OwnT w F v L) (hk : 0 ≤ k) (hk2 : k + cntT L ≤ 1099511627776) :
    Calls Try.prog 14 #[v, .int .i64 k] w fun e w' => (∃ r : Int, 0 ≤ r ∧ e = .returned (.int .i64 r)) ∧ Only F w w' := by
  obtain ⟨xs0, us, h⟩ := h
  rcases h.row.2 with ⟨rfl, hn⟩ | ⟨g, cap, cur, hv, hb, hg, hnc, hcm, hcs, htake⟩
  · have : L = [] := List.eq_nil_of_length_eq_zero hn
    subst this
    clear h hn
    go_enter Try.func14, Try.ntmps14
    go_wp2
    go_loop [1, 5] (fun kk i => i = .int .i64 0 ∧ kk = .int .i64 k) (fun _ _ => 0)
    case atStart => exact ⟨rfl, rfl⟩
    case round =>
      obtain ⟨rfl, rfl⟩ := hrel
      go_wp2
      go_ret
      exact ⟨⟨k, hk, by simp⟩, Only.refl _ _⟩
  · subst hv
    have HO := hid (MkT.of h)
    have hLm : L.length ≤ maxLen := Nat.le_trans hnc hcm
    unfold maxLen at hLm
    have HK := hid hk2
    clear h hg hcs htake hb hnc hcm hk2
    go_enter Try.func14, Try.ntmps14
    go_wp2
    go_loopw [1, 5] (fun kk i wr => ∃ (j : Nat) (xs : List Value) (q : Int), j ≤ L.length ∧ i = .int .i64 j ∧ kk = .int .i64 q ∧ Hid (0 ≤ q ∧ q ≤ k + cntT (L.take j)) ∧
        Hid (MkT wr F g cap L.length (fun i => (L.getD i kd0).2.length) xs us) ∧ Hid (Only F w wr)) (fun _ i _ => L.length - (intOf i).toNat)
    case atStart => exact ⟨0, xs0, k, Nat.zero_le _, rfl, rfl, hid ⟨hk, by simp [cntT, bulkM]⟩, HO, hid (Only.refl _ _)⟩
    case round =>
      obtain ⟨j, xs, q, hj, rfl, rfl, hq, how, honly⟩ := hrel
      by_cases hlt : j < L.length
      · have HST : Hid (q + 6 + 2 * ((L.getD j kd0).2.length : Int) ≤ k + cntT (L.take (j + 1)) ∧ k + cntT (L.take (j + 1)) ≤ 1099511627776) := hid (by
          have h1 := bulkM_step L j hlt
          have h2 := bulkM_take L (j + 1)
          have h3 := hq.out.2
          have h4 := HK.out
          simp only [cntT, List.length_take] at h3 h4 ⊢
          omega)
        have hq0 : 0 ≤ q := hq.out.1
        obtain ⟨x4, ⟨l, hl, ho⟩, hF⟩ := how.out.kin j hlt
        have hq1 : q + 6 + 2 * (l.length : Int) ≤ 1099511627776 := by have := HST.out; omega
        have hrow := how.out.row
        obtain ⟨z0, hz0⟩ := row_cell hrow (j * 7) (by omega)
        have f0 := hrow.frozenAt (j * 7)
        obtain ⟨z1, hz1⟩ := row_cell hrow (j * 7 + 1) (by omega)
        have f1 := hrow.frozenAt (j * 7 + 1)
        obtain ⟨z2, hz2⟩ := row_cell hrow (j * 7 + 2) (by omega)
        have f2 := hrow.frozenAt (j * 7 + 2)
        obtain ⟨z3, hz3⟩ := row_cell hrow (j * 7 + 3) (by omega)
        have f3 := hrow.frozenAt (j * 7 + 3)
        obtain ⟨z5, hz5⟩ := row_cell hrow (j * 7 + 5) (by omega)
        have f5 := hrow.frozenAt (j * 7 + 5)
        obtain ⟨z6, hz6⟩ := row_cell hrow (j * 7 + 6) (by omega)
        have f6 := hrow.frozenAt (j * 7 + 6)
        have u4 := (hrow.cellAt (j * 7 + 4) (by omega)).trans x4
        obtain ⟨uo, uc, huv, _⟩ := ho.rd
        have HM := hid (((((how.out.put j 0 (by decide) (by decide) (.int .i64 (q))).put j 1 (by decide) (by decide) (.int .i64 (q + 1))).put j 2 (by decide) (by decide) (.int .i64 (q + 1 + 1))).put j 3 (by decide) (by decide) (.int .i64 (q + 1 + 1 + 1))))
        rw [huv] at u4
        have HLN := hid hl
        clear hrow ho hl x4
        go_wp2_with fail
        obtain ⟨_, ⟨l2, hl2, ho2⟩, _⟩ := HM.out.kin j hlt
        rw [huv] at ho2
        have hll : l2.length = l.length := by rw [hl2, HLN.out]
        refine (mark_any (.slice uo l.length uc) l2 (q + 1 + 1 + 1 + 1) 0 _ ho2 (by omega) (by omega) (by omega)).mono ?_
        rintro e w2 ⟨he, ho3, hg3⟩
        rw [hll] at he ho3
        subst he
        have HM2 := hid (HM.out.mark hlt (by rw [markL_length]; exact HLN.out) (huv.symm ▸ ho3) (huv.symm ▸ hg3))
        have HN2 := hid (((((honly.out.trans (Only.set _ (p := ⟨g, j * 7 + 0, none⟩) HM.out.inF (.int .i64 q))).trans (Only.set _ (p := ⟨g, j * 7 + 1, none⟩) HM.out.inF (.int .i64 (q + 1)))).trans (Only.set _ (p := ⟨g, j * 7 + 2, none⟩) HM.out.inF (.int .i64 (q + 1 + 1)))).trans (Only.set _ (p := ⟨g, j * 7 + 3, none⟩) HM.out.inF (.int .i64 (q + 1 + 1 + 1)))).trans (Only.of_grown hg3 (fun b hb => (hF b (huv ▸ hb)).1)))
        clear HM ho2 hl2 hll ho3 hg3
        have hrow2 := HM2.out.row
        obtain ⟨y5, hy5⟩ := row_cell hrow2 (j * 7 + 5) (by omega)
        have g5 := hrow2.frozenAt (j * 7 + 5)
        obtain ⟨y6, hy6⟩ := row_cell hrow2 (j * 7 + 6) (by omega)
        have g6 := hrow2.frozenAt (j * 7 + 6)
        clear hrow2
        go_wp2
        go_roundw
        case rel =>
          exact ⟨j + 1, _, _, by omega, by go_num, rfl, hid (by have := HST.out; have := HLN.out; omega), hid ((HM2.out.put j 5 (by decide) (by decide) _).put j 6 (by decide) (by decide) _), hid ((HN2.out.trans (Only.set _ (p := ⟨g, j * 7 + 5, none⟩) HM2.out.inF _)).trans (Only.set _ (p := ⟨g, j * 7 + 6, none⟩) HM2.out.inF _))⟩
        case measure => simp [intOf]; omega
      · obtain rfl : j = L.length := by omega
        go_wp2
        go_ret
        exact ⟨⟨q, hq.out.1, by simp⟩, honly.out⟩
end Go.Proofs.Ytnnhpnhnddibjaa
