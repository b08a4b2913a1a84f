/- The reader of the draws: l15Open, pick: contracts. -/
import Derived.Test.YtilbaiohcfhcaaaRows
import Derived.WalkKit
import Derived.WalkSpells
import Derived.WalkLawsBesides
import Derived.Handy
import Derived.Deep.RegionHeld3
import Derived.Deep.AppendLies
import Derived.BigQuiet
import Derived.Lib.QuietBelow
namespace Go.Proofs.Ytilbaiohcfhcaaa
open Go.RowKit

theorem hidR {p : Prop} (h : p) : Hid p := h

/-- n bytes that lie below block B. -/
def Byt (w : World) (B : Nat) (ao : Option Addr) (n : Nat) : Prop :=
  0 < n → ∃ b off, ao = some ⟨b, off, none⟩ ∧ b < B ∧ ∀ i, i < n → ∃ x, w.cell? ⟨b, off + i, none⟩ = some (.int .u8 x) ∧ 0 ≤ x ∧ x < 256
/-- A reader in block g, behind p picks; its bytes lie below block B. -/
def Rdr (w : World) (B g p : Nat) : Prop :=
  B ≤ g ∧ g < w.heap.size ∧ ∃ ao n cap, w.cell? ⟨g, 0, none⟩ = some (.slice ao n cap) ∧ w.cell? ⟨g, 1, none⟩ = some (.int .i64 p) ∧ w.frozen? ⟨g, 1, none⟩ = false ∧ n ≤ 2000 ∧ n ≤ cap ∧ Byt w B ao n

theorem Byt.kept {w w' : World} {B : Nat} {ao : Option Addr} {n : Nat} {row : Option Nat} (h : Byt w B ao n) (hg : w.grownBy w' row) (hr : ∀ k, row = some k → B ≤ k) : Byt w' B ao n := fun h0 => by
  obtain ⟨b, off, ha, hb, hc⟩ := h h0
  refine ⟨b, off, ha, hb, fun i hi => ?_⟩
  obtain ⟨x, hx, hx1⟩ := hc i hi
  exact ⟨x, hg.cell hx (fun e => absurd (hr b e.symm) (by omega)), hx1⟩
theorem Rdr.kept {w w' : World} {B g p : Nat} {row : Option Nat} (h : Rdr w B g p) (hg : w.grownBy w' row) (hr : ∀ k, row = some k → B ≤ k) (hne : row ≠ some g) : Rdr w' B g p := by
  obtain ⟨hB, hlt, ao, n, cap, c0, c1, f, hn, hnc, hb⟩ := h
  refine ⟨hB, Nat.lt_of_lt_of_le hlt hg.size, ao, n, cap, hg.cell c0 (Ne.symm hne), hg.cell c1 (Ne.symm hne), ?_, hn, hnc, hb.kept hg hr⟩
  rw [hg.frozen_far ⟨g, 1, none⟩ hlt (Ne.symm hne)]; exact f
theorem grownBelowR {w w' : World} (h : Below w.heap.size w w') : w.grownBy w' none := ⟨h.os, h.tape, h.output, h.size, fun k hk _ => h.block k hk⟩
theorem Rdr.later {w w' : World} {B g p : Nat} (h : Rdr w B g p) (hb : Below w.heap.size w w') : Rdr w' B g p := h.kept (grownBelowR hb) (fun _ e => by cases e) (by simp)

theorem rdr_new (w : World) (ao : Option Addr) (n cap : Nat) (hn : n ≤ 2000) (hnc : n ≤ cap) (h : Byt w w.heap.size ao n) : Rdr (w.alloc (.cells #[.slice ao n cap, .int .i64 0] 77)) w.heap.size w.heap.size 0 := by
  refine ⟨Nat.le_refl _, by simp, ao, n, cap, by go_cell, by go_cell, by simp, hn, hnc, h.kept (World.grownBy_alloc w _ none) (fun _ e => by cases e)⟩

set_option maxRecDepth 100000 in
set_option maxHeartbeats 400000 in
theorem open_any (ao : Option Addr) (n cap : Nat) (w : World) (hn : n ≤ maxLen) (hnc : n ≤ cap) (hcm : cap ≤ maxLen) (h : Byt w w.heap.size ao n) :
    Calls Try.prog 15 #[.slice ao n cap] w fun e w' => ∃ g, e = .returned (.pointer (some ⟨g, 0, none⟩)) ∧ Rdr w' w.heap.size g 0 ∧ Below w.heap.size w w' := by
  unfold maxLen at hn hcm
  by_cases hbig : 2000 < n
  · go_enter Try.func15, Try.ntmps15
    go_wp2
    go_ret
    refine ⟨_, rfl, rdr_new w ao 2000 cap (by omega) (by omega) (fun h0 => ?_), by go_grown⟩
    obtain ⟨b, off, ha, hb, hc⟩ := h (by omega)
    exact ⟨b, off, ha, hb, fun i hi => hc i (by omega)⟩
  · go_enter Try.func15, Try.ntmps15
    go_wp2
    go_ret
    exact ⟨_, rfl, rdr_new w ao n cap (by omega) hnc h, by go_grown⟩

theorem grown_set (w : World) (a : Addr) (v : Value) : w.grownBy (w.setCell a v) (some a.block) :=
  ⟨rfl, rfl, rfl, by simp, fun k _ hne => Below.heap_setCell w a v k (fun e => hne (by rw [e]))⟩

theorem rdr_step {w : World} {B g p : Nat} (h : Rdr w B g p) : Rdr (w.setCell ⟨g, 1, none⟩ (.int .i64 ((p : Int) + 1))) B g (p + 1) := by
  obtain ⟨hB, hlt, ao, n, cap, c0, c1, f, hn, hnc, hb⟩ := h
  exact ⟨hB, by simpa using hlt, ao, n, cap, by go_cell, by go_cell, by simpa using f, hn, hnc, hb.kept (row := some g) (grown_set w ⟨g, 1, none⟩ _) (fun k e => by cases e; exact hB)⟩

theorem rdr_end {w : World} {B g p : Nat} {n r : Int} (h : Rdr w B g p) (h0 : 0 ≤ r) (h1 : 0 < n → r < n) :
    0 ≤ r ∧ (0 < n → r < n) ∧ Rdr (w.setCell ⟨g, 1, none⟩ (.int .i64 ((p : Int) + 1))) B g (p + 1) ∧ w.grownBy (w.setCell ⟨g, 1, none⟩ (.int .i64 ((p : Int) + 1))) (some g) :=
  ⟨h0, h1, rdr_step h, grown_set w ⟨g, 1, none⟩ _⟩

theorem xor_i64 (a b : Nat) (ha : a < 4611686018427387904) (hb : b < 4611686018427387904) : bits .xor .i64 (a : Int) (b : Int) = ((a ^^^ b : Nat) : Int) := by
  have hx : a ^^^ b < 2 ^ 62 := Nat.xor_lt_two_pow (by omega) (by omega)
  have h1 : (BitVec.ofInt 64 (a : Int)).toNat = a := by
    rw [BitVec.ofInt_natCast, BitVec.toNat_ofNat]; exact Nat.mod_eq_of_lt (by omega)
  have h2 : (BitVec.ofInt 64 (b : Int)).toNat = b := by
    rw [BitVec.ofInt_natCast, BitVec.toNat_ofNat]; exact Nat.mod_eq_of_lt (by omega)
  show IntKind.i64.wrap ((BitVec.ofInt 64 (a : Int) ^^^ BitVec.ofInt 64 (b : Int)).toNat : Int) = _
  rw [BitVec.toNat_xor, h1, h2]
  simp [IntKind.wrap, IntKind.bits, IntKind.signed]
  omega
theorem mix_nonneg (x y q p : Int) (hx0 : 0 ≤ x) (hx1 : x < 256) (hy0 : 0 ≤ y) (hy1 : y < 256) (hp0 : 0 ≤ p) (hp1 : p ≤ 1000000000000) (hq0 : 0 ≤ q) (hq1 : q ≤ p) :
    0 ≤ bits BinOp.xor IntKind.i64 (wrap64 (x * 131 + y * 1117 + p * 29 + wrap64 (wrap64 q * 53))) (wrap64 ((wrap64 (x * 131 + y * 1117 + p * 29 + wrap64 (wrap64 q * 53))).tdiv 64)) := by
  have e0 : wrap64 q = q := by unfold wrap64; omega
  have e1 : wrap64 (q * 53) = q * 53 := by unfold wrap64; omega
  have e2 : wrap64 (x * 131 + y * 1117 + p * 29 + q * 53) = x * 131 + y * 1117 + p * 29 + q * 53 := by unfold wrap64; omega
  rw [e0, e1, e2]
  obtain ⟨a, ha⟩ : ∃ a : Nat, x * 131 + y * 1117 + p * 29 + q * 53 = (a : Int) := ⟨(x * 131 + y * 1117 + p * 29 + q * 53).toNat, by omega⟩
  rw [ha]
  have e3 : wrap64 ((a : Int).tdiv 64) = ((a / 64 : Nat) : Int) := by
    have : (a : Int).tdiv 64 = ((a / 64 : Nat) : Int) := by rw [Int.tdiv_eq_ediv_of_nonneg (by omega)]; omega
    rw [this]; unfold wrap64; omega
  rw [e3, xor_i64 a (a / 64) (by omega) (by omega)]
  omega

set_option maxRecDepth 100000 in
set_option maxHeartbeats 2000000 in
theorem pick_any (g p : Nat) (n : Int) (B : Nat) (w : World) (h : Rdr w B g p) (hp : p ≤ 1000000000000) (hn : n ≤ 1000000000000) :
    Calls Try.prog 18 #[.pointer (some ⟨g, 0, none⟩), .int .i64 n] w fun e w' => ∃ r : Int, e = .returned (.int .i64 r) ∧ 0 ≤ r ∧ (0 < n → r < n) ∧ Rdr w' B g (p + 1) ∧ w.grownBy w' (some g) := by
  obtain ⟨hB, hlt, ao, m, cap, c0, c1, f, hm, hmc, hb⟩ := id h
  by_cases hn1 : n < 1
  · go_enter Try.func18, Try.ntmps18
    go_wp2
    go_ret
    exact ⟨0, rfl, rdr_end h (Int.le_refl _) (fun x => x)⟩
  · by_cases hm0 : m = 0
    · subst hm0
      go_enter Try.func18, Try.ntmps18
      go_wp2
      go_ret
      exact ⟨0, rfl, rdr_end h (Int.le_refl _) (fun x => x)⟩
    · obtain ⟨b, off, ha, hbB, hbc⟩ := hb (by omega)
      subst ha
      by_cases hk : p < m
      · obtain ⟨x, hx, hx0, hx1⟩ := hbc p hk
        go_enter Try.func18, Try.ntmps18
        go_wp2
        go_ret
        exact ⟨x % n, rfl, rdr_end h (Int.emod_nonneg _ (by omega)) (fun x => Int.emod_lt_of_pos _ x)⟩
      · obtain ⟨x, hx, hx0, hx1⟩ := hbc (p % m) (Nat.mod_lt _ (by omega))
        obtain ⟨y, hy, hy0, hy1⟩ := hbc ((p * 7 + 3) % m) (Nat.mod_lt _ (by omega))
        have hne : b ≠ g := by omega
        have hR := hidR h
        clear h hb hbc
        go_enter Try.func18, Try.ntmps18
        go_wp2
        have r0 := cell_regrown (w := w.setCell ⟨g, 1, none⟩ (.int .i64 ((p : Int) + 1))) (a := ⟨g, 0, none⟩) (v := .slice (some ⟨b, off, none⟩) m cap) (by go_cell)
        have r1 := cell_regrown (w := w.setCell ⟨g, 1, none⟩ (.int .i64 ((p : Int) + 1))) (a := ⟨b, off + p % m, none⟩) (v := .int .u8 x) (by go_cell)
        have r2 := cell_regrown (w := w.setCell ⟨g, 1, none⟩ (.int .i64 ((p : Int) + 1))) (a := ⟨b, off + (p * 7 + 3) % m, none⟩) (v := .int .u8 y) (by go_cell)
        have q0 : (p : Int) % (m : Int) < (m : Int) := Int.emod_lt_of_pos _ (by omega)
        have q1 : 0 ≤ (p : Int) % (m : Int) := Int.emod_nonneg _ (by omega)
        have q2 : ((p : Int) * 7 + 3) % (m : Int) < (m : Int) := Int.emod_lt_of_pos _ (by omega)
        have q3 : 0 ≤ ((p : Int) * 7 + 3) % (m : Int) := Int.emod_nonneg _ (by omega)
        generalize hW : w.setCell ⟨g, 1, none⟩ (.int .i64 ((p : Int) + 1)) = W at r0 r1 r2 ⊢
        have HW := hidR hW
        clear hW
        refine wp_region_quiet_below (by kernel_rfl) (by kernel_rfl) ?_
        repeat (first | go_big_quiet_skip | (go_big_quiet_want; go_big_quiet_op; first | go_big_quiet_on | go_big_quiet_call (first | (fail))))
        refine wpQuiet_nil ?_
        rintro wq ⟨pq, hwq⟩
        have hq : Below W.heap.size W wq := by rw [hwq]; exact below_regrown _ _ _
        clear hwq pq
        clear r0 r1 r2
        have d0 : 0 ≤ (p : Int) / (m : Int) := Int.ediv_nonneg (by omega) (by omega)
        have d1 : (p : Int) / (m : Int) ≤ p := Int.ediv_le_self _ (by omega)
        go_wp2
        go_ret
        have hz := mix_nonneg x y ((p : Int) / (m : Int)) p hx0 hx1 hy0 hy1 (by omega) (by omega) d0 d1
        refine ⟨_, rfl, ?_, ?_, (HW.out ▸ rdr_step hR.out).later hq, ?_⟩
        · exact Int.tmod_nonneg _ hz
        · intro h0
          exact Int.tmod_lt_of_pos _ h0
        · have hg := grown_set w ⟨g, 1, none⟩ (.int .i64 ((p : Int) + 1))
          rw [HW.out] at hg
          exact ⟨hq.os.trans hg.os, hq.tape.trans hg.tape, hq.output.trans hg.output, Nat.le_trans hg.size hq.size, fun k hk hne => (hq.block k (Nat.lt_of_lt_of_le hk hg.size)).trans (hg.block k hk hne)⟩
end Go.Proofs.Ytilbaiohcfhcaaa
