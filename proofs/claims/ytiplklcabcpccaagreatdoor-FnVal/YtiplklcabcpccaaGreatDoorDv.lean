/- The draw of a key and a text, torn or not: contract. -/
import Derived.Test.YtiplklcabcpccaaGreatDoorDs
import Derived.Test.YtiplklcabcpccaaGreatDoorLd
import Derived.Test.YtiplklcabcpccaaGreatDoorVt
import Derived.Test.YtiplklcabcpccaaGreatDoorTn
namespace Go.Proofs.YtiplklcabcpccaaGreatDoor
open Go.RowKit Go.Shelf
attribute [local go_sem ↓] Go.wp_at_zero Go.wp_at_succ

theorem strs_eight (w : World) (a b c d e f x y : ByteArray) (P : ByteArray → Prop) (ha : P a) (hb : P b) (hc : P c) (hd : P d) (he : P e) (hf : P f) (hx : P x) (hy : P y) : Strs (w.alloc (.cells #[.string a, .string b, .string c, .string d, .string e, .string f, .string x, .string y] 9)) w.heap.size 8 P := by
  refine ⟨by simp, fun i hi => ?_⟩
  rcases i with _ | _ | _ | _ | _ | _ | _ | _ | i
  · exact ⟨a, by go_cell, ha⟩
  · exact ⟨b, by go_cell, hb⟩
  · exact ⟨c, by go_cell, hc⟩
  · exact ⟨d, by go_cell, hd⟩
  · exact ⟨e, by go_cell, he⟩
  · exact ⟨f, by go_cell, hf⟩
  · exact ⟨x, by go_cell, hx⟩
  · exact ⟨y, by go_cell, hy⟩
  · omega

theorem vtext_len {k z : Int} {l : List (Int × Int)} (h : BdL l) (hz : -1 ≤ z ∧ z ≤ 1000001) (hl : l.length ≤ 7) : (vTextL k z l).length ≤ 400 := by
  by_cases hk : kindOf k = 0
  · rw [vText_num hk]
    have := Lib.itoa_length_le z (by omega) (by omega)
    omega
  · rw [vText_kin hk]
    have := text_len h
    omega

set_option maxRecDepth 100000 in
set_option maxHeartbeats 2000000 in
theorem drawValRead_any (v : Value) (n : Nat) (w : World) (h : Bs w v n) :
    Calls Tryz.prog 11 #[v] w fun e w' => ∃ (k : Int) (s : ByteArray), e = .returned (.tuple #[.int .i64 k, .string s]) ∧ s.size ≤ 1000 ∧ Below w.heap.size w w' := by
  obtain ⟨ao, cap, rfl, h0, h1, h2, h3⟩ := h
  go_enter Tryz.func11, Tryz.ntmps11
  go_wp2_with fail
  refine (open_any ao n cap _ h0 h1 h2 h3).mono ?_
  rintro e w1 ⟨g, rfl, R1, b1⟩
  go_wp2_with fail
  refine (l2Key_any g 0 w.heap.size _ R1 (by omega)).mono ?_
  rintro e w2 ⟨k, rfl, _, ⟨q, _, hq, R2⟩, g2⟩
  have b2 : Below w.heap.size w w2 := b1.grown g2 b1.size (fun k e => by cases e; exact R1.1)
  have HR2 := hid R2
  clear R2 g2
  go_wp2_with fail
  refine (l2ValR_any g q w.heap.size k _ HR2.out (by omega)).mono ?_
  rintro e w3 ⟨z, u, l, rfl, ho, hl, hbd, hz, g3, q3, hq3, R3⟩
  have b3 : Below w.heap.size w w3 := b2.grown g3 b2.size (fun k e => by cases e; exact R1.1)
  have HO := hid ho
  have HB := hid hbd
  have HR3 := hid R3
  clear HR2 ho hbd g3 R3
  go_wp2_with fail
  refine (specVText_any k z u l _ HO.out.rd (by omega) (bd_wf HB.out) (by omega) (by omega)).mono ?_
  rintro e w4 ⟨rfl, b4⟩
  have c4 : Below w.heap.size w w4 := b3.trans (b4.mono b3.size)
  have R4 := hid (HR3.out.later b4)
  obtain ⟨s, hs⟩ : ∃ s : ByteArray, s = ⟨(vTextL k z l).toArray⟩ := ⟨_, rfl⟩
  have hs0 : s.size = (vTextL k z l).length := by rw [hs]; rfl
  have hs2 : s.size ≤ 400 := by have := vtext_len (k := k) HB.out hz hl; omega
  rw [← hs]
  clear hs hs0 b4 HR3
  go_wp2_with fail
  refine (pick_any g q3 2 w.heap.size _ R4.out (by omega) (by omega)).mono ?_
  rintro e w5 ⟨r, rfl, _, _, R5', g5⟩
  have R5 := hid R5'
  have b5 : Below w.heap.size w w5 := c4.grown g5 c4.size (fun k e => by cases e; exact R1.1)
  clear R5' g5 R4
  by_cases hr : r = 0
  · subst hr
    go_wp2
    go_ret2
    exact ⟨k, s, rfl, by omega, b5⟩
  · have R5w := R5.out.2.1
    have c5 := b5.size
    go_wp2_with fail
    refine (of_any g (q3 + 1) w5.heap.size 8 8 w.heap.size (fun z => z.size ≤ 9) _ (R5.out.later (by go_grown)) (by omega) (by omega) (by omega) (by omega) (strs_eight w5 _ _ _ _ _ _ _ _ _ (by decide) (by decide) (by decide) (by decide) (by decide) (by decide) (by decide) (by decide))).mono ?_
    rintro e w6 ⟨z, rfl, hz, R6', g6⟩
    have b6 : Below w.heap.size w w6 := (b5.trans ((((Below.refl _ w5).alloc (Nat.le_refl _) _)).mono b5.size)).grown g6 (by simp; omega) (fun k e => by cases e; exact R1.1)
    clear R6' g6
    go_wp2
    go_ret2
    exact ⟨k, z, rfl, by have hz' : z.size ≤ 9 := hz; omega, b6⟩
end Go.Proofs.YtiplklcabcpccaaGreatDoor
