/- strings.SplitSeq's iterator: its contract as one that turns the rest that it keeps. -/
import Derived.Test.YtdjonplcgmfmgaaGreatDoorSp
import Derived.Test.YtdjonplcgmfmgaaGreatDoorRs
import Derived.Test.YtdjonplcgmfmgaaGreatDoorIt
namespace Go.Proofs.YtdjonplcgmfmgaaGreatDoor
open Go.RowKit Go.Shelf
attribute [local go_sem] Oper.semAt_some

/-- Blocks below n0, and the three from k0 on, lie as they lay. -/
def KeepB (n0 k0 : Nat) (W W' : World) : Prop := ∀ k, (k < n0 ∨ (k0 ≤ k ∧ k < k0 + 3)) → W'.heap[k]? = W.heap[k]?
theorem KeepB.trans {n0 k0 : Nat} {A B C : World} (h : KeepB n0 k0 A B) (k : KeepB n0 k0 B C) : KeepB n0 k0 A C := fun i hi => (k i hi).trans (h i hi)
theorem KeepB.cell {n0 k0 : Nat} {W W' : World} (h : KeepB n0 k0 W W') {p : Addr} (hp : p.block < n0 ∨ (k0 ≤ p.block ∧ p.block < k0 + 3)) : W'.cell? p = W.cell? p := World.cell?_of_block (w := W) (h p.block hp)
theorem KeepB.frozen {n0 k0 : Nat} {W W' : World} (h : KeepB n0 k0 W W') {p : Addr} (hp : p.block < n0 ∨ (k0 ≤ p.block ∧ p.block < k0 + 3)) : W'.frozen? p = W.frozen? p := World.frozen?_of_block (w := W) (h p.block hp)

/-- The three boxes of the iterator: the rest, what parts it, 0; and the variable that the search reads. -/
structure Rest (k0 : Nat) (W : World) (s : ByteArray) : Prop where
  c0 : W.cell? ⟨k0, 0, none⟩ = some (.string s)
  f0 : W.frozen? ⟨k0, 0, none⟩ = false
  c1 : W.cell? ⟨k0 + 1, 0, none⟩ = some (.string ⟨#[32]⟩)
  c2 : W.cell? ⟨k0 + 2, 0, none⟩ = some (.int .i64 0)
  mv : MaxVar W
  lt : k0 + 2 < W.heap.size
theorem Rest.later {k0 : Nat} {W W' : World} {s : ByteArray} (h : Rest k0 W s) (hb : Below W.heap.size W W') : Rest k0 W' s :=
  ⟨(hb.cell (p := ⟨k0, 0, none⟩) (by show k0 < _; have := h.lt; omega)).trans h.c0, (hb.frozen (p := ⟨k0, 0, none⟩) (by show k0 < _; have := h.lt; omega)).trans h.f0,
    (hb.cell (p := ⟨k0 + 1, 0, none⟩) (by show k0 + 1 < _; have := h.lt; omega)).trans h.c1, (hb.cell (p := ⟨k0 + 2, 0, none⟩) (by show k0 + 2 < _; have := h.lt; omega)).trans h.c2, h.mv.below hb, Nat.lt_of_lt_of_le h.lt hb.size⟩

abbrev encS (x : ByteArray) : Array Value := #[.string x]
/-- The pieces of a text, as texts. -/
def pcs (l : List UInt8) : List ByteArray := (cutL 32 l).map fun p => ⟨p.toArray⟩

/-- How much is left in the box. -/
def restSize (k0 : Nat) (w : World) : Nat := match w.cell? ⟨k0, 0, none⟩ with | some (.string t) => t.size | _ => 0
theorem restSize_of {k0 : Nat} {w : World} {t : ByteArray} (h : w.cell? ⟨k0, 0, none⟩ = some (.string t)) : restSize k0 w = t.size := by rw [restSize, h]
theorem pcs_none {t : ByteArray} (h : cutL 32 t.data.toList = [t.data.toList]) : pcs t.data.toList = [t] := by
  rw [pcs, h]; rfl
theorem pcs_some {t : ByteArray} {i : Nat} (_ : i < t.data.toList.length) (h : cutL 32 t.data.toList = t.data.toList.take i :: cutL 32 (t.data.toList.drop (i + 1))) :
    pcs t.data.toList = t.extract 0 i :: pcs (t.extract (i + 1) t.size).data.toList := by
  have e1 : t.extract 0 i = ⟨(t.data.toList.take i).toArray⟩ := by rw [piece_eq, List.drop_zero, Nat.sub_zero]
  have e2 : (t.extract (i + 1) t.size).data.toList = t.data.toList.drop (i + 1) := by
    rw [piece_eq, List.toList_toArray]
    exact List.take_of_length_le (by rw [List.length_drop]; exact Nat.le_refl _)
  rw [e1, e2, pcs, h]; rfl

set_option maxRecDepth 100000 in
set_option maxHeartbeats 2000000 in
theorem splitW_in (n : Nat) (hn : 1 ≤ n) (l0 n0 k0 : Nat) (hG : 1 < n0) (hk : n0 ≤ k0) (s : ByteArray) (hs : s.size ≤ 1048576)
    (J Jx : List ByteArray → World → Prop) (W : World) (hR : Rest k0 W s) (hJ : Lets k0 J)
    (hY : ∀ pre x W1, J pre W1 → (pre ++ [x]) <+: pcs s.data.toList → YieldAt Fence.wide (n - 1) Tryz.prog l0 #[.string x] W1 fun e W' =>
      (e = .returned (.bool true) ∧ J (pre ++ [x]) W' ∧ KeepB n0 k0 W1 W') ∨ (e = .returned (.bool false) ∧ Jx (pre ++ [x]) W')) (h0 : J [] W) :
    CallsIn Fence.wide n Tryz.prog 91 #[.func (.yield l0) #[] #[], .pointer (some ⟨k0 + 1, 0, none⟩), .pointer (some ⟨k0, 0, none⟩), .pointer (some ⟨k0 + 2, 0, none⟩)] W fun e W' => (∃ v, e = .returned v) ∧
      (J (pcs s.data.toList) W' ∨ (∃ pre, pre <+: pcs s.data.toList ∧ Jx pre W')) := by
  have HY := hid hY
  clear hY
  have y0 := hR.c0
  have y1 := hR.c1
  have y2 := hR.c2
  refine callsIn_of_wp Tryz.func91 rfl trivial ?_ rfl
  simp only [Tryz.ntmps91, List.size_toArray, List.length_cons, List.length_nil, Nat.reduceAdd, Nat.reduceSub, Array.replicate_succ, Array.replicate_zero, List.push_toArray, List.append_toArray, List.nil_append, List.cons_append]
  gi_wp2
  gi_loopw [7] (fun _ wr => ∃ (t : ByteArray) (pre : List ByteArray), pcs s.data.toList = pre ++ pcs t.data.toList ∧ t.size ≤ s.size ∧ J pre wr ∧ Rest k0 wr t) (fun _ wr => restSize k0 wr)
  case atStart => exact ⟨s, [], rfl, Nat.le_refl _, h0, hR⟩
  case round =>
    obtain ⟨t, pre, hp, hts, hJs, hRt⟩ := hrel
    clear hR y0 y1 y2 h0
    have y0 := hRt.c0
    have y1 := hRt.c1
    have y2 := hRt.c2
    have yf := hRt.f0
    obtain ⟨m, hm⟩ := hRt.mv
    have HP := hid hp
    have HJs := hid hJs
    have HRt := hid hRt
    clear hp hJs hRt
    have htz : t.data.toList.length = t.size := rfl
    rcases cut_index 32 t.data.toList with ⟨hi, hc⟩ | ⟨i, hi, hlt, hc⟩
    · gi_wp2_with fail
      refine ⟨trivial, (callsIn_wide.2 (Tryz.strings_Index t ⟨#[32]⟩ m _ (by omega) hm)).mono ?_⟩
      rintro e w1 ⟨rfl, rfl⟩
      rw [show (⟨#[32]⟩ : ByteArray).data.toList = [32] from rfl, hi]
      have e1 : pcs s.data.toList = pre ++ [t] := by rw [HP.out, pcs_none hc]
      obtain ⟨fn, tmps, assign, body, hy, hR⟩ := HY.out pre t w1 HJs.out (by rw [e1]; exact List.prefix_rfl)
      gi_wp2
      refine hR.mono ?_
      rintro e W3 (⟨rfl, hJ3, hk3⟩ | ⟨rfl, hJx3⟩)
      · gi_wp2
        go_end0
        exact ⟨⟨_, rfl⟩, .inl (by rw [e1]; exact hJ3)⟩
      · gi_wp2
        go_end0
        exact ⟨⟨_, rfl⟩, .inr ⟨_, by rw [e1]; exact List.prefix_rfl, hJx3⟩⟩
    · gi_wp2_with fail
      refine ⟨trivial, (callsIn_wide.2 (Tryz.strings_Index t ⟨#[32]⟩ m _ (by omega) hm)).mono ?_⟩
      rintro e w1 ⟨rfl, rfl⟩
      rw [show (⟨#[32]⟩ : ByteArray).data.toList = [32] from rfl, hi]
      have e1 := pcs_some hlt hc
      have e2 : pcs s.data.toList = (pre ++ [t.extract 0 i]) ++ pcs (t.extract (i + 1) t.size).data.toList := by rw [HP.out, e1]; simp
      obtain ⟨fn, tmps, assign, body, hy, hR⟩ := HY.out pre (t.extract 0 i) w1 HJs.out (by rw [e2]; exact List.prefix_append _ _)
      have E2 := hid e2
      clear e1 e2
      gi_wp2
      refine hR.mono ?_
      rintro e W3 (⟨rfl, hJ3, hk3⟩ | ⟨rfl, hJx3⟩)
      · have x0 := (hk3.cell (p := ⟨k0, 0, none⟩) (Or.inr ⟨Nat.le_refl _, by show k0 < _; omega⟩)).trans y0
        have x1 := (hk3.cell (p := ⟨k0 + 1, 0, none⟩) (Or.inr ⟨by show k0 ≤ k0 + 1; omega, by show k0 + 1 < k0 + 3; omega⟩)).trans y1
        have x2 := (hk3.cell (p := ⟨k0 + 2, 0, none⟩) (Or.inr ⟨by show k0 ≤ k0 + 2; omega, by show k0 + 2 < k0 + 3; omega⟩)).trans y2
        have xf := (hk3.frozen (p := ⟨k0, 0, none⟩) (Or.inr ⟨Nat.le_refl _, by show k0 < _; omega⟩)).trans yf
        have xm : MaxVar W3 := ⟨m, (hk3.cell (p := ⟨1, 0, none⟩) (Or.inl hG)).trans hm⟩
        have XM := hid xm
        clear y0 y1 y2 yf hm xm
        have hi1 : i + 1 ≤ t.size := by omega
        gi_wp2
        go_roundw
        case rel =>
          have XR : Rest k0 (W3.setCell ⟨k0, 0, none⟩ (.string (t.extract (i + 1) t.size))) (t.extract (i + 1) t.size) := by
            have hl2 := World.block_lt_of_cell? _ _ x2
            simp only at hl2
            refine ⟨by go_cell, by simpa using xf, by go_cell, by go_cell, ?_, by simpa using hl2⟩
            obtain ⟨mm, hmm⟩ := XM.out
            exact ⟨mm, by rw [← hmm]; exact World.cell?_of_block (w := W3) (Below.heap_setCell _ _ _ _ (by show 1 ≠ k0; omega))⟩
          exact ⟨t.extract (i + 1) t.size, pre ++ [t.extract 0 i], E2.out, by rw [ByteArray.size_extract]; omega, hJ _ W3 _ hJ3 (grownBy_setCell' W3 k0 _), XR⟩
        case measure =>
          rw [restSize_of (t := t.extract (i + 1) t.size) (by go_cell), restSize_of HRt.out.c0, ByteArray.size_extract]; omega
      · gi_wp2
        refine bodyPost_ret (results_none rfl _ _ _) rfl ?_
        exact ⟨⟨_, rfl⟩, .inr ⟨_, by rw [E2.out]; exact List.prefix_append _ _, hJx3⟩⟩

set_option maxHeartbeats 1000000 in
theorem splitSeq0_any (t : ByteArray) (W : World) (hM : MaxVar W) : Calls Tryz.prog 77 #[.string t, .string ⟨#[32]⟩, .int .i64 0] W fun e W' =>
    e = .returned (.func (.func 91) #[] #[.pointer (some ⟨W.heap.size + 1, 0, none⟩), .pointer (some ⟨W.heap.size, 0, none⟩), .pointer (some ⟨W.heap.size + 2, 0, none⟩)]) ∧ Rest W.heap.size W' t ∧ Below W.heap.size W W' ∧ W'.heap.size = W.heap.size + 3 := by
  have HM := hid hM
  clear hM
  go_enter Tryz.func77, Tryz.ntmps77
  go_wp2
  go_ret
  have hb : Below W.heap.size W (((W.alloc (.cells #[.string t] 9)).alloc (.cells #[.string ⟨#[32]⟩] 9)).alloc (.cells #[.int .i64 0] 3)) := by go_grown
  exact ⟨by simp, ⟨by go_cell, by (first | go_cell | (simp [World.frozen?, World.alloc]; done) | rfl), by go_cell, by go_cell, HM.out.below hb, by simp⟩, hb, by simp⟩
theorem splitSeq_any (t : ByteArray) (W : World) (hM : MaxVar W) : Calls Tryz.prog 63 #[.string t, .string ⟨#[32]⟩] W fun e W' =>
    e = .returned (.func (.func 91) #[] #[.pointer (some ⟨W.heap.size + 1, 0, none⟩), .pointer (some ⟨W.heap.size, 0, none⟩), .pointer (some ⟨W.heap.size + 2, 0, none⟩)]) ∧ Rest W.heap.size W' t ∧ Below W.heap.size W W' ∧ W'.heap.size = W.heap.size + 3 := by
  have HM := hid hM
  clear hM
  go_enter Tryz.func63, Tryz.ntmps63
  go_wp2_with fail
  refine (splitSeq0_any t _ HM.out).mono ?_
  rintro e w1 ⟨rfl, h1, h2, h3⟩
  have H1 := hid h1
  have H2 := hid h2
  have H3 := hid h3
  clear h1 h2 h3
  go_wp2
  go_ret
  exact ⟨by simp, H1.out, H2.out, H3.out⟩
end Go.Proofs.YtdjonplcgmfmgaaGreatDoor
