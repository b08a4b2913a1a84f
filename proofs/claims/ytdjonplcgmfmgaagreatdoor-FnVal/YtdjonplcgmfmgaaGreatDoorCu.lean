/- The pieces of a text: plain; l15Cut: contract. -/
import Derived.Test.YtdjonplcgmfmgaaGreatDoorFi
import Derived.Test.YtdjonplcgmfmgaaGreatDoorPl
import Derived.RangeFuncBox
namespace Go.Proofs.YtdjonplcgmfmgaaGreatDoor
open Go.RowKit Go.Shelf

/-- The pieces of a text between bytes c. -/
def cutL (c : UInt8) : List UInt8 → List (List UInt8)
  | [] => [[]]
  | x :: r => if x = c then [] :: cutL c r else match cutL c r with | [] => [[x]] | p :: q => (x :: p) :: q
theorem cut_none {c : UInt8} {a : List UInt8} (h : c ∉ a) : cutL c a = [a] := by
  induction a with
  | nil => rfl
  | cons x r ih =>
    rw [List.mem_cons, not_or] at h
    rw [cutL, if_neg (fun e => h.1 e.symm), ih h.2]
theorem cut_at {c : UInt8} {a : List UInt8} (b : List UInt8) (h : c ∉ a) : cutL c (a ++ c :: b) = a :: cutL c b := by
  induction a with
  | nil => rw [List.nil_append, cutL, if_pos rfl]
  | cons x r ih =>
    rw [List.mem_cons, not_or] at h
    rw [List.cons_append, cutL, if_neg (fun e => h.1 e.symm), ih h.2]
def tcells (P : List (List UInt8)) : List Value := P.map fun t => .string ⟨t.toArray⟩

theorem piece_eq (s : ByteArray) (f k : Nat) : s.extract f k = ⟨((s.data.toList.drop f).take (k - f)).toArray⟩ := by
  refine bytes_eq ?_
  rw [ByteArray.data_extract, Array.toList_extract, List.extract_eq_take_drop]

/-- Where the walk through a text stands. -/
def CutI (c : UInt8) (l : List UInt8) (k f : Nat) (P : List (List UInt8)) : Prop := (k ≤ l.length ∧ f ≤ k ∧ cutL c l = P ++ cutL c (l.drop f) ∧ c ∉ (l.drop f).take (k - f)) ∨ (k = l.length + 1 ∧ cutL c l = P)
theorem cutI_zero (c : UInt8) (l : List UInt8) : CutI c l 0 0 [] := Or.inl ⟨Nat.zero_le _, Nat.le_refl _, rfl, by simp⟩
theorem cutI_more {c : UInt8} {l : List UInt8} {k f : Nat} {P : List (List UInt8)} (h : CutI c l k f P) (hk : k < l.length) (hc : l[k] ≠ c) : CutI c l (k + 1) f P := by
  obtain ⟨h1, h2, h3, h4⟩ | ⟨h1, _⟩ := h
  · refine Or.inl ⟨hk, by omega, h3, ?_⟩
    have e : (l.drop f).take (k + 1 - f) = (l.drop f).take (k - f) ++ [l[k]] := by
      rw [show k + 1 - f = k - f + 1 from by omega, List.take_succ_eq_append_getElem (by rw [List.length_drop]; omega), List.getElem_drop]
      simp only [show f + (k - f) = k from by omega]
    rw [e, List.mem_append, List.mem_singleton, not_or]
    exact ⟨h4, fun e => hc e.symm⟩
  · omega
theorem cutI_cut {c : UInt8} {l : List UInt8} {k f : Nat} {P : List (List UInt8)} (h : CutI c l k f P) (hk : k < l.length) (hc : l[k] = c) : CutI c l (k + 1) (k + 1) (P ++ [(l.drop f).take (k - f)]) := by
  obtain ⟨h1, h2, h3, h4⟩ | ⟨h1, _⟩ := h
  · refine Or.inl ⟨hk, Nat.le_refl _, ?_, by simp⟩
    have e : l.drop f = (l.drop f).take (k - f) ++ c :: l.drop (k + 1) := by
      have e1 := (List.take_append_drop (k - f) (l.drop f)).symm
      rw [List.drop_drop, show f + (k - f) = k from by omega, List.drop_eq_getElem_cons hk, hc] at e1
      exact e1
    rw [h3, e, cut_at _ h4, ← e]
    simp
  · omega
theorem cutI_end {c : UInt8} {l : List UInt8} {f : Nat} {P : List (List UInt8)} (h : CutI c l l.length f P) : CutI c l (l.length + 1) (l.length + 1) (P ++ [(l.drop f).take (l.length - f)]) := by
  obtain ⟨h1, h2, h3, h4⟩ | ⟨h1, _⟩ := h
  · have e : (l.drop f).take (l.length - f) = l.drop f := List.take_of_length_le (by rw [List.length_drop]; omega)
    rw [e] at h4 ⊢
    exact Or.inr ⟨rfl, by rw [h3, cut_none h4]⟩
  · omega
theorem cutI_from {c : UInt8} {l : List UInt8} {k f : Nat} {P : List (List UInt8)} (h : CutI c l k f P) (hk : k ≤ l.length) : f ≤ k := by
  obtain ⟨_, h2, _, _⟩ | ⟨h1, _⟩ := h
  · exact h2
  · omega
theorem cutI_done {c : UInt8} {l : List UInt8} {k f : Nat} {P : List (List UInt8)} (h : CutI c l k f P) (hk : l.length < k) : cutL c l = P := by
  obtain ⟨h1, _⟩ | ⟨_, h2⟩ := h
  · omega
  · exact h2

theorem Tryz.infoCut : (Tryz.prog.info? 9).map (fun i => (i.zero, i.size, i.bytes)) = some (some (.string ⟨#[]⟩), 1, 16) := by kernel_rfl

set_option maxRecDepth 10000 in
set_option maxHeartbeats 2000000 in
theorem cut_any (s : ByteArray) (c : UInt8) (w : World) (hs : s.size ≤ 1048576) :
    Calls Tryz.prog 38 #[.string s, .int .u8 (c.toNat : Int)] w fun e w' => ∃ v, e = .returned v ∧ w'.ownsRow w.heap.size 9 1 v (cutL c s.data.toList).length (tcells (cutL c s.data.toList)) ∧ Below w.heap.size w w' := by
  have hlen : s.data.toList.length = s.size := rfl
  obtain ⟨i0, hi, hz0, hz1, hz2⟩ := info_parts Tryz.infoCut
  go_enter Tryz.func38, Tryz.ntmps38
  go_wp2
  go_loopw [5, 6, 7] (fun u g i wr => ∃ (k f : Nat) (P : List (List UInt8)), k ≤ s.size + 1 ∧ P.length ≤ k ∧ i = .int .i64 k ∧ g = .int .i64 f ∧ Hid (CutI c s.data.toList k f P) ∧ wr.ownsRow w.heap.size 9 1 u P.length (tcells P) ∧ (∃ b cp, u = .slice (some ⟨b, 0, none⟩) P.length cp) ∧ Below w.heap.size w wr) (fun _ _ i _ => s.size + 1 - (intOf i).toNat)
  case atStart => exact ⟨0, 0, [], Nat.zero_le _, Nat.le_refl _, rfl, rfl, hidT (cutI_zero _ _), World.ownsRow_lit w #[] 0 (Nat.le_refl _) (Nat.zero_le _) rfl, ⟨_, _, rfl⟩, by go_grown⟩
  case round =>
    obtain ⟨k, f, P, hk, hP, rfl, rfl, hI, hrow, ⟨gu, cu, rfl⟩, hbel⟩ := hrel
    have hsz := hbel.size
    have hk1 : P.length + 1 ≤ maxLen := by unfold maxLen; omega
    have hk2 : (P.length + 1) * 16 ≤ 140737488355328 := by omega
    by_cases hle : k ≤ s.size
    · have hf := cutI_from hI.out hle
      obtain ⟨p, hp⟩ : ∃ p, s.extract f k = p := ⟨_, rfl⟩
      have HP : Hid (p = ⟨((s.data.toList.drop f).take (k - f)).toArray⟩) := hidT (by rw [← hp]; exact piece_eq s f k)
      have hbs : w.heap.size ≤ (wr.alloc (.cells #[.string p] 9)).heap.size := by simp; omega
      by_cases hlt : k < s.size
      · have g0 : ((k : Int) == (s.size : Int)) = false := beq_eq_false_iff_ne.mpr (by omega)
        by_cases he : (s[k].toNat : Int) = (c.toNat : Int)
        · have HI : Hid (CutI c s.data.toList (k + 1) (k + 1) (P ++ [(s.data.toList.drop f).take (k - f)])) := hidT (cutI_cut hI.out hlt (u8_eq he))
          have g1 : ((s[k].toNat : Int) == (c.toNat : Int)) = true := beq_iff_eq.mpr he
          clear hI
          go_wp2_with (first | (at_builtin; refine wpList_append_own _ rfl _ _ 57 rfl w.heap.size 9 i0 (.string ⟨#[]⟩) 1 16 Tryz.underlying57 hi hz0 hz1 hz2 rfl (by decide) _ _ _ rfl (hrow.alloc _) ⟨wr.heap.size, 0, none⟩ 1 1 [.string p] rfl rfl (cell_one_new _ _ _) (by simp [Value.oneCell']) hk1 hk2 hbs ?_; intro v' w1 hown' hgrow' _; obtain ⟨g', cap', rfl⟩ := ownsRow_succ hown'))
          go_roundw
          case rel => exact ⟨k + 1, k + 1, _, by omega, by simp; omega, by go_num, by go_num, HI, by have := HP.out; subst this; simpa [tcells] using hown', ⟨g', cap', by simp⟩, (hbel.trans (((Below.refl _ wr).alloc (Nat.le_refl _) _).mono hsz)).grown hgrow' hbs (fun j ej => (hrow.lt j ej).1)⟩
          case measure => first | (simp [intOf]; done) | (simp [intOf]; omega)
        · have HI : Hid (CutI c s.data.toList (k + 1) f P) := hidT (cutI_more hI.out hlt (u8_ne he))
          have g1 : ((s[k].toNat : Int) == (c.toNat : Int)) = false := beq_eq_false_iff_ne.mpr he
          clear hI HP
          go_wp2
          go_roundw
          case rel => exact ⟨k + 1, f, P, by omega, by omega, by go_num, rfl, HI, hrow, ⟨gu, cu, rfl⟩, hbel⟩
          case measure => first | (simp [intOf]; done) | (simp [intOf]; omega)
      · obtain rfl : k = s.size := by omega
        have HI : Hid (CutI c s.data.toList (s.size + 1) (s.size + 1) (P ++ [(s.data.toList.drop f).take (s.size - f)])) := hidT (cutI_end hI.out)
        clear hI
        go_wp2_with (first | (at_builtin; refine wpList_append_own _ rfl _ _ 57 rfl w.heap.size 9 i0 (.string ⟨#[]⟩) 1 16 Tryz.underlying57 hi hz0 hz1 hz2 rfl (by decide) _ _ _ rfl (hrow.alloc _) ⟨wr.heap.size, 0, none⟩ 1 1 [.string p] rfl rfl (cell_one_new _ _ _) (by simp [Value.oneCell']) hk1 hk2 hbs ?_; intro v' w1 hown' hgrow' _; obtain ⟨g', cap', rfl⟩ := ownsRow_succ hown'))
        go_roundw
        case rel => exact ⟨s.size + 1, s.size + 1, _, by omega, by simp; omega, by go_num, by go_num, HI, by have := HP.out; subst this; simpa [tcells] using hown', ⟨g', cap', by simp⟩, (hbel.trans (((Below.refl _ wr).alloc (Nat.le_refl _) _).mono hsz)).grown hgrow' hbs (fun j ej => (hrow.lt j ej).1)⟩
        case measure => first | (simp [intOf]; done) | (simp [intOf]; omega)
    · obtain rfl : k = s.size + 1 := by omega
      have HD := hidT (cutI_done hI.out (by omega))
      clear hI
      go_wp2
      go_ret
      exact ⟨_, rfl, by rw [HD.out]; exact hrow, hbel⟩
end Go.Proofs.YtdjonplcgmfmgaaGreatDoor
