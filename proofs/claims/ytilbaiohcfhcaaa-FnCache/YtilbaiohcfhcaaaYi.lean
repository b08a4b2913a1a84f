/- What the program's three make of a cache, as readings; what is ok stays so: plain facts. -/
import Derived.Test.YtilbaiohcfhcaaaXs
import Derived.Test.YtilbaiohcfhcaaaXz
import Derived.Test.YtilbaiohcfhcaaaGrH
namespace Go.Proofs.Ytilbaiohcfhcaaa
open Go.RowKit

theorem okC_of {I F : List KD} (h1 : F.length = 24) (h2 : I.length ≤ 4) (h3 : ∀ j, j < 24 → verR (flr F j) = true) (h4 : ∀ x ∈ I, rightK x = true ∧ verK x = flr F (keyK x).toNat) (h5 : I.Pairwise (fun a b => keyK a ≠ keyK b)) : okC I F = true := by
  refine okC_iff.2 ⟨h1, h2, h3, fun i hi => ?_⟩
  have hx := h4 (I.getD i kd0) (by rw [getD_at hi]; exact List.getElem_mem hi)
  refine ⟨hx.1, hx.2, fun k hk => ?_⟩
  rw [getD_at hi, getD_at (by omega)]
  exact List.pairwise_iff_getElem.1 h5 k i (by omega) hi hk
theorem okC_mem {I F : List KD} (h : okC I F = true) : ∀ x ∈ I, rightK x = true ∧ verK x = flr F (keyK x).toNat := fun x hx => by
  obtain ⟨i, hi, rfl⟩ := List.getElem_of_mem hx
  have := (okC_iff.1 h).2.2.2 i hi
  have h1 := this.1
  have h2 := this.2.1
  rw [getD_at hi] at h1 h2
  exact ⟨h1, h2⟩
theorem flr_put {F : List KD} {k : Nat} (hk : k < F.length) (v : Int) (j : Nat) : flr (F.set k ([v], [])) j = if j = k then v else flr F j := by
  unfold flr
  rw [kd_getD_set hk]
  split <;> rfl
theorem drop_key {I : List KD} {k : Int} : ∀ x ∈ dropI k I, x ∈ I ∧ keyK x ≠ k := fun x hx => by
  have := List.mem_filter.1 hx
  exact ⟨this.1, by simpa [isKey] using this.2⟩
theorem toNat_ne {a b : Int} (ha : 0 ≤ a) (hb : 0 ≤ b) (h : a ≠ b) : a.toNat ≠ b.toNat := by omega
theorem okC_drop {I F : List KD} (h : okC I F = true) (k : Int) : okC (dropI k I) F = true := by
  have h0 := okC_iff.1 h
  exact okC_of h0.1 (Nat.le_trans (List.length_filter_le _ _) h0.2.1) h0.2.2.1 (fun x hx => okC_mem h x (drop_key x hx).1) ((okC_pairs h).sublist List.filter_sublist)
theorem okC_put {I F : List KD} (h : okC I F = true) {k v n : Int} {l : List (Int × Int)} (hp : putB F k v n l = true) : okC (putI k v n l I) (putF F k v) = true := by
  have h0 := okC_iff.1 h
  have hb := hp
  unfold putB at hb
  rw [Bool.and_eq_true] at hb
  have hk := itR_key hb.1
  have hkl : k.toNat < F.length := by rw [h0.1]; omega
  have hvr : verR v = true := by
    have := hb.1
    unfold itR at this
    rw [Bool.and_eq_true] at this
    exact this.1
  refine okC_of (by unfold putF; rw [List.length_set]; exact h0.1) (by unfold putI; rw [List.length_take]; omega) (fun j hj => ?_) (fun x hx => ?_) ?_
  · unfold putF
    rw [flr_put hkl]
    split
    · exact hvr
    · exact h0.2.2.1 j hj
  · have hm := List.mem_of_mem_take hx
    unfold putF
    rw [flr_put hkl]
    rcases List.mem_cons.1 hm with rfl | hm
    · exact ⟨hb.1, by rw [if_pos (show (keyK ([k, v, n], l)).toNat = k.toNat from rfl)]; rfl⟩
    · have hd := drop_key x hm
      have hr := okC_mem h x hd.1
      have hkx := rightK_key hr.1
      rw [if_neg (toNat_ne hkx.1 hk.1 hd.2)]
      exact hr
  · unfold putI
    refine List.Pairwise.sublist (List.take_sublist _ _) (List.pairwise_cons.2 ⟨fun x hx e => (drop_key x hx).2 (show keyK x = k from e.symm), (okC_pairs h).sublist List.filter_sublist⟩)
theorem okC_raise {I F : List KD} (h : okC I F = true) {k v : Int} (hr : raB F k v = true) : okC (dropI k I) (putF F k v) = true := by
  have h0 := okC_iff.1 h
  unfold raB at hr
  rw [Bool.and_eq_true, Bool.and_eq_true] at hr
  have hk : 0 ≤ k ∧ k < 24 := by simpa [keyIn] using hr.1
  have hkl : k.toNat < F.length := by rw [h0.1]; omega
  have hlt : flr F k.toNat < v := by simpa using hr.2.1
  have hv : v ≤ 60 := by simpa using hr.2.2
  have hf := verR_iff.1 (h0.2.2.1 k.toNat (by omega))
  refine okC_of (by unfold putF; rw [List.length_set]; exact h0.1) (Nat.le_trans (List.length_filter_le _ _) h0.2.1) (fun j hj => ?_) (fun x hx => ?_) ((okC_pairs h).sublist List.filter_sublist)
  · unfold putF
    rw [flr_put hkl]
    split
    · exact verR_iff.2 (by omega)
    · exact h0.2.2.1 j hj
  · have hd := drop_key x hx
    have hx' := okC_mem h x hd.1
    have hkx := rightK_key hx'.1
    unfold putF
    rw [flr_put hkl, if_neg (toNat_ne hkx.1 hk.1 hd.2)]
    exact hx'
theorem okC_zero : okC [] zeroF = true := by decide
/-- The program's own three, as readings. -/
def PrR (w : World) (I F : List KD) (e : Ending) : Prop := ∃ (o0 o1 : Option Addr) (c0 c1 : Nat), e = .returned (.agg #[.slice o0 I.length c0, .slice o1 F.length c1]) ∧ RSCache w (.slice o0 I.length c0) (.slice o1 F.length c1) I F
theorem EndC.read {B : Nat} {w : World} {I F : List KD} {e : Ending} (h : EndC B w I F e) : PrR w I F e := by
  obtain ⟨v0, hv⟩ : ∃ r, e = .returned r := by
    obtain ⟨a, c, fv, g, he, _⟩ := h
    exact ⟨_, he⟩
  subst hv
  obtain ⟨x0, x1, rfl, hap⟩ := h.apart
  obtain ⟨o0, o1, c0, c1, rfl, rfl⟩ := hap.self.open
  exact ⟨o0, o1, c0, c1, rfl, hap.self⟩
theorem implCDrop_rd (v0 v1 : Value) (I F : List KD) (key : Int) (w : World) (h : RSCache w v0 v1 I F) {D : List KD × List KD} (hD : ansD I F key = D) :
    Calls Try.prog 14 #[.agg #[v0, v1], .int .i64 key] w fun e w' => PrR w' D.1 D.2 e ∧ Below w.heap.size w w' :=
  (implCDrop_any v0 v1 I F key w h.h0 h.h1 hD).mono fun _ _ h => ⟨h.1.read, h.2⟩
theorem implCFloor_rd (v0 v1 : Value) (I F : List KD) (key ver : Int) (w : World) (h : RSCache w v0 v1 I F) {D : List KD × List KD} (hD : ansF I F key ver = D) :
    Calls Try.prog 13 #[.agg #[v0, v1], .int .i64 key, .int .i64 ver] w fun e w' => PrR w' D.1 D.2 e ∧ Below w.heap.size w w' :=
  (implCFloor_any v0 v1 I F key ver w h.h0 h.h1 hD).mono fun _ _ h => ⟨h.1.read, h.2⟩
def PrP (w : World) (I F : List KD) (b : Bool) (e : Ending) : Prop := ∃ (o0 o1 : Option Addr) (c0 c1 : Nat), e = .returned (.tuple #[.agg #[.slice o0 I.length c0, .slice o1 F.length c1], .bool b]) ∧ RSCache w (.slice o0 I.length c0) (.slice o1 F.length c1) I F
theorem implCPut_rd (v0 v1 : Value) (I F : List KD) (k v n : Int) (u : Value) (l : List (Int × Int)) (w : World) (h : RSCache w v0 v1 I F) (hu : Rd w u l) {D : (List KD × List KD) × Bool} (hD : ansP I F k v n l = D) :
    Calls Try.prog 5 #[.agg #[v0, v1], .agg #[.int .i64 k, .int .i64 v, .int .i64 n, u]] w fun e w' => PrP w' D.1.1 D.1.2 D.2 e ∧ Below w.heap.size w w' :=
  (implCPut_any v0 v1 I F k v n u l w h.h0 h.h1 hu hD).mono fun _ _ ⟨⟨r, he, hr⟩, hb⟩ => by
    obtain ⟨o0, o1, c0, c1, h1, h2⟩ := hr.read
    injection h1 with h1
    subst h1
    exact ⟨⟨o0, o1, c0, c1, he, h2⟩, hb⟩
theorem specCPut_rd (v0 v1 : Value) (I F : List KD) (k v n : Int) (u : Value) (l : List (Int × Int)) (w : World) (h : RSCache w v0 v1 I F) (hu : Rd w u l) {D : (List KD × List KD) × Bool} (hD : ansP I F k v n l = D) :
    Calls Try.prog 6 #[.agg #[v0, v1], .agg #[.int .i64 k, .int .i64 v, .int .i64 n, u]] w fun e w' => PrP w' D.1.1 D.1.2 D.2 e ∧ Below w.heap.size w w' :=
  (specCPut_any v0 v1 I F k v n u l w h.h0 h.h1 hu hD).mono fun _ _ ⟨⟨x0, x1, he, hap⟩, hb⟩ => by
    obtain ⟨o0, o1, c0, c1, rfl, rfl⟩ := hap.self.open
    exact ⟨⟨o0, o1, c0, c1, he, hap.self⟩, hb⟩
theorem csame_is {a0 a1 b0 b1 : Value} {A0 A1 : List KD} {w : World} (ha : RSCache w a0 a1 A0 A1) (hb : RSCache w b0 b1 A0 A1) :
    Calls Try.prog 7 #[.agg #[a0, a1], .agg #[b0, b1]] w fun e w' => e = .returned (.bool true) ∧ Below w.heap.size w w' := by
  have := implCSame_any a0 a1 b0 b1 A0 A1 A0 A1 w ha.h0 ha.h1 hb.h0 hb.h1
  rw [eqM_refl, eqM_refl] at this
  exact this
theorem ansP_true {I F X G : List KD} {k p n : Int} {l : List (Int × Int)} (h : ansP I F k p n l = ((X, G), true)) : okC I F = true ∧ putB F k p n l = true ∧ X = putI k p n l I ∧ G = putF F k p := by
  unfold ansP at h
  split at h
  · rename_i hok
    split at h
    · rename_i hp
      simp only [Prod.mk.injEq, and_true] at h
      exact ⟨hok, hp, h.1.symm, h.2.symm⟩
    · simp at h
  · simp at h
theorem ansP_yes {I F : List KD} {k p n : Int} {l : List (Int × Int)} (h : okC I F = true) (hp : putB F k p n l = true) : ansP I F k p n l = ((putI k p n l I, putF F k p), true) := by simp [ansP, h, hp]
theorem drop_put {I : List KD} {k p n : Int} {l : List (Int × Int)} : dropI k (putI k p n l I) = (dropI k I).take 3 := by
  unfold putI
  rw [List.take_succ_cons, dropI, List.filter_cons_of_neg (by simp [isKey, keyK])]
  exact List.filter_eq_self.2 (fun x hx => by
    have := (drop_key x (List.mem_of_mem_take hx)).2
    simp [isKey, this])
theorem drop_drop {I : List KD} {k : Int} : dropI k (dropI k I) = dropI k I := List.filter_eq_self.2 (fun x hx => by
  have := (drop_key x hx).2
  simp [isKey, this])
theorem put_drop {I : List KD} {k p n : Int} {l : List (Int × Int)} : putI k p n l (dropI k I) = putI k p n l I := by unfold putI; rw [drop_drop]
theorem put_put {I : List KD} {k p n : Int} {l : List (Int × Int)} : putI k p n l (putI k p n l I) = putI k p n l I := by
  show (([k, p, n], l) :: dropI k (putI k p n l I)).take 4 = _
  rw [drop_put]
  unfold putI
  rw [List.take_succ_cons, List.take_succ_cons, List.take_take, Nat.min_self]
theorem putF_twice {F : List KD} {k p : Int} : putF (putF F k p) k p = putF F k p := by simp [putF]
theorem putB_again {F : List KD} {k p n : Int} {l : List (Int × Int)} (hF : F.length = 24) (h : putB F k p n l = true) : putB (putF F k p) k p n l = true := by
  have h0 := h
  unfold putB at h ⊢
  rw [Bool.and_eq_true] at h ⊢
  have hk := itR_key h.1
  refine ⟨h.1, ?_⟩
  unfold putF
  rw [flr_put (by rw [hF]; omega), if_pos rfl]
  simp
/-- What is put twice is put once; what is dropped and put again is as it was. -/
theorem twice_all {I F X G : List KD} {k p n : Int} {l : List (Int × Int)} (h : ansP I F k p n l = ((X, G), true)) :
    ansP X G k p n l = ((X, G), true) ∧ ansD X G k = (dropI k X, G) ∧ ansP (dropI k X) G k p n l = ((X, G), true) ∧ ansG (dropI k X) G k = none ∧ 0 < X.length ∧ keyK (X.getD 0 kd0) = k := by
  obtain ⟨hok, hp, rfl, rfl⟩ := ansP_true h
  have hok2 := okC_put hok hp
  have hp2 := putB_again (okC_iff.1 hok).1 hp
  refine ⟨?_, by simp [ansD, hok2], ?_, ?_, by simp [putI], by simp [putI, keyK]⟩
  · rw [ansP_yes hok2 hp2, put_put, putF_twice]
  · rw [ansP_yes (okC_drop hok2 k) hp2, put_drop, put_put, putF_twice]
  · unfold ansG
    rw [okC_drop hok2 k, if_pos rfl, List.find?_eq_none]
    intro x hx
    have := (drop_key x hx).2
    simpa using this
end Go.Proofs.Ytilbaiohcfhcaaa
