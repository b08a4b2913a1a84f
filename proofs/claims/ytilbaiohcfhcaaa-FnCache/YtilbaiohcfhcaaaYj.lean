/- What is got, floors that are raised: plain facts; ValSame of what is one. -/
import Derived.Test.YtilbaiohcfhcaaaYi
import Derived.Test.YtilbaiohcfhcaaaXo
import Derived.Test.YtilbaiohcfhcaaaGrB
namespace Go.Proofs.Ytilbaiohcfhcaaa
open Go.RowKit

theorem get_some {I F : List KD} {key : Int} {x : KD} (h : ansG I F key = some x) : okC I F = true ∧ x ∈ I ∧ keyK x = key := by
  unfold ansG at h
  split at h
  · rename_i hok
    exact ⟨hok, List.mem_of_find?_eq_some h, by simpa using List.find?_some h⟩
  · cases h
theorem drop_len {I : List KD} {x : KD} (h : I.Pairwise (fun a b => keyK a ≠ keyK b)) (hx : x ∈ I) : (dropI (keyK x) I).length + 1 = I.length := by
  rw [← erase_filter _ _ h, List.length_eraseP_of_mem hx (by simp [isKey])]
  have := List.length_pos_of_mem hx
  omega
theorem get_drop {I F : List KD} {key : Int} (h : okC (dropI key I) F = true) : ansG (dropI key I) F key = none := by
  unfold ansG
  rw [h, if_pos rfl, List.find?_eq_none]
  intro y hy
  have := (drop_key y hy).2
  simpa using this
theorem verK_right {x : KD} (h : rightK x = true) : 0 ≤ verK x ∧ verK x ≤ 60 := by
  unfold rightK itR at h
  rw [Bool.and_eq_true] at h
  exact verR_iff.1 h.1
/-- Behind a floor that is above what is got. -/
theorem get_all {I F : List KD} {key : Int} {x : KD} (h : ansG I F key = some x) (h60 : verK x ≠ 60) (n : Int) (l : List (Int × Int)) : ∃ G, ansF I F key (verK x + 1) = (dropI key I, G) ∧ ansG (dropI key I) G key = none ∧ ansP (dropI key I) G key (verK x) n l = ((dropI key I, G), false) ∧ (dropI key I).length + 1 = I.length := by
  obtain ⟨hok, hx, rfl⟩ := get_some h
  have hm := okC_mem hok x hx
  have hv := verK_right hm.1
  have hk := rightK_key hm.1
  have hr : raB F (keyK x) (verK x + 1) = true := by
    unfold raB
    rw [← hm.2]
    simp [keyIn]
    omega
  have hok2 := okC_raise hok hr
  have hkl : (keyK x).toNat < F.length := by rw [(okC_iff.1 hok).1]; omega
  refine ⟨putF F (keyK x) (verK x + 1), by simp [ansF, hok, hr], get_drop hok2, ?_, drop_len (okC_pairs hok) hx⟩
  have hp : putB (putF F (keyK x) (verK x + 1)) (keyK x) (verK x) n l = false := by
    unfold putB putF
    rw [flr_put hkl, if_pos rfl]
    simp
    intro _
    omega
  simp [ansP, hok2, hp]
theorem vsame_is {n : Int} {va vb : Value} {l : List (Int × Int)} {w : World} (ha : Rd w va l) (hb : Rd w vb l) :
    Calls Try.prog 11 #[.agg #[.int .i64 n, va], .agg #[.int .i64 n, vb]] w fun e w' => e = .returned (.bool true) ∧ Below w.heap.size w w' := by
  have := implVSame_any n n va vb l l w ha hb
  rw [eqV_refl] at this
  exact this
/-- The cells of an item of a list. -/
theorem item_cells {w : World} {b off n c : Nat} {I : List KD} (h : RdM 4 3 true w (.slice (some ⟨b, off, none⟩) n c) I) (k : Nat) (hk : k < I.length) : ∃ (x0 x1 x2 : Int) (u : Value) (l : List (Int × Int)), I.getD k kd0 = ([x0, x1, x2], l) ∧ w.cell? ⟨b, off + k * 4, none⟩ = some (.int .i64 x0) ∧ w.cell? ⟨b, off + k * 4 + 1, none⟩ = some (.int .i64 x1) ∧ w.cell? ⟨b, off + k * 4 + 2, none⟩ = some (.int .i64 x2) ∧ w.cell? ⟨b, off + k * 4 + 3, none⟩ = some u ∧ Rd w u l ∧ b < w.heap.size := by
  obtain ⟨ao, cap, hv, _, hc⟩ := h
  injection hv with h1 _ _
  obtain ⟨b', o', ha, hb, hcc⟩ := hc (by omega)
  rw [← h1] at ha
  injection ha with ha
  injection ha with hb' ho _
  subst hb' ho
  obtain ⟨x0, x1, x2, l, u, hx, c0, c1, c2, c3, hu⟩ := atK_3k (hcc k hk)
  exact ⟨x0, x1, x2, u, l, hx, c0, c1, c2, c3, hu, hb⟩
theorem item_nil {w : World} {ao : Option Addr} {n c : Nat} {I : List KD} (h : RdM 4 3 true w (.slice ao n c) I) (h0 : 0 < I.length) : ∃ b off, ao = some ⟨b, off, none⟩ := by
  obtain ⟨ao', cap, hv, _, hc⟩ := h
  injection hv with h1 _ _
  obtain ⟨b', o', ha, _⟩ := hc h0
  exact ⟨b', o', h1.trans ha⟩
/-- What is left as it is, of what is ok. -/
theorem floor_ok {I F : List KD} {key ver : Int} (h : okC I F = true) : okC (ansF I F key ver).1 (ansF I F key ver).2 = true := by
  unfold ansF
  rw [if_pos h]
  cases hr : raB F key ver with
  | false => exact h
  | true => exact okC_raise h hr
theorem floor_again {I F : List KD} {key ver : Int} (h : okC I F = true) : ansF (ansF I F key ver).1 (ansF I F key ver).2 key ver = ansF I F key ver := by
  have hk := floor_ok (key := key) (ver := ver) h
  cases hr : raB F key ver with
  | false =>
    have e : ansF I F key ver = (I, F) := by simp [ansF, h, hr]
    rw [e]
    exact e
  | true =>
    have e : ansF I F key ver = (dropI key I, putF F key ver) := by simp [ansF, h, hr]
    rw [e] at hk ⊢
    have hr2 : raB (putF F key ver) key ver = false := by
      have h1 := hr
      unfold raB at h1
      rw [Bool.and_eq_true, Bool.and_eq_true] at h1
      have hkk : 0 ≤ key ∧ key < 24 := by simpa [keyIn] using h1.1
      unfold raB putF
      rw [flr_put (by rw [(okC_iff.1 h).1]; omega), if_pos rfl]
      simp
    simp [ansF, hk, hr2]
theorem floor_flr {I F : List KD} {kk : Nat} {ver : Int} (h : okC I F = true) (hk : kk < 24) : ver > 60 ∨ ver ≤ flr (ansF I F (kk : Int) ver).2 kk := by
  have hki : keyIn (kk : Int) = true := by simp [keyIn]; omega
  cases hr : raB F (kk : Int) ver with
  | false =>
    have e : ansF I F (kk : Int) ver = (I, F) := by simp [ansF, h, hr]
    rw [e]
    simp [raB, hki] at hr
    show ver > 60 ∨ ver ≤ flr F kk
    omega
  | true =>
    have e : ansF I F (kk : Int) ver = (dropI (kk : Int) I, putF F (kk : Int) ver) := by simp [ansF, h, hr]
    rw [e]
    refine .inr ?_
    unfold putF
    rw [Int.toNat_natCast, flr_put (by rw [(okC_iff.1 h).1]; exact hk), if_pos rfl]
    exact Int.le_refl _
theorem okV_none {k : Int} (h : keyIn k = true) : okV k 0 [] = true := by
  have hk : 0 ≤ k ∧ k < 24 := by simpa [keyIn] using h
  unfold okV
  rw [if_pos hk]
  split
  · simp
  · simp only [beq_self_eq_true, Bool.true_and]
    rfl
/-- An item of nothing is put just if it is not older than the floor. -/
theorem put_none {X G : List KD} {kk : Nat} (h : okC X G = true) (hk : kk < 24) : ansP X G (kk : Int) (flr G kk - 1) 0 [] = ((X, G), false) ∧ ansP X G (kk : Int) (flr G kk) 0 [] = ((putI (kk : Int) (flr G kk) 0 [] X, putF G (kk : Int) (flr G kk)), true) ∧ ansG (putI (kk : Int) (flr G kk) 0 [] X) (putF G (kk : Int) (flr G kk)) (kk : Int) = some ([(kk : Int), flr G kk, 0], []) ∧ 0 ≤ flr G kk ∧ flr G kk ≤ 60 ∧ kk < G.length := by
  have hki : keyIn (kk : Int) = true := by simp [keyIn]; omega
  have hv := verR_iff.1 ((okC_iff.1 h).2.2.1 kk hk)
  have hp : putB G (kk : Int) (flr G kk) 0 [] = true := by
    unfold putB itR
    rw [okV_none hki, verR_iff.2 hv, Int.toNat_natCast]
    simp
  refine ⟨?_, ansP_yes h hp, ?_, hv.1, hv.2, by rw [(okC_iff.1 h).1]; exact hk⟩
  · have hp2 : putB G (kk : Int) (flr G kk - 1) 0 [] = false := by
      unfold putB
      rw [Int.toNat_natCast]
      simp
      intro _
      omega
    simp [ansP, h, hp2]
  · unfold ansG
    rw [okC_put h hp, if_pos rfl]
    unfold putI
    rw [List.take_succ_cons, List.find?_cons_of_pos (by simp [keyK])]
theorem floor_out {I F : List KD} {key ver : Int} (h : okC I F = true) (hk : keyIn key = false) : ansF I F key ver = (I, F) := by simp [ansF, h, raB, hk]
theorem implGet_no (v0 v1 : Value) (I F : List KD) (key : Int) (w : World) (h : RSCache w v0 v1 I F) (ho : ansG I F key = none) :
    Calls Try.prog 10 #[.agg #[v0, v1], .int .i64 key] w fun e w' => (∃ (a : Option Addr) (c : Nat), e = .returned (.tuple #[.agg #[.int .i64 0, .int .i64 0, .int .i64 0, .slice a 0 c], .bool false])) ∧ Below w.heap.size w w' :=
  (implGet_any v0 v1 I F key w h.h0 h.h1 ho).mono fun _ _ ⟨⟨a, c, he, _⟩, hb⟩ => ⟨⟨a, c, he⟩, hb⟩
theorem implGet_yes (v0 v1 : Value) (I F : List KD) (key : Int) (w : World) {x0 x1 x2 : Int} {l : List (Int × Int)} (h : RSCache w v0 v1 I F) (ho : ansG I F key = some ([x0, x1, x2], l)) :
    Calls Try.prog 10 #[.agg #[v0, v1], .int .i64 key] w fun e w' => (∃ (a : Option Addr) (c : Nat), e = .returned (.tuple #[.agg #[.int .i64 x0, .int .i64 x1, .int .i64 x2, .slice a l.length c], .bool true]) ∧ Rd w' (.slice a l.length c) l) ∧ Below w.heap.size w w' :=
  (implGet_any v0 v1 I F key w h.h0 h.h1 ho).mono fun _ _ ⟨⟨a, c, he, hu⟩, hb⟩ => ⟨⟨a, c, he, hu.rd⟩, hb⟩
end Go.Proofs.Ytilbaiohcfhcaaa
