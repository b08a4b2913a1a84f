/- A cache that something is put into, whose floor is raised, from which something is dropped: plain facts, for FnCache. -/
import Derived.Test.YtilbaiohcfhcaaaYj
namespace Go.Proofs.Ytilbaiohcfhcaaa
open Go.RowKit

theorem put_all {I F X G : List KD} {k p m : Int} {l : List (Int × Int)} {b : Bool} (h : okC I F = true) (hD : ansP I F k p m l = ((X, G), b)) :
    okC X G = true ∧ (∀ j, j < 24 → flr F j ≤ flr G j) ∧ (b = true → ansG X G k = some ([k, p, m], l)) ∧ (b = false → X = I ∧ G = F) := by
  cases hp : putB F k p m l with
  | false =>
    have e : ansP I F k p m l = ((I, F), false) := by simp [ansP, h, hp]
    rw [e] at hD
    simp only [Prod.mk.injEq] at hD
    obtain ⟨⟨rfl, rfl⟩, rfl⟩ := hD
    exact ⟨h, fun _ _ => Int.le_refl _, fun q => by (cases q), fun _ => ⟨rfl, rfl⟩⟩
  | true =>
    rw [ansP_yes h hp] at hD
    simp only [Prod.mk.injEq] at hD
    obtain ⟨⟨rfl, rfl⟩, rfl⟩ := hD
    have hok := okC_put h hp
    have hb := hp
    unfold putB at hb
    rw [Bool.and_eq_true] at hb
    have hk := itR_key hb.1
    have hle : flr F k.toNat ≤ p := by simpa using hb.2
    refine ⟨hok, fun j hj => ?_, fun _ => ?_, fun q => by cases q⟩
    · unfold putF
      rw [flr_put (by rw [(okC_iff.1 h).1]; omega)]
      split
      · rename_i e; rw [e]; exact hle
      · exact Int.le_refl _
    · unfold ansG
      rw [hok, if_pos rfl]
      unfold putI
      rw [List.take_succ_cons, List.find?_cons_of_pos (by simp [keyK])]
theorem floor_all {X G Y H : List KD} {key ver : Int} (h : okC X G = true) (hF : ansF X G key ver = (Y, H)) : okC Y H = true ∧ ∀ j, j < 24 → flr G j ≤ flr H j := by
  have hok := floor_ok (key := key) (ver := ver) h
  rw [hF] at hok
  refine ⟨hok, fun j hj => ?_⟩
  cases hr : raB G key ver with
  | false =>
    have e : ansF X G key ver = (X, G) := by simp [ansF, h, hr]
    rw [e] at hF
    obtain ⟨rfl, rfl⟩ := Prod.mk.inj hF
    exact Int.le_refl _
  | true =>
    have e : ansF X G key ver = (dropI key X, putF G key ver) := by simp [ansF, h, hr]
    rw [e] at hF
    obtain ⟨rfl, rfl⟩ := Prod.mk.inj hF
    unfold raB at hr
    rw [Bool.and_eq_true, Bool.and_eq_true] at hr
    have hk : 0 ≤ key ∧ key < 24 := by simpa [keyIn] using hr.1
    have hlt : flr G key.toNat < ver := by simpa using hr.2.1
    unfold putF
    rw [flr_put (by rw [(okC_iff.1 h).1]; omega)]
    split
    · rename_i e; rw [e]; omega
    · exact Int.le_refl _
theorem drop_all {Y H : List KD} (key : Int) (h : okC Y H = true) : ansD Y H key = (dropI key Y, H) ∧ okC (dropI key Y) H = true ∧ ansG (dropI key Y) H key = none := by
  refine ⟨by simp [ansD, h], okC_drop h key, ?_⟩
  unfold ansG
  rw [okC_drop h key, if_pos rfl, List.find?_eq_none]
  intro x hx
  simpa using (drop_key x hx).2
theorem get_ver {Y H : List KD} {j : Nat} {x : KD} (h : ansG Y H (j : Int) = some x) : verK x = flr H j := by
  obtain ⟨hok, hx, hk⟩ := get_some h
  have := (okC_mem hok x hx).2
  rw [hk, Int.toNat_natCast] at this
  exact this
theorem item_three {w : World} {v0 v1 : Value} {Y H : List KD} {key : Int} {x : KD} (h : RSCache w v0 v1 Y H) (ho : ansG Y H key = some x) : ∃ z0 z1 z2 zl, x = ([z0, z1, z2], zl) := by
  obtain ⟨_, hx, _⟩ := get_some ho
  obtain ⟨i, hi, rfl⟩ := List.getElem_of_mem hx
  obtain ⟨ao, cap, _, _, hc⟩ := h.h0
  obtain ⟨b, off, _, _, hcc⟩ := hc (by omega)
  have := (hcc i hi).len
  rw [List.getD_eq_getElem?_getD, List.getElem?_eq_getElem hi] at this
  exact kd_3k this
/-- What was got of a cache that something was put into: if that was taken, it is what was put. -/
def GotC (w0 : World) (b : Bool) (k p m : Int) (l : List (Int × Int)) (s1 s2 : Value) (wx : World) : Prop :=
  Below w0.heap.size w0 wx ∧ (b = true → s2 = .bool true ∧ ∃ (B : Nat) (ga : Option Addr) (gc : Nat), s1 = .pointer (some ⟨B, 0, none⟩) ∧ B < wx.heap.size ∧ wx.cell? ⟨B, 0, none⟩ = some (.int .i64 k) ∧ wx.cell? ⟨B, 1, none⟩ = some (.int .i64 p) ∧ wx.cell? ⟨B, 2, none⟩ = some (.int .i64 m) ∧ wx.cell? ⟨B, 3, none⟩ = some (.slice ga l.length gc) ∧ Rd wx (.slice ga l.length gc) l)
theorem GotC.yes {w0 w1 : World} {k p m : Int} {l : List (Int × Int)} {ga : Option Addr} {gc : Nat} (hb : Below w0.heap.size w0 w1) (hr : Rd w1 (.slice ga l.length gc) l) :
    GotC w0 true k p m l (.pointer (some ⟨w1.heap.size, 0, none⟩)) (.bool true) (w1.alloc (.cells #[.int .i64 k, .int .i64 p, .int .i64 m, .slice ga l.length gc] 31)) :=
  ⟨hb.alloc hb.size _, fun _ => ⟨rfl, _, ga, gc, rfl, by simp, by go_cell, by go_cell, by go_cell, by go_cell, hr.later ((Below.refl _ w1).alloc (Nat.le_refl _) _)⟩⟩
theorem GotC.no {w0 wx : World} {k p m : Int} {l : List (Int × Int)} {s1 s2 : Value} (hb : Below w0.heap.size w0 wx) : GotC w0 false k p m l s1 s2 wx := ⟨hb, fun h => by cases h⟩
end Go.Proofs.Ytilbaiohcfhcaaa
