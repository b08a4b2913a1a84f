/- What a tier told of a key: the specification's ToldOf, ToldLast, ToldRises: contracts. -/
import Derived.Test.YtnnhpnhnddibjaaJb
import Derived.Test.YtnnhpnhnddibjaaGrA
import Derived.Test.YtnnhpnhnddibjaaAps
import Derived.Maps.AppendAt
import Derived.OwnWalk
import Derived.Deep.Cut
import Derived.BigQuiet
namespace Go.Proofs.Ytnnhpnhnddibjaa
open Go.RowKit
attribute [local go_sem ↓] Go.wp_at_zero Go.wp_at_succ

/-- A row of numbers that is owned. -/
def ints (ns : List Int) : List Value := ns.map (Value.int .i64)
theorem ints_length (ns : List Int) : (ints ns).length = ns.length := by simp [ints]
def OwnI (w : World) (B : Nat) (v : Value) (ns : List Int) : Prop := w.ownsRow B 3 1 v ns.length (ints ns)
theorem OwnI.block {w : World} {B : Nat} {v : Value} {ns : List Int} (h : OwnI w B v ns) : ∀ k, v.ownBlock = some k → B ≤ k ∧ k < w.heap.size := World.ownsRow.lt h
theorem OwnI.agree {w w' : World} {B : Nat} {v : Value} {ns : List Int} (h : OwnI w B v ns) (hs : ∀ k, v.ownBlock = some k → w'.heap[k]? = w.heap[k]?) : OwnI w' B v ns := row_agree h hs
theorem OwnI.later {w w' : World} {B : Nat} {v : Value} {ns : List Int} (h : OwnI w B v ns) (hb : Below w.heap.size w w') : OwnI w' B v ns := h.agree fun k hk => hb.block k (h.block k hk).2
/-- The numbers as elements. -/
def kdI (ns : List Int) : List KD := ns.map fun n => ([n], [])
theorem kdI_length (ns : List Int) : (kdI ns).length = ns.length := by simp [kdI]
theorem kdI_get (ns : List Int) (i : Nat) (h : i < ns.length) : (kdI ns).getD i kd0 = ([ns.getD i 0], []) := by simp [kdI, h]
theorem OwnI.ownM {w : World} {B : Nat} {v : Value} {ns : List Int} (h : OwnI w B v ns) : OwnM 3 1 1 false w (Span B w.heap.size) v (kdI ns) := by
  refine ⟨ints ns, fun _ => .bool false, by rw [kdI_length]; exact row_mono0 h, fun g hg => h.block g hg, ?_⟩
  rw [kdI_length]
  refine ⟨fun i hi => by rw [kdI_get ns i hi]; rfl, fun i hi j hj => ?_, (fun q => by cases q), fun _ i hi => by rw [kdI_get ns i hi], (fun q => by cases q)⟩
  obtain rfl : j = 0 := by omega
  rw [kdI_get ns i hi]
  simp [ints, hi]
theorem kdI_inj {a b : List Int} (h : kdI a = kdI b) : a = b := by
  have := congrArg (List.map fun x : KD => x.1.getD 0 0) h
  simpa [kdI, Function.comp_def] using this

/-- Whose it is, of which key, and which Ver. -/
def tT (x : KD) : Int := x.1.getD 0 0
def tK (x : KD) : Int := x.1.getD 1 0
def tV (x : KD) : Int := x.1.getD 2 0
/-- All Vers of a key that a tier told. -/
def toldOf (L : List KD) (t k : Int) : List Int := (L.filter fun x => decide (tT x = t ∧ tK x = k)).map tV
def maxOf (ns : List Int) : Int := ns.foldl (fun a b => if a > b then a else b) 0
def toldLast (L : List KD) (t k : Int) : Int := maxOf (toldOf L t k)
theorem toldOf_le (L : List KD) (t k : Int) : (toldOf L t k).length ≤ L.length := by
  simp only [toldOf, List.length_map]
  exact List.length_filter_le _ _
theorem toldOf_step (L : List KD) (t k : Int) (j : Nat) (h : j < L.length) :
    toldOf (L.take (j + 1)) t k = if tT (L.getD j kd0) = t ∧ tK (L.getD j kd0) = k then toldOf (L.take j) t k ++ [tV (L.getD j kd0)] else toldOf (L.take j) t k := by
  have e : L.getD j kd0 = L[j] := by simp [List.getD_eq_getElem?_getD, h]
  rw [e, toldOf, toldOf, List.take_succ_eq_append_getElem h, List.filter_append, List.map_append]
  by_cases hc : tT L[j] = t ∧ tK L[j] = k
  · simp [hc]
  · simp [hc]
theorem maxOf_step (ns : List Int) (j : Nat) (h : j < ns.length) : maxOf (ns.take (j + 1)) = if maxOf (ns.take j) > ns.getD j 0 then maxOf (ns.take j) else ns.getD j 0 := by
  have e : ns.getD j 0 = ns[j] := by simp [List.getD_eq_getElem?_getD, h]
  rw [e, maxOf, maxOf, List.take_succ_eq_append_getElem h, List.foldl_append]
  rfl
/-- Nobody was told what is older than what its tier told ahead. -/
def rises (L : List KD) : Bool := (List.range L.length).all fun i => decide (toldLast (L.take i) (tT (L.getD i kd0)) (tK (L.getD i kd0)) ≤ tV (L.getD i kd0))
def risesTo (L : List KD) (n : Nat) : Prop := ∀ i, i < n → toldLast (L.take i) (tT (L.getD i kd0)) (tK (L.getD i kd0)) ≤ tV (L.getD i kd0)
theorem rises_yes {L : List KD} (h : risesTo L L.length) : rises L = true := by
  simp only [rises, List.all_eq_true, List.mem_range, decide_eq_true_eq]
  exact h
theorem rises_no {L : List KD} {i : Nat} (hi : i < L.length) (h : tV (L.getD i kd0) < toldLast (L.take i) (tT (L.getD i kd0)) (tK (L.getD i kd0))) : rises L = false := by
  cases e : rises L with
  | false => rfl
  | true =>
    simp only [rises, List.all_eq_true, List.mem_range, decide_eq_true_eq] at e
    have := e i hi
    omega

theorem Try.infoInt_T : (Try.prog.info? 3).map (fun i => (i.zero, i.size, i.bytes)) = some (some (.int .i64 0), 1, 8) := by kernel_rfl
set_option maxRecDepth 100000 in
set_option maxHeartbeats 4000000 in
theorem specToldOf_any (v : Value) (L : List KD) (t k : Int) (w : World) (h : RdT w v L) (hL : L.length ≤ 1048576) :
    Calls Try.prog 11 #[v, .int .i64 t, .int .i64 k] w fun e w' => ∃ v', e = .returned v' ∧ OwnI w' w.heap.size v' (toldOf L t k) ∧ Below w.heap.size w w' := by
  obtain ⟨ao, cap, rfl, _, hc⟩ := h
  obtain ⟨i0, hi, hz0, hz1, hz2⟩ := info_parts Try.infoInt_T
  go_enter Try.func11, Try.ntmps11
  go_wp2
  go_loopw [7, 8] (fun s i wr => ∃ (j : Nat) (ns : List Int) (vo : Value), j ≤ L.length ∧ i = .int .i64 j ∧ vo = s ∧ Hid (ns = toldOf (L.take j) t k) ∧ Hid (ns.length ≤ j) ∧ Hid (OwnI wr w.heap.size vo ns) ∧ Below w.heap.size w wr) (fun _ i _ => L.length - (intOf i).toNat)
  case atStart =>
    exact ⟨0, [], _, Nat.zero_le _, rfl, rfl, hid rfl, hid (Nat.le_refl _), hid (World.ownsRow_lit w #[] 0 (Nat.le_refl _) (Nat.zero_le _) rfl), (Below.refl _ w).alloc (Nat.le_refl _) _⟩
  case round =>
    obtain ⟨j, ns, vo, hj, rfl, rfl, hns, hnl, hown, hbel⟩ := hrel
    by_cases hlt : j < L.length
    · obtain ⟨b, o, rfl, hb, hcc⟩ := hc (by omega)
      obtain ⟨p0, p1, p2, p3, ux, bp, pc, lx, hx, c0, c1, c2, c3, c4, c5, c6, hux⟩ := (hcc j hlt).later hb hbel
      have hst := toldOf_step L t k j hlt
      rw [hx, ← hns.out] at hst
      have HST : Hid (toldOf (L.take (j + 1)) t k = if p0 = t ∧ p1 = k then ns ++ [p2] else ns) := hid hst
      have hsz := hbel.size
      clear hcc hc hux hx hst hns
      by_cases hm : p0 = t ∧ p1 = k
      · have HS2 : Hid (ns ++ [p2] = toldOf (L.take (j + 1)) t k) := hid (by rw [HST.out, if_pos hm])
        obtain ⟨rfl, rfl⟩ := hm
        clear HST
        have HR6 : Hid ((wr.alloc (.cells #[.int .i64 p2] 3)).ownsRow w.heap.size 3 1 vo ns.length (ints ns)) := hid (hown.out.alloc _)
        have HNW : Hid (∀ j u, [Value.int .i64 p2][j]? = some u → (wr.alloc (.cells #[.int .i64 p2] 3)).cell? ((⟨wr.heap.size, 0, none⟩ : Addr).add j) = some u) := hid (cell_one_new wr (.int .i64 p2) 3)
        have hk1 : ns.length + 1 ≤ maxLen := by have := hnl.out; unfold maxLen; omega
        have hk2 : (ns.length + 1) * 8 ≤ 140737488355328 := by have := hnl.out; omega
        have hbs : w.heap.size ≤ (wr.alloc (.cells #[.int .i64 p2] 3)).heap.size := by show w.heap.size ≤ (wr.alloc (.cells #[.int .i64 p2] 3)).heap.size; simp; omega
        go_wp2_with (first | (at_builtin; refine wpList_append_own _ rfl _ _ 29 rfl w.heap.size 3 i0 (.int .i64 0) 1 8 Try.underlying29 hi hz0 hz1 hz2 rfl (by decide) vo ns.length _ rfl HR6.out ⟨wr.heap.size, 0, none⟩ 1 1 [.int .i64 p2] rfl rfl HNW.out (by simp [Value.oneCell']) hk1 hk2 hbs ?_; intro v6 w6 hown6 hgrow6 _; have HO6 : Hid (OwnI w6 w.heap.size v6 (ns ++ [p2])) := hid (by unfold OwnI; simpa [ints] using hown6); have HB6 : Hid (Below w.heap.size w w6) := hid ((hbel.trans (((Below.refl _ wr).alloc (Nat.le_refl _) _).mono hsz)).trans (Below.of_grown hgrow6 hbs (fun q hq => (HR6.out.lt q hq).1))); clear hown6 hgrow6))
        go_roundw
        case rel => exact ⟨j + 1, ns ++ [p2], v6, by omega, by go_num, rfl, HS2, hid (by have := hnl.out; simp; omega), HO6, HB6.out⟩
        case measure => simp [intOf]; omega
      · have HS2 : Hid (ns = toldOf (L.take (j + 1)) t k) := hid (by rw [HST.out, if_neg hm])
        have hnl2 : Hid (ns.length ≤ j + 1) := hid (by have := hnl.out; omega)
        clear HST hnl
        by_cases h0 : p0 = t
        · subst h0
          have h1 : ¬ p1 = k := fun e => hm ⟨rfl, e⟩
          clear hm
          go_wp2
          go_roundw
          case rel => exact ⟨j + 1, ns, _, by omega, by go_num, rfl, HS2, hnl2, hown, hbel⟩
          case measure => simp [intOf]; omega
        · clear hm
          go_wp2
          go_roundw
          case rel => exact ⟨j + 1, ns, _, by omega, by go_num, rfl, HS2, hnl2, hown, hbel⟩
          case measure => simp [intOf]; omega
    · obtain rfl : j = L.length := by omega
      have HN : Hid (ns = toldOf L t k) := hid (by have := hns.out; rwa [List.take_length] at this)
      go_wp2
      go_ret
      exact ⟨_, rfl, by rw [← HN.out]; exact hown.out, hbel⟩

theorem RdT.take {w : World} {ao : Option Addr} {n cap : Nat} {L : List KD} (h : RdT w (.slice ao n cap) L) (j : Nat) (hj : j ≤ L.length) : RdT w (.slice ao j cap) (L.take j) := by
  obtain ⟨ao', cap', hv, hl, hc⟩ := h
  cases hv
  refine ⟨ao, cap, by rw [List.length_take, Nat.min_eq_left hj], by rw [List.length_take]; omega, fun h0 => ?_⟩
  rw [List.length_take] at h0
  obtain ⟨b, o, ha, hb, hcc⟩ := hc (by omega)
  refine ⟨b, o, ha, hb, fun i hi => ?_⟩
  rw [List.length_take] at hi
  have := hcc i (by omega)
  rwa [show (L.take j).getD i kd0 = L.getD i kd0 from by simp only [List.getD_eq_getElem?_getD, List.getElem?_take]; rw [if_pos (by omega)]]
theorem l1Max_any (a b : Int) (w : World) : Calls Try.prog 25 #[.int .i64 a, .int .i64 b] w fun e w' => e = .returned (.int .i64 (if a > b then a else b)) ∧ w' = w := by
  by_cases h : a > b
  · have hb : (decide (b < a)) = true := by simpa using h
    rw [if_pos h]
    go_enter Try.func25, Try.ntmps25
    go_wp2
    go_ret
    simp
  · rw [if_neg h]
    go_enter Try.func25, Try.ntmps25
    go_wp2
    go_ret
    simp

set_option maxRecDepth 100000 in
set_option maxHeartbeats 4000000 in
theorem specToldLast_any (v : Value) (L : List KD) (t k : Int) (w : World) (h : RdT w v L) (hL : L.length ≤ 1048576) :
    Calls Try.prog 17 #[v, .int .i64 t, .int .i64 k] w fun e w' => e = .returned (.int .i64 (toldLast L t k)) ∧ Below w.heap.size w w' := by
  have HR := hid h
  have HNL := hid (toldOf_le L t k)
  have HNS : Hid (toldLast L t k = maxOf (toldOf L t k)) := rfl
  obtain ⟨ao, cap, rfl, _, hc⟩ := h
  clear hc
  go_enter Try.func17, Try.ntmps17
  go_wp2_with fail
  refine (specToldOf_any _ L t k _ HR.out hL).mono ?_
  rintro e w2 ⟨v', rfl, ho, b2⟩
  generalize toldOf L t k = ns at *
  have HO := hid ho
  obtain ⟨va, vc, hv, hvl, hvc⟩ := ho.ownM.rd (by decide) (by decide)
  rw [kdI_length] at hv hvl hvc
  subst hv
  unfold maxLen at hvl
  clear ho
  go_wp2
  go_loopw [7, 9] (fun n i wr => ∃ (j : Nat) (m : Int), j ≤ ns.length ∧ i = .int .i64 j ∧ n = .int .i64 m ∧ Hid (m = maxOf (ns.take j)) ∧ Below w2.heap.size w2 wr) (fun _ i _ => ns.length - (intOf i).toNat)
  case atStart => exact ⟨0, 0, Nat.zero_le _, rfl, rfl, hid rfl, Below.refl _ _⟩
  case round =>
    obtain ⟨j, m, hj, rfl, rfl, hm, hbel⟩ := hrel
    by_cases hlt : j < ns.length
    · obtain ⟨b, o, rfl, hb, hcc⟩ := hvc (by omega)
      have hat := (hcc j hlt).later hb hbel
      rw [kdI_get ns j hlt] at hat
      have c0 := hat.num 0 (by decide)
      simp only [List.getD_cons_zero, Nat.mul_one, Nat.add_zero] at c0
      have HST := hid (maxOf_step ns j hlt)
      rw [← hm.out] at HST
      generalize ns.getD j 0 = x at *
      clear hcc hvc hat hm
      have hmx : Hid ((if m > x then m else x) = maxOf (ns.take (j + 1))) := hid HST.out.symm
      generalize hm2 : (if m > x then m else x) = m2 at *
      have r0 := cell_regrown c0
      have hcal : ∀ W : World, Calls Try.prog 25 #[.int .i64 m, .int .i64 x] W fun e w' => e = .returned (.int .i64 m2) ∧ w' = W := fun W => by
        have := l1Max_any m x W
        rwa [hm2] at this
      have hsz := hbel.size
      clear hm2 HST
      go_wp2_with (first | (go_at_call 25; refine (hcal _).mono ?_; rintro e w3 ⟨rfl, rfl⟩))
      go_roundw
      case rel => exact ⟨j + 1, m2, by omega, by go_num, rfl, hmx, by first | exact hbel | (exact hbel.drew) | go_grown⟩
      case measure => simp [intOf]; omega
    · obtain rfl : j = ns.length := by omega
      have HM : Hid (m = maxOf ns) := hid (by have := hm.out; rwa [List.take_length] at this)
      go_wp2
      go_ret
      exact ⟨by simp [HNS.out, HM.out], b2.trans (hbel.mono b2.size)⟩

set_option maxRecDepth 100000 in
set_option maxHeartbeats 4000000 in
theorem specToldRises_any (v : Value) (L : List KD) (F : Nat → Prop) (w : World) (h0 : OwnT w F v L) (hL : L.length ≤ 1048576) :
    Calls Try.prog 7 #[v] w fun e w' => e = .returned (.bool (rises L)) ∧ Below w.heap.size w w' := by
  have h := h0.rd
  have HR := hid h
  obtain ⟨ao, cap, rfl, hml, hc⟩ := h
  obtain ⟨hcap1, hcap2⟩ : L.length ≤ cap ∧ cap ≤ 9223372036854775807 := by
    obtain ⟨xs, us, h1⟩ := h0
    rcases h1.row.2 with ⟨hh, hn⟩ | ⟨_, _, _, hh, _, _, hnc, hcm, _⟩
    · simp only [Value.slice.injEq] at hh; omega
    · simp only [Value.slice.injEq] at hh; unfold maxLen at hcm; omega
  clear h0
  go_enter Try.func7, Try.ntmps7
  go_wp2
  go_loopw [3] (fun i wr => ∃ (j : Nat), j ≤ L.length ∧ i = .int .i64 j ∧ Hid (risesTo L j) ∧ Below w.heap.size w wr) (fun i _ => L.length - (intOf i).toNat)
  case atStart => exact ⟨0, Nat.zero_le _, rfl, hid (fun _ h => absurd h (Nat.not_lt_zero _)), Below.refl _ w⟩
  case round =>
    obtain ⟨j, hj, rfl, hrs, hbel⟩ := hrel
    by_cases hlt : j < L.length
    · have HRP : Hid (RdT wr (.slice ao j cap) (L.take j)) := hid (RdT.take (HR.out.later hbel) j (by omega))
      obtain ⟨b, o, rfl, hb, hcc⟩ := hc (by omega)
      obtain ⟨p0, p1, p2, p3, ux, bp, pc, lx, hx, c0, c1, c2, c3, c4, c5, c6, hux⟩ := (hcc j hlt).later hb hbel
      have hjc : (j : Int) ≤ (cap : Int) := by omega
      have hk : p2 < toldLast (L.take j) p0 p1 ∨ toldLast (L.take j) p0 p1 ≤ p2 := by omega
      have hYes : Hid (toldLast (L.take j) p0 p1 ≤ p2 → risesTo L (j + 1)) := hid (fun h i hi => by
        by_cases e : i = j
        · subst e
          rw [hx]
          exact h
        · exact hrs.out i (by omega))
      have hNo : Hid (p2 < toldLast (L.take j) p0 p1 → rises L = false) := hid (fun h => rises_no hlt (by rw [hx]; exact h))
      have HCAL : ∀ W : World, RdT W (.slice (some ⟨b, o, none⟩) j cap) (L.take j) → Calls Try.prog 17 #[.slice (some ⟨b, o, none⟩) j cap, .int .i64 p0, .int .i64 p1] W fun e w' => e = .returned (.int .i64 (toldLast (L.take j) p0 p1)) ∧ Below W.heap.size W w' :=
        fun W hW => specToldLast_any _ (L.take j) p0 p1 W hW (by rw [List.length_take]; omega)
      generalize toldLast (L.take j) p0 p1 = m at *
      have hsz := hbel.size
      have r0 := cell_regrown c0
      have r1 := cell_regrown c1
      have r2 := cell_regrown c2
      clear hcc hc hux hx hrs
      rcases hk with hk | hk
      · have HN := hid (hNo.out hk)
        clear hNo hYes
        go_wp2_with fail
        refine wp_region_quiet_below (by kernel_rfl) (by kernel_rfl) ?_
        repeat (first | go_big_quiet_skip | (go_big_quiet_want; go_big_quiet_op; first | go_big_quiet_on | go_big_quiet_call (first | (go_at_call 17; exact Calls.regrown_of (HCAL _ (HRP.out.later (below_regrown _ _ _)))))))
        refine wpQuiet_nil ?_
        rintro wq ⟨pq, hwq⟩
        have hq : Below wr.heap.size wr wq := by rw [hwq]; exact below_regrown _ _ _
        clear hwq pq
        go_wp2
        go_ret
        exact ⟨by simp [HN.out], hbel.trans (hq.mono hsz)⟩
      · have HY := hid (hYes.out hk)
        clear hNo hYes
        go_wp2_with fail
        refine wp_region_quiet_below (by kernel_rfl) (by kernel_rfl) ?_
        repeat (first | go_big_quiet_skip | (go_big_quiet_want; go_big_quiet_op; first | go_big_quiet_on | go_big_quiet_call (first | (go_at_call 17; exact Calls.regrown_of (HCAL _ (HRP.out.later (below_regrown _ _ _)))))))
        refine wpQuiet_nil ?_
        rintro wq ⟨pq, hwq⟩
        have hq : Below wr.heap.size wr wq := by rw [hwq]; exact below_regrown _ _ _
        clear hwq pq
        go_wp2
        go_roundw
        case rel => exact ⟨j + 1, by omega, by go_num, HY, hbel.trans (hq.mono hsz)⟩
        case measure => simp [intOf]; omega
    · obtain rfl : j = L.length := by omega
      have HY := hid (rises_yes hrs.out)
      go_wp2
      go_ret
      exact ⟨by simp [HY.out], hbel⟩

end Go.Proofs.Ytnnhpnhnddibjaa
