/- impl.withLast's iterator: it yields each answer and the greatest Ver that its teller told ahead of it. -/
import Derived.Test.YtnnhpnhnddibjaaJf
import Derived.Test.YtnnhpnhnddibjaaRo
import Derived.RangeFuncLeaves
import Derived.OwnWalkIn
import Derived.TacticsInMore
import Derived.LoopIn
import Derived.Stop.RegionWithIn
namespace Go.Proofs.Ytnnhpnhnddibjaa
open Go.RowKit
attribute [local go_sem] Oper.semAt_some
attribute [local go_sem ↓] Go.wp_at_zero Go.wp_at_succ

/-- What is yielded of the i-th answer, as it lies in memory. -/
def EncAt (W : World) (ao : Option Addr) (L : List KD) (i : Nat) (A : Array Value) : Prop :=
  ∃ (b o : Nat) (a0 a1 a2 a3 : Int) (uo : Option Addr) (un uc : Nat) (wr : Bool) (c : Int) (l : List (Int × Int)), ao = some ⟨b, o, none⟩ ∧ L.getD i kd0 = told a0 a1 a2 a3 wr c l ∧
    W.cell? ⟨b, o + i * 7, none⟩ = some (.int .i64 a0) ∧ W.cell? ⟨b, o + i * 7 + 1, none⟩ = some (.int .i64 a1) ∧ W.cell? ⟨b, o + i * 7 + 2, none⟩ = some (.int .i64 a2) ∧ W.cell? ⟨b, o + i * 7 + 3, none⟩ = some (.int .i64 a3) ∧
    W.cell? ⟨b, o + i * 7 + 4, none⟩ = some (.slice uo un uc) ∧ W.cell? ⟨b, o + i * 7 + 5, none⟩ = some (.bool wr) ∧ W.cell? ⟨b, o + i * 7 + 6, none⟩ = some (.int .i64 c) ∧
    A = #[.agg #[.int .i64 a0, .int .i64 a1, .int .i64 a2, .int .i64 a3, .slice uo un uc, .bool wr, .int .i64 c], .int .i64 (toldLast (L.take i) a0 a1)]
theorem EncAt.keep {W W' : World} {ao : Option Addr} {L : List KD} {i : Nat} {A : Array Value} (h : EncAt W ao L i A) (hk : ∀ p v, W.cell? p = some v → W'.cell? p = some v) : EncAt W' ao L i A := by
  obtain ⟨b, o, a0, a1, a2, a3, uo, un, uc, wr, c, l, h0, h1, c0, c1, c2, c3, c4, c5, c6, h9⟩ := h
  exact ⟨b, o, a0, a1, a2, a3, uo, un, uc, wr, c, l, h0, h1, hk _ _ c0, hk _ _ c1, hk _ _ c2, hk _ _ c3, hk _ _ c4, hk _ _ c5, hk _ _ c6, h9⟩

theorem yield_bool {e : Ending} {A B : Prop} (h : (e = .returned (.bool true) ∧ A) ∨ (e = .returned (.bool false) ∧ B)) : ∃ bb : Bool, e = .returned (.bool bb) ∧ ((bb = true ∧ A) ∨ (bb = false ∧ B)) := by
  rcases h with ⟨h1, h2⟩ | ⟨h1, h2⟩
  · exact ⟨true, h1, .inl ⟨rfl, h2⟩⟩
  · exact ⟨false, h1, .inr ⟨rfl, h2⟩⟩
theorem Book.keep {w w' : World} {b n B : Nat} {g : Int → Int → List Int} {us : Int → Int → Value} (h : Book w b n B g us) (hk : KeepL w w') : Book w' b n B g us := by
  refine ⟨h.map.agree (hk.block b h.map.lt ?_), fun t k hg => (h.own t k hg).agree fun q hq => hk.block q ((h.own t k hg).block q hq).2 ?_, h.dis, h.off, h.lo⟩
  · obtain ⟨es, clock, hb, _⟩ := h.map
    rintro ⟨r, hr⟩
    rw [hb] at hr
    cases hr
  · rcases (h.own t k hg).2 with ⟨hn, _⟩ | ⟨g', cap, cur, hv, _, hc, _⟩
    · rw [hn] at hq; cases hq
    · rw [hv] at hq
      cases hq
      rintro ⟨r, hr⟩
      rw [hc] at hr
      cases hr
theorem range_prefix {k n : Nat} (h : k < n) : List.range k ++ [k] <+: List.range n := by
  rw [← List.range_succ]
  exact ⟨(List.range n).drop (k + 1), by
    apply List.ext_getElem?
    intro i
    by_cases hi : i < k + 1
    · rw [List.getElem?_append_left (by simpa using hi)]
      simp [hi, show i < n by omega]
    · rw [List.getElem?_append_right (by simp; omega)]
      simp
      congr 1
      omega⟩

/-- What lies below the iterator's own blocks stays whatever becomes of those. -/
theorem EncAt.keepB {W W3 W4 : World} {ao : Option Addr} {L : List KD} {i : Nat} {A : Array Value} (h : EncAt W3 ao L i A) (hb : Below W.heap.size W3 W4) (h0 : EncAt W ao L i A) : EncAt W4 ao L i A := by
  obtain ⟨b, o, a0, a1, a2, a3, uo, un, uc, wr, c, l, e0, e1, c0, c1, c2, c3, c4, c5, c6, h9⟩ := h
  obtain ⟨b', o', _, _, _, _, _, _, _, _, _, _, e0', _, d0, _⟩ := h0
  have hlt : b < W.heap.size := by
    have := World.block_lt_of_cell? _ _ d0
    rw [e0] at e0'
    cases e0'
    exact this
  have go : ∀ j v, W3.cell? ⟨b, j, none⟩ = some v → W4.cell? ⟨b, j, none⟩ = some v := fun j v hc => (hb.cell (p := ⟨b, j, none⟩) hlt).trans hc
  exact ⟨b, o, a0, a1, a2, a3, uo, un, uc, wr, c, l, e0, e1, go _ _ c0, go _ _ c1, go _ _ c2, go _ _ c3, go _ _ c4, go _ _ c5, go _ _ c6, h9⟩

set_option maxRecDepth 100000 in
set_option maxHeartbeats 4000000 in
theorem withLast1_owns (n : Nat) (hn : 1 ≤ n) (Bl cap : Nat) (ao : Option Addr) (L : List KD) (hL : L.length ≤ 1048576) (enc : Nat → Array Value) :
    SeqOwns Fence.wide n Try.prog 28 #[.pointer (some ⟨Bl, 0, none⟩)] enc KeepL (List.range L.length)
      (fun W => W.cell? ⟨Bl, 0, none⟩ = some (.slice ao L.length cap) ∧ ∀ i, i < L.length → EncAt W ao L i (enc i)) := by
  intro l0 J Jx W hZ hJ hY h0
  obtain ⟨y1, hE⟩ := hZ
  have HY := hid hY
  have HE := hid hE
  clear hY hE
  have hmm := @run_makeMap Try.prog
  refine callsIn_of_wp Try.func28 rfl trivial ?_ rfl
  simp only [Try.ntmps28, List.size_toArray, List.length_cons, List.length_nil, Nat.reduceAdd, Nat.reduceSub, Array.replicate_succ, Array.replicate_zero, List.push_toArray, List.append_toArray, List.nil_append, List.cons_append]
  have yB : Below W.heap.size W (W.alloc (.map #[] 0)) := (Below.refl _ W).alloc (Nat.le_refl _) _
  have y2 := cell_later yB y1
  gi_wp2
  gi_loopw [9] (fun i wr => ∃ (k : Nat) (us : Int → Int → Value), k ≤ L.length ∧ i = .int .i64 k ∧ Hid (J (List.range k) wr) ∧ Hid (Book wr W.heap.size k W.heap.size (toldOf (L.take k)) us) ∧ Hid (∀ i, i < L.length → EncAt wr ao L i (enc i))) (fun i _ => L.length - (intOf i).toNat)
  case atStart => exact ⟨0, _, Nat.zero_le _, rfl, hid (hJ _ _ _ h0 yB), hid (Book.zero W W.heap.size (Nat.le_refl _)), hid (fun i hi => (HE.out i hi).keep (fun p v hc => (cell_later yB hc)))⟩
  case round =>
    obtain ⟨k, us, hk, rfl, hJs, hbk, hE⟩ := hrel
    by_cases hlt : k < L.length
    · obtain ⟨b, o, p0, p1, p2, p3, uo, un, uc, bp, pc, lx, rfl, hx, c0, c1, c2, c3, c4, c5, c6, henc⟩ := hE.out k hlt
      have hst := addTo_told L k hlt p0 p1 p2 p3 pc bp lx hx
      have hle : (toldOf (L.take k) p0 p1).length ≤ 1048576 := by have := toldOf_le (L.take k) p0 p1; rw [List.length_take] at this; omega
      have HENC := hid henc
      have HST := hid hst
      clear henc hst hx y1 y2 yB
      have bA : Below wr.heap.size wr (wr.alloc (.cells #[.int .i64 p0, .int .i64 p1, .int .i64 p2, .int .i64 p3, .slice uo un uc, .bool bp, .int .i64 pc] 50)) := (Below.refl _ wr).alloc (Nat.le_refl _) _
      have hWr : W.heap.size ≤ wr.heap.size := Nat.le_trans hbk.out.lo (Nat.le_of_lt hbk.out.map.lt)
      have HBK := hid (hbk.out.later bA)
      have HJ := hid (hJ _ _ _ hJs.out (bA.mono hWr))
      have HEN := hid (fun i hi => (hE.out i hi).keep (fun p v hc => cell_later bA hc))
      have hpre : List.range k ++ [k] <+: List.range L.length := range_prefix hlt
      clear hbk hJs hE
      gi_wp2_with fail
      generalize hWA : wr.alloc (.cells #[.int .i64 p0, .int .i64 p1, .int .i64 p2, .int .i64 p3, .slice uo un uc, .bool bp, .int .i64 pc] 50) = wa at *
      have t0 : wa.cell? ⟨wr.heap.size, 0, none⟩ = some (.int .i64 p0) := by subst hWA; go_cell
      have t1 : wa.cell? ⟨wr.heap.size, 1, none⟩ = some (.int .i64 p1) := by subst hWA; go_cell
      have t2 : wa.cell? ⟨wr.heap.size, 2, none⟩ = some (.int .i64 p2) := by subst hWA; go_cell
      have t3 : wa.cell? ⟨wr.heap.size, 3, none⟩ = some (.int .i64 p3) := by subst hWA; go_cell
      have t4 : wa.cell? ⟨wr.heap.size, 4, none⟩ = some (.slice uo un uc) := by subst hWA; go_cell
      have t5 : wa.cell? ⟨wr.heap.size, 5, none⟩ = some (.bool bp) := by subst hWA; go_cell
      have t6 : wa.cell? ⟨wr.heap.size, 6, none⟩ = some (.int .i64 pc) := by subst hWA; go_cell
      have hza : wr.heap.size < wa.heap.size := by subst hWA; simp
      clear hWA
      obtain ⟨m0, hm0⟩ : ∃ m, maxOf (toldOf (L.take k) p0 p1) = m := ⟨_, rfl⟩
      have HENC2 : Hid (enc k = #[.agg #[.int .i64 p0, .int .i64 p1, .int .i64 p2, .int .i64 p3, .slice uo un uc, .bool bp, .int .i64 pc], .int .i64 m0]) := hid (by rw [HENC.out]; show #[_, Value.int .i64 (maxOf (toldOf (L.take k) p0 p1))] = _; rw [hm0])
      have HM0 := hid hm0
      clear hm0
      gi_region_with (first
        | (refine ⟨trivial, (callsIn_wide.2 (tellerOf_any p0 p1 p2 p3 pc bp (.slice uo un uc) _)).mono ?_⟩; rintro e w2 ⟨rfl, b2'⟩; have b2 : Below wa.heap.size wa w2 := ((Below.refl wa.heap.size wa).drew).trans b2'; clear b2'; have hb2 := HBK.out.later b2; have hlk := hb2.lookup p0 p1; rw [HM0.out] at hlk; generalize (if toldOf (L.take k) p0 p1 = [] then Value.slice none 0 0 else us p0 p1) = u0 at hlk; have hf : (Instr.field 57 (.agg #[u0, .int .i64 m0]) 1).run Try.prog w2 = .ok (.int .i64 m0) w2 := (by kernel_rfl); have HB2 := hid hb2; clear hb2; have HJ2 := hid (hJ _ _ _ HJ.out (b2.mono (Nat.le_trans hWr (Nat.le_of_lt hza)))); have HE2 := hid (fun i hi => (HEN.out i hi).keep (fun p v hc => cell_later b2 hc)); have s0 := (b2.cell (p := ⟨wr.heap.size, 0, none⟩) hza).trans t0; have s1 := (b2.cell (p := ⟨wr.heap.size, 1, none⟩) hza).trans t1; have s2 := (b2.cell (p := ⟨wr.heap.size, 2, none⟩) hza).trans t2; have s3 := (b2.cell (p := ⟨wr.heap.size, 3, none⟩) hza).trans t3; have s4 := (b2.cell (p := ⟨wr.heap.size, 4, none⟩) hza).trans t4; have s5 := (b2.cell (p := ⟨wr.heap.size, 5, none⟩) hza).trans t5; have s6 := (b2.cell (p := ⟨wr.heap.size, 6, none⟩) hza).trans t6; obtain ⟨fn, tmps, assign, body, hy, hR⟩ := HY.out _ k w2 HJ2.out hpre; rw [HENC2.out] at hy)
        | (refine hR.mono ?_; rintro e W3 hh; obtain ⟨bb, rfl, hh2⟩ := yield_bool hh; have HH := hid hh2; clear hh hh2))
      all_goals
        cases bb with
        | true =>
          rcases HH.out with ⟨_, hJ3, hk3⟩ | ⟨h9, _⟩
          · have HB3 := hid (HB2.out.keep hk3)
            have HE3 := hid (fun i hi => (HE2.out i hi).keep (fun p v hc => hk3.cell hc))
            have HJ3 := hid hJ3
            have r0 := hk3.cell s0
            have r1 := hk3.cell s1
            have r2 := hk3.cell s2
            have r3 := hk3.cell s3
            have r4 := hk3.cell s4
            have r5 := hk3.cell s5
            have r6 := hk3.cell s6
            clear hJ3 HB2 HE2 HJ2 HH
            gi_wp2_with fail
            refine ⟨trivial, (callsIn_wide.2 (enter_any W.heap.size k W.heap.size _ us p0 p1 p2 p3 pc bp _ _ HB3.out hle)).mono ?_⟩
            rintro e W4 ⟨rfl, us', hbk4, b4⟩
            rw [HST.out] at hbk4
            have HB4 := hid hbk4
            have hz4 : W.heap.size ≤ W3.heap.size := Nat.le_trans hWr (Nat.le_trans (Nat.le_of_lt hza) (Nat.le_trans b2.size hk3.size))
            have HJ4 := hid (hJ _ _ _ HJ3.out b4)
            have HE4 := hid (fun i hi => (HE3.out i hi).keepB b4 (HE.out i hi))
            clear hbk4 b4
            gi_wp2
            go_roundw
            case rel => exact ⟨k + 1, us', by omega, by go_num, by rw [List.range_succ]; exact HJ4, HB4, HE4⟩
            case measure => simp [intOf]; omega
          · cases h9
        | false =>
          rcases HH.out with ⟨h9, _⟩ | ⟨_, hJx⟩
          · cases h9
          · have HX := hid hJx
            gi_wp2
            refine bodyPost_ret (results_none rfl _ _ _) rfl ?_
            exact ⟨⟨_, rfl⟩, .inr ⟨_, hpre, HX.out⟩⟩
    · obtain rfl : k = L.length := by omega
      gi_wp2
      go_end0
      exact ⟨⟨_, rfl⟩, .inl hJs.out⟩
end Go.Proofs.Ytnnhpnhnddibjaa
