/- impl.EdgeAdd: contract. -/
import Derived.Test.YtpdfhffmhlgcmaaOkI
import Derived.Test.YtpdfhffmhlgcmaaWo
import Derived.Test.YtpdfhffmhlgcmaaBs
import Derived.Test.YtpdfhffmhlgcmaaIn
namespace Go.Proofs.Ytpdfhffmhlgcmaa
open Go.RowKit Go.Shelf

theorem place_any (v : Value) (l : List (Int × Int)) (e : Int × Int) (w : World) (h : Rd w v l) (hll : l.length ≤ 1099511627776) (hgood : GoodTo l l.length) :
    Calls Try.prog 43 #[v, .agg #[.int .i64 e.1, .int .i64 e.2], .func (.func 44) #[] #[]] w fun x w' => x = .returned (.int .i64 (placeN l e)) ∧ Below w.heap.size w w' := by
  have hr := id h
  obtain ⟨ao, cap, rfl, hl, hc⟩ := hr
  clear hl hc
  obtain ⟨x1, x2⟩ := e
  go_enter Try.func43, Try.ntmps43
  go_wp2_with fail
  refine (search_any _ l (x1, x2) _ (h.later (by go_grown)) hll hgood).mono ?_
  rintro x w1 ⟨fb, rfl, b1⟩
  go_wp2
  go_ret
  exact ⟨rfl, Below.trans (by go_grown) (b1.mono (by simp))⟩

/-- What stays while the place is looked for. -/
structure KeepAdd (W w0 : World) (b0 : Nat) (v : Value) (rest : List (Int × Int)) (e : Int × Int) : Prop where
  pair : PairAt W b0 e
  own : Own W w0.heap.size v rest
  bel : Below w0.heap.size w0 W
theorem PairAt.past {W W' : World} {b : Nat} {e : Int × Int} (h : PairAt W b e) (hb : Below W.heap.size W W') : PairAt W' b e :=
  (hb.block _ (Array.getElem?_eq_some_iff.1 h).1).trans h
theorem KeepAdd.later {W W' w0 : World} {b0 : Nat} {v : Value} {rest : List (Int × Int)} {e : Int × Int} (h : KeepAdd W w0 b0 v rest e) (hb : Below W.heap.size W W') : KeepAdd W' w0 b0 v rest e :=
  ⟨h.pair.past hb, h.own.later hb, h.bel.trans (hb.mono h.bel.size)⟩
theorem KeepAdd.drew {W w0 : World} {b0 : Nat} {v : Value} {rest : List (Int × Int)} {e : Int × Int} (h : KeepAdd W w0 b0 v rest e) : KeepAdd W.drew w0 b0 v rest e := h.later ((Below.refl _ _).drew)
theorem KeepAdd.alloc {W w0 : World} {b0 : Nat} {v : Value} {rest : List (Int × Int)} {e : Int × Int} (h : KeepAdd W w0 b0 v rest e) (o : Obj) : KeepAdd (W.alloc o) w0 b0 v rest e := h.later ((Below.refl _ _).alloc (Nat.le_refl _) _)
theorem KeepAdd.ne {W w0 : World} {b0 : Nat} {v : Value} {rest : List (Int × Int)} {e : Int × Int} (h : KeepAdd W w0 b0 v rest e) : v.ownBlock ≠ some W.heap.size := fun hh => Nat.lt_irrefl _ (h.own.block _ hh).2

set_option maxRecDepth 100000 in
set_option maxHeartbeats 600000 in
theorem implAdd_any (v : Value) (l : List (Int × Int)) (who at' : Int) (w : World) (h : Rd w v l) (hll : l.length ≤ 1099511627776) :
    Calls Try.prog 36 #[v, .int .i64 who, .int .i64 at'] w fun e w' => ∃ v', e = .returned (.tuple #[v', .bool (addB l who at')]) ∧ Own w' w.heap.size v' (addL l who at') ∧ Below w.heap.size w w' := by
  obtain ⟨ao, cap, hv, hml, _⟩ := id h
  subst hv
  unfold maxLen at hml
  cases hok : okL l with
  | true =>
    cases hright : rightB (who, at') with
    | true =>
      have e0 : addB l who at' = true := by simp [addB, hok, hright]
      have e1 : addL l who at' = insL (l.filter (notWho who)) (who, at') := by simp [addL, e0]
      rw [e0, e1]
      clear e0 e1
      go_enter Try.func36, Try.ntmps36
      go_wp2_with fail
      have hP0 : PairAt (w.alloc (.cells #[.int .i64 who, .int .i64 at'] 65)) w.heap.size (who, at') := PairAt.new w (who, at')
      have hB0 : Below w.heap.size w (w.alloc (.cells #[.int .i64 who, .int .i64 at'] 65)) := (Below.refl _ w).alloc (Nat.le_refl _) _
      have hsz0 : w.heap.size < (w.alloc (.cells #[.int .i64 who, .int .i64 at'] 65)).heap.size := by simp
      obtain ⟨W0, hW0⟩ : ∃ W0, w.alloc (.cells #[.int .i64 who, .int .i64 at'] 65) = W0 := ⟨_, rfl⟩
      rw [hW0] at hP0 hB0 hsz0 ⊢
      clear hW0
      refine (implOk_any _ l _ (h.later hB0)).mono ?_
      rintro e w1 ⟨rfl, b1⟩
      rw [hok]
      have hP1 : PairAt w1 w.heap.size (who, at') := (b1.block _ hsz0).trans hP0
      have hB1 : Below w.heap.size w w1 := hB0.trans (b1.mono hB0.size)
      have t0 := hP1.c0
      have t1 := hP1.c1
      have hs1 : w.heap.size < w1.heap.size := Nat.lt_of_lt_of_le hsz0 b1.size
      clear b1 hB0 hP0
      go_wp2_with fail
      refine (edgeRight_any _ _ _).mono ?_
      rintro e w2 ⟨rfl, b2⟩
      rw [hright]
      have hP2 : PairAt w2 w.heap.size (who, at') := (b2.block _ hs1).trans hP1
      have hB2 : Below w.heap.size w w2 := hB1.trans (b2.mono hB1.size)
      have hs2 : w.heap.size < w2.heap.size := Nat.lt_of_lt_of_le hs1 b2.size
      clear b2 t0 t1 hP1 hs1
      have t0 := hP2.c0
      have t1 := hP2.c1
      go_wp2_with fail
      refine (without_any _ l who _ (h.later hB2) hll).mono ?_
      rintro e w3 ⟨vo, rfl, own, b3⟩
      have hP3 : PairAt w3 w.heap.size (who, at') := (b3.block _ hs2).trans hP2
      have hB3 : Below w.heap.size w w3 := hB2.trans (b3.mono hB2.size)
      have hs3 : w.heap.size < w3.heap.size := Nat.lt_of_lt_of_le hs2 b3.size
      have b3s := b3
      clear b3 t0 t1 hP2
      have t0 := hP3.c0
      have t1 := hP3.c1
      have hF : KeepAdd w3 w2 w.heap.size vo (l.filter (notWho who)) (who, at') := ⟨hP3, own, b3s⟩
      have HF := hF
      have hG := (okL_iff _).1 (okL_filter (notWho who) _ hok)
      have hLL := Nat.le_trans (List.length_filter_le (notWho who) l) hll
      obtain ⟨rest, hrest⟩ : ∃ r, l.filter (notWho who) = r := ⟨_, rfl⟩
      have HREST := hid hrest
      rw [hrest] at HF hG hLL
      clear hrest
      have HG := hid hG
      have HF := hid HF
      clear hG hF own hok h hP3
      go_wp2_with fail
      go_region_with (first
        | (go_at_call 43; first
            | (refine (place_any _ _ (who, at') _ (HF.out.drew.own.rd) hLL HG.out).mono ?_; rintro e w4 ⟨rfl, b4⟩; have hA4 := HF.out.drew.later b4; have u0 := hA4.pair.c0; have u1 := hA4.pair.c1)
            | (refine (place_any _ _ (who, at') _ ((HF.out.drew.alloc _).own.rd) hLL HG.out).mono ?_; rintro e w4 ⟨rfl, b4⟩; have hF4 := (HF.out.drew.alloc _).later b4; have hV4 := PairAt.past (PairAt.new _ (who, at')) b4))
        | (go_at_call 42; first
            | (refine (insert_any vo rest (placeN rest (who, at')) (who, at') w2.heap.size _ _ _ ((hA4.alloc _).own) hLL (hA4.alloc _).bel.size (placeN_le _ _) (PairAt.new _ (who, at')) hA4.ne).mono ?_; rintro e w5 ⟨v', rfl, own5, b5⟩; have hB5 := (hA4.alloc _).bel.trans b5)
            | (refine (insert_any vo rest (placeN rest (who, at')) (who, at') w2.heap.size _ _ _ hF4.own hLL hF4.bel.size (placeN_le _ _) hV4 HF.out.ne).mono ?_; rintro e w5 ⟨v', rfl, own5, b5⟩; have hB5 := hF4.bel.trans b5)))
      all_goals
        go_wp2
        go_ret2
        refine ⟨v', rfl, ?_, hB2.trans (hB5.mono hB2.size)⟩
        rw [insL, HREST.out]
        exact own5.mono hB2.size
    | false =>
      have e0 : addB l who at' = false := by simp [addB, hok, hright]
      have e1 : addL l who at' = [] := by simp [addL, e0]
      rw [e0, e1]
      clear e0 e1
      go_enter Try.func36, Try.ntmps36
      go_wp2_with fail
      have hP0 : PairAt (w.alloc (.cells #[.int .i64 who, .int .i64 at'] 65)) w.heap.size (who, at') := PairAt.new w (who, at')
      have hB0 : Below w.heap.size w (w.alloc (.cells #[.int .i64 who, .int .i64 at'] 65)) := (Below.refl _ w).alloc (Nat.le_refl _) _
      have hsz0 : w.heap.size < (w.alloc (.cells #[.int .i64 who, .int .i64 at'] 65)).heap.size := by simp
      obtain ⟨W0, hW0⟩ : ∃ W0, w.alloc (.cells #[.int .i64 who, .int .i64 at'] 65) = W0 := ⟨_, rfl⟩
      rw [hW0] at hP0 hB0 hsz0 ⊢
      clear hW0
      refine (implOk_any _ l _ (h.later hB0)).mono ?_
      rintro e w1 ⟨rfl, b1⟩
      rw [hok]
      have hP1 : PairAt w1 w.heap.size (who, at') := (b1.block _ hsz0).trans hP0
      have hB1 : Below w.heap.size w w1 := hB0.trans (b1.mono hB0.size)
      have t0 := hP1.c0
      have t1 := hP1.c1
      have hs1 : w.heap.size < w1.heap.size := Nat.lt_of_lt_of_le hsz0 b1.size
      clear b1 hB0 hP0
      go_wp2_with fail
      refine (edgeRight_any _ _ _).mono ?_
      rintro e w2 ⟨rfl, b2⟩
      rw [hright]
      have hP2 : PairAt w2 w.heap.size (who, at') := (b2.block _ hs1).trans hP1
      have hB2 : Below w.heap.size w w2 := hB1.trans (b2.mono hB1.size)
      have hs2 : w.heap.size < w2.heap.size := Nat.lt_of_lt_of_le hs1 b2.size
      clear b2 t0 t1 hP1 hs1
      go_wp2
      go_ret2
      exact ⟨_, by simp, World.ownsRow_nil _ _ _ _, hB2⟩
  | false =>
    have e0 : addB l who at' = false := by simp [addB, hok]
    have e1 : addL l who at' = [] := by simp [addL, e0]
    rw [e0, e1]
    clear e0 e1
    go_enter Try.func36, Try.ntmps36
    go_wp2_with fail
    have hP0 : PairAt (w.alloc (.cells #[.int .i64 who, .int .i64 at'] 65)) w.heap.size (who, at') := PairAt.new w (who, at')
    have hB0 : Below w.heap.size w (w.alloc (.cells #[.int .i64 who, .int .i64 at'] 65)) := (Below.refl _ w).alloc (Nat.le_refl _) _
    have hsz0 : w.heap.size < (w.alloc (.cells #[.int .i64 who, .int .i64 at'] 65)).heap.size := by simp
    obtain ⟨W0, hW0⟩ : ∃ W0, w.alloc (.cells #[.int .i64 who, .int .i64 at'] 65) = W0 := ⟨_, rfl⟩
    rw [hW0] at hP0 hB0 hsz0 ⊢
    clear hW0
    refine (implOk_any _ l _ (h.later hB0)).mono ?_
    rintro e w1 ⟨rfl, b1⟩
    rw [hok]
    have hP1 : PairAt w1 w.heap.size (who, at') := (b1.block _ hsz0).trans hP0
    have hB1 : Below w.heap.size w w1 := hB0.trans (b1.mono hB0.size)
    have t0 := hP1.c0
    have t1 := hP1.c1
    have hs1 : w.heap.size < w1.heap.size := Nat.lt_of_lt_of_le hsz0 b1.size
    clear b1 hB0 hP0
    go_wp2
    go_ret2
    exact ⟨_, by simp, World.ownsRow_nil _ _ _ _, hB1⟩
end Go.Proofs.Ytpdfhffmhlgcmaa
