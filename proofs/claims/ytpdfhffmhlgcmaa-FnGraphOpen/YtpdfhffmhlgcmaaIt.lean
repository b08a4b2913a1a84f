/- impl.edgesThat's iterator with the test of edgesWithout: contract. -/
import Derived.Test.YtpdfhffmhlgcmaaItP
namespace Go.Proofs.Ytpdfhffmhlgcmaa
open Go.RowKit Go.Shelf

abbrev encE (x : Int × Int) : Array Value := #[.agg #[.int .i64 x.1, .int .i64 x.2]]

attribute [local go_sem] Oper.semAt_some

def notWho (who : Int) (x : Int × Int) : Bool := x.1 != who

set_option maxHeartbeats 1000000 in
theorem without1_any (a b who : Int) (B : Nat) (w : World) (hc : w.cell? ⟨B, 0, none⟩ = some (.int .i64 who)) :
    Calls Try.prog 49 #[.agg #[.int .i64 a, .int .i64 b], .pointer (some ⟨B, 0, none⟩)] w fun e w' => e = .returned (.bool (notWho who (a, b))) ∧ Below w.heap.size w w' := by
  have hB := World.block_lt_of_cell? _ _ hc
  have hne : w.heap.size ≠ B := by simp only at hB; omega
  go_enter Try.func49, Try.ntmps49
  go_wp2
  go_ret
  exact ⟨by simp [notWho], by go_grown⟩

set_option maxRecDepth 100000 in
set_option maxHeartbeats 2000000 in
theorem that1W_in (n : Nat) (hn : 1 ≤ n) (l0 Bl Bw Bo : Nat) (v : Value) (l : List (Int × Int)) (who : Int) (Wz : World) (hv : Rd Wz v l)
    (z1 : Wz.cell? ⟨Bl, 0, none⟩ = some v) (z2 : Wz.cell? ⟨Bw, 0, none⟩ = some (.func (.func 49) #[] #[.pointer (some ⟨Bo, 0, none⟩)])) (z3 : Wz.cell? ⟨Bo, 0, none⟩ = some (.int .i64 who))
    (J Jx : List (Int × Int) → World → Prop) (W : World) (hW : Below Wz.heap.size Wz W) (hJ : AbidesFrom W.heap.size J)
    (hY : ∀ pre x W1, J pre W1 → pre.length < l.length → YieldAt Fence.wide (n - 1) Try.prog l0 #[.agg #[.int .i64 x.1, .int .i64 x.2]] W1 fun e W' =>
      (e = .returned (.bool true) ∧ J (pre ++ [x]) W' ∧ Below Wz.heap.size W1 W') ∨ (e = .returned (.bool false) ∧ Jx (pre ++ [x]) W')) (h0 : J [] W) :
    CallsIn Fence.wide n Try.prog 55 #[.func (.yield l0) #[] #[], .pointer (some ⟨Bl, 0, none⟩), .pointer (some ⟨Bw, 0, none⟩)] W fun e W' => (∃ v, e = .returned v) ∧
      ((∃ ys, ys = l.filter (notWho who) ∧ J ys W') ∨ (∃ pre, pre <+: l.filter (notWho who) ∧ Jx pre W')) := by
  obtain ⟨ao, cap, rfl, hl, hc⟩ := hv
  unfold maxLen at hl
  have y1 : W.cell? ⟨Bl, 0, none⟩ = some (.slice ao l.length cap) := cell_later hW z1
  have y2 : W.cell? ⟨Bw, 0, none⟩ = some (.func (.func 49) #[] #[.pointer (some ⟨Bo, 0, none⟩)]) := cell_later hW z2
  have HY := hid hY
  clear hY
  refine callsIn_of_wp Try.func55 rfl trivial ?_ rfl
  simp only [Try.ntmps55, List.size_toArray, List.length_cons, List.length_nil, Nat.reduceAdd, Nat.reduceSub, Array.replicate_succ, Array.replicate_zero, List.push_toArray, List.append_toArray, List.nil_append, List.cons_append]
  gi_wp2
  gi_loopw [8] (fun i wr => ∃ k : Nat, k ≤ l.length ∧ i = .int .i64 k ∧ J ((l.take k).filter (notWho who)) wr ∧ Below Wz.heap.size Wz wr ∧ W.heap.size ≤ wr.heap.size) (fun i _ => l.length - (intOf i).toNat)
  case atStart => exact ⟨0, Nat.zero_le _, rfl, by simpa using h0, hW, Nat.le_refl _⟩
  case round =>
    obtain ⟨k, hk, rfl, hJs, hbel, hszw⟩ := hrel
    have hsz := hbel.size
    by_cases hlt : k < l.length
    · obtain ⟨b, o, rfl, hb, hcc⟩ := hc (by omega)
      obtain ⟨c0, c1⟩ := hcc k hlt
      rw [← hbel.cell (p := ⟨b, o + k * 2, none⟩) hb] at c0
      rw [← hbel.cell (p := ⟨b, o + k * 2 + 1, none⟩) hb] at c1
      have x2 := cell_later hbel z2
      have x3 := cell_later hbel z3
      have x2a := fun o1 => cell_later ((Below.refl wr.heap.size wr).alloc (Nat.le_refl _) o1) x2
      have hmore := filter_more l (notWho who) k hlt
      have hfl := filter_take_lt l (notWho who) k hlt
      generalize l.getD k (0, 0) = x at *
      have HM := hid hmore
      clear hmore hcc hc y1 y2
      have x3a := fun o1 => cell_later ((Below.refl wr.heap.size wr).alloc (Nat.le_refl _) o1) x3
      by_cases hp : notWho who x = true
      · gi_wp2_with fail
        refine ⟨trivial, (callsIn_wide.2 (without1_any _ _ who Bo _ (x3a _))).mono ?_⟩
        rintro e w2 ⟨rfl, hb2⟩
        have hbA : Below wr.heap.size wr w2 := ((Below.refl wr.heap.size wr).alloc (Nat.le_refl _) _).trans (hb2.mono (by simp))
        have hJ2 := hJ _ wr w2 none hJs (grown_of_below hbA) (fun r e => by cases e)
        obtain ⟨fn, tmps, assign, body, hy, hR⟩ := HY.out _ x w2 hJ2 hfl
        have e0 := cell_later hb2 (show (wr.alloc (.cells #[.int .i64 x.1, .int .i64 x.2] 65)).cell? ⟨wr.heap.size, 0, none⟩ = some (.int .i64 x.1) by simp [go_sem])
        have e1 := cell_later hb2 (show (wr.alloc (.cells #[.int .i64 x.1, .int .i64 x.2] 65)).cell? ⟨wr.heap.size, 1, none⟩ = some (.int .i64 x.2) by simp [go_sem])
        gi_wp2
        refine hR.mono ?_
        rintro e W3 (⟨rfl, hJ3, hk3⟩ | ⟨rfl, hJx3⟩)
        · have hb23 : Below Wz.heap.size Wz W3 := (hbel.trans (hbA.mono hsz)).trans hk3
          gi_wp2
          go_roundw
          case rel => exact ⟨k + 1, by omega, by simp, by rw [HM.out, if_pos hp]; exact hJ3, hb23, Nat.le_trans hszw (Nat.le_trans hbA.size hk3.size)⟩
          case measure => simp [intOf]; omega
        · gi_wp2
          refine bodyPost_ret (results_none rfl _ _ _) rfl ?_
          exact ⟨⟨_, rfl⟩, .inr ⟨_, by rw [← if_pos (c := notWho who x = true) (t := (l.take k).filter (notWho who) ++ [x]) (e := (l.take k).filter (notWho who)) hp, ← HM.out]; exact filter_take_prefix l _ _, hJx3⟩⟩
      · have hp' : notWho who x = false := by simpa using hp
        clear hp
        gi_wp2_with fail
        refine ⟨trivial, (callsIn_wide.2 (without1_any _ _ who Bo _ (x3a _))).mono ?_⟩
        rintro e w2 ⟨rfl, hb2⟩
        have hbA : Below wr.heap.size wr w2 := ((Below.refl wr.heap.size wr).alloc (Nat.le_refl _) _).trans (hb2.mono (by simp))
        have hJ2 := hJ _ wr w2 none hJs (grown_of_below hbA) (fun r e => by cases e)
        gi_wp2
        refine ⟨fun _ h => (by cases h), ?_⟩
        gi_wp2
        go_roundw
        case rel => exact ⟨k + 1, by omega, by simp, by rw [HM.out, if_neg (by rw [hp']; decide)]; exact hJ2, hbel.trans (hbA.mono hsz), Nat.le_trans hszw hbA.size⟩
        case measure => simp [intOf]; omega
    · obtain rfl : k = l.length := by omega
      gi_wp2
      go_end0
      exact ⟨⟨_, rfl⟩, .inl ⟨_, by rw [List.take_length], hJs⟩⟩

theorem that1W_stops (n : Nat) (hn : 1 ≤ n) (Bl Bw Bo : Nat) (v : Value) (l : List (Int × Int)) (who : Int) (Wz : World) (hv : Rd Wz v l)
    (z1 : Wz.cell? ⟨Bl, 0, none⟩ = some v) (z2 : Wz.cell? ⟨Bw, 0, none⟩ = some (.func (.func 49) #[] #[.pointer (some ⟨Bo, 0, none⟩)])) (z3 : Wz.cell? ⟨Bo, 0, none⟩ = some (.int .i64 who)) :
    SeqStopsK Fence.wide n Try.prog 55 #[.pointer (some ⟨Bl, 0, none⟩), .pointer (some ⟨Bw, 0, none⟩)] encE (Below Wz.heap.size) (fun ys => ys = l.filter (notWho who)) (fun pre => pre <+: l.filter (notWho who)) l.length Wz :=
  fun l0 J Jx W hW hJ _ hY h0 => that1W_in n hn l0 Bl Bw Bo v l who Wz hv z1 z2 z3 J Jx W hW hJ hY h0
end Go.Proofs.Ytpdfhffmhlgcmaa
