/- impl.EdgeTime: its test, the iterator with it, the function; spec.EdgeTime: contracts. -/
import Derived.Test.YtdjonplcgmfmgaaGreatDoorWo
namespace Go.Proofs.YtdjonplcgmfmgaaGreatDoor
open Go.RowKit Go.Shelf
attribute [local go_sem] Oper.semAt_some

def inTime (low high : Int) (x : Int × Int) : Bool := decide (low ≤ x.2) && decide (x.2 ≤ high)

set_option maxHeartbeats 1000000 in
theorem time1_any (a b low high : Int) (B B' : Nat) (w : World) (hc : w.cell? ⟨B, 0, none⟩ = some (.int .i64 low)) (hc' : w.cell? ⟨B', 0, none⟩ = some (.int .i64 high)) :
    Calls Tryz.prog 32 #[.agg #[.int .i64 a, .int .i64 b], .pointer (some ⟨B, 0, none⟩), .pointer (some ⟨B', 0, none⟩)] w fun e w' => e = .returned (.bool (inTime low high (a, b))) ∧ Below w.heap.size w w' := by
  have hB := World.block_lt_of_cell? _ _ hc
  have hne : w.heap.size ≠ B := by simp only at hB; omega
  have hB' := World.block_lt_of_cell? _ _ hc'
  have hne' : w.heap.size ≠ B' := by simp only at hB'; omega
  go_enter Tryz.func32, Tryz.ntmps32
  go_wp2
  all_goals
    go_ret
    exact ⟨by first | (simp_all [inTime]; done) | (simp [inTime]; omega), by go_grown⟩

set_option maxRecDepth 100000 in
set_option maxHeartbeats 2000000 in
theorem that1T_in (n : Nat) (hn : 1 ≤ n) (l0 Bl Bw Bo Bp : Nat) (v : Value) (l : List (Int × Int)) (low high : Int) (Wz : World) (hv : Rd Wz v l)
    (z1 : Wz.cell? ⟨Bl, 0, none⟩ = some v) (z2 : Wz.cell? ⟨Bw, 0, none⟩ = some (.func (.func 32) #[] #[.pointer (some ⟨Bo, 0, none⟩), .pointer (some ⟨Bp, 0, none⟩)])) (z3 : Wz.cell? ⟨Bo, 0, none⟩ = some (.int .i64 low)) (z4 : Wz.cell? ⟨Bp, 0, none⟩ = some (.int .i64 high))
    (J Jx : List (Int × Int) → World → Prop) (W : World) (hW : Below Wz.heap.size Wz W) (hJ : AbidesFrom W.heap.size J)
    (hY : ∀ pre x W1, J pre W1 → pre.length < l.length → YieldAt Fence.wide (n - 1) Tryz.prog l0 #[.agg #[.int .i64 x.1, .int .i64 x.2]] W1 fun e W' =>
      (e = .returned (.bool true) ∧ J (pre ++ [x]) W' ∧ Below Wz.heap.size W1 W') ∨ (e = .returned (.bool false) ∧ Jx (pre ++ [x]) W')) (h0 : J [] W) :
    CallsIn Fence.wide n Tryz.prog 56 #[.func (.yield l0) #[] #[], .pointer (some ⟨Bl, 0, none⟩), .pointer (some ⟨Bw, 0, none⟩)] W fun e W' => (∃ v, e = .returned v) ∧
      ((∃ ys, ys = l.filter (inTime low high) ∧ J ys W') ∨ (∃ pre, pre <+: l.filter (inTime low high) ∧ Jx pre W')) := by
  obtain ⟨ao, cap, rfl, hl, hc⟩ := hv
  unfold maxLen at hl
  have y1 : W.cell? ⟨Bl, 0, none⟩ = some (.slice ao l.length cap) := cell_later hW z1
  have y2 : W.cell? ⟨Bw, 0, none⟩ = some (.func (.func 32) #[] #[.pointer (some ⟨Bo, 0, none⟩), .pointer (some ⟨Bp, 0, none⟩)]) := cell_later hW z2
  have HY := hid hY
  clear hY
  refine callsIn_of_wp Tryz.func56 rfl trivial ?_ rfl
  simp only [Tryz.ntmps56, List.size_toArray, List.length_cons, List.length_nil, Nat.reduceAdd, Nat.reduceSub, Array.replicate_succ, Array.replicate_zero, List.push_toArray, List.append_toArray, List.nil_append, List.cons_append]
  gi_wp2
  gi_loopw [8] (fun i wr => ∃ k : Nat, k ≤ l.length ∧ i = .int .i64 k ∧ J ((l.take k).filter (inTime low high)) wr ∧ Below Wz.heap.size Wz wr ∧ W.heap.size ≤ wr.heap.size) (fun i _ => l.length - (intOf i).toNat)
  case atStart => exact ⟨0, Nat.zero_le _, rfl, by simpa using h0, hW, Nat.le_refl _⟩
  case round =>
    obtain ⟨k, hk, rfl, hJs, hbel, hszw⟩ := hrel
    have hsz := hbel.size
    by_cases hlt : k < l.length
    · obtain ⟨b, o, rfl, hb, hcc⟩ := hc (by omega)
      obtain ⟨c0, c1⟩ := hcc k hlt
      rw [← hbel.cell (p := ⟨b, o + k * 2, none⟩) hb] at c0
      rw [← hbel.cell (p := ⟨b, o + k * 2 + 1, none⟩) hb] at c1
      have x2 := cell_later hbel z2
      have x3 := cell_later hbel z3
      have x4 := cell_later hbel z4
      have x2a := fun o1 => cell_later ((Below.refl wr.heap.size wr).alloc (Nat.le_refl _) o1) x2
      have hmore := filter_more l (inTime low high) k hlt
      have hfl := filter_take_lt l (inTime low high) k hlt
      generalize l.getD k (0, 0) = x at *
      have HM := hid hmore
      clear hmore hcc hc y1 y2
      have x3a := fun o1 => cell_later ((Below.refl wr.heap.size wr).alloc (Nat.le_refl _) o1) x3
      have x4a := fun o1 => cell_later ((Below.refl wr.heap.size wr).alloc (Nat.le_refl _) o1) x4
      by_cases hp : inTime low high x = true
      · gi_wp2_with fail
        refine ⟨trivial, (callsIn_wide.2 (time1_any _ _ low high Bo Bp _ (x3a _) (x4a _))).mono ?_⟩
        rintro e w2 ⟨rfl, hb2⟩
        have hbA : Below wr.heap.size wr w2 := ((Below.refl wr.heap.size wr).alloc (Nat.le_refl _) _).trans (hb2.mono (by simp))
        have hJ2 := hJ _ wr w2 none hJs (grown_of_below hbA) (fun r e => by cases e)
        obtain ⟨fn, tmps, assign, body, hy, hR⟩ := HY.out _ x w2 hJ2 hfl
        have e0 := cell_later hb2 (show (wr.alloc (.cells #[.int .i64 x.1, .int .i64 x.2] 53)).cell? ⟨wr.heap.size, 0, none⟩ = some (.int .i64 x.1) by simp [go_sem])
        have e1 := cell_later hb2 (show (wr.alloc (.cells #[.int .i64 x.1, .int .i64 x.2] 53)).cell? ⟨wr.heap.size, 1, none⟩ = some (.int .i64 x.2) by simp [go_sem])
        gi_wp2
        refine hR.mono ?_
        rintro e W3 (⟨rfl, hJ3, hk3⟩ | ⟨rfl, hJx3⟩)
        · have hb23 : Below Wz.heap.size Wz W3 := (hbel.trans (hbA.mono hsz)).trans hk3
          gi_wp2
          go_roundw
          case rel => exact ⟨k + 1, by omega, by simp, by rw [HM.out, if_pos hp]; exact hJ3, hb23, Nat.le_trans hszw (Nat.le_trans hbA.size hk3.size)⟩
          case measure => simp [intOf]; omega
        · gi_wp2
          refine bodyPost_ret (results_none rfl _ _ _) rfl ?_
          exact ⟨⟨_, rfl⟩, .inr ⟨_, by rw [← if_pos (c := inTime low high x = true) (t := (l.take k).filter (inTime low high) ++ [x]) (e := (l.take k).filter (inTime low high)) hp, ← HM.out]; exact filter_take_prefix l _ _, hJx3⟩⟩
      · have hp' : inTime low high x = false := by simpa using hp
        clear hp
        gi_wp2_with fail
        refine ⟨trivial, (callsIn_wide.2 (time1_any _ _ low high Bo Bp _ (x3a _) (x4a _))).mono ?_⟩
        rintro e w2 ⟨rfl, hb2⟩
        have hbA : Below wr.heap.size wr w2 := ((Below.refl wr.heap.size wr).alloc (Nat.le_refl _) _).trans (hb2.mono (by simp))
        have hJ2 := hJ _ wr w2 none hJs (grown_of_below hbA) (fun r e => by cases e)
        gi_wp2
        refine ⟨fun _ h => (by cases h), ?_⟩
        gi_wp2
        go_roundw
        case rel => exact ⟨k + 1, by omega, by simp, by rw [HM.out, if_neg (by rw [hp']; decide)]; exact hJ2, hbel.trans (hbA.mono hsz), Nat.le_trans hszw hbA.size⟩
        case measure => simp [intOf]; omega
    · obtain rfl : k = l.length := by omega
      gi_wp2
      go_end0
      exact ⟨⟨_, rfl⟩, .inl ⟨_, by rw [List.take_length], hJs⟩⟩

theorem that1T_stops (n : Nat) (hn : 1 ≤ n) (Bl Bw Bo Bp : Nat) (v : Value) (l : List (Int × Int)) (low high : Int) (Wz : World) (hv : Rd Wz v l)
    (z1 : Wz.cell? ⟨Bl, 0, none⟩ = some v) (z2 : Wz.cell? ⟨Bw, 0, none⟩ = some (.func (.func 32) #[] #[.pointer (some ⟨Bo, 0, none⟩), .pointer (some ⟨Bp, 0, none⟩)])) (z3 : Wz.cell? ⟨Bo, 0, none⟩ = some (.int .i64 low)) (z4 : Wz.cell? ⟨Bp, 0, none⟩ = some (.int .i64 high)) :
    SeqStopsK Fence.wide n Tryz.prog 56 #[.pointer (some ⟨Bl, 0, none⟩), .pointer (some ⟨Bw, 0, none⟩)] encE (Below Wz.heap.size) (fun ys => ys = l.filter (inTime low high)) (fun pre => pre <+: l.filter (inTime low high)) l.length Wz :=
  fun l0 J Jx W hW hJ _ hY h0 => that1T_in n hn l0 Bl Bw Bo Bp v l low high Wz hv z1 z2 z3 z4 J Jx W hW hJ hY h0

set_option maxHeartbeats 1000000 in
theorem implTime_any (v : Value) (l : List (Int × Int)) (low high : Int) (w : World) (h : Rd w v l) (hl : l.length ≤ 1099511627776) :
    Calls Tryz.prog 9 #[v, .int .i64 low, .int .i64 high] w fun e w' => ∃ v', e = .returned v' ∧ Own w' w.heap.size v' (l.filter (inTime low high)) ∧ Below w.heap.size w w' := by
  have H := hid h
  obtain ⟨ao, cap, hv, _, _⟩ := h
  subst hv
  go_enter Tryz.func9, Tryz.ntmps9
  go_wp2_with fail
  refine (that_any ao l.length cap _ _ _).mono ?_
  rintro e w3 ⟨rfl, hw3⟩
  have hB : Below w.heap.size w w3 := by rw [hw3]; go_grown
  have s3 : w3.heap.size = w.heap.size + 4 := by rw [hw3]; simp
  have z1 : w3.cell? ⟨w.heap.size + 1 + 1, 0, none⟩ = some (.slice ao l.length cap) := by rw [hw3]; simp [go_sem]
  have z2 : w3.cell? ⟨w.heap.size + 1 + 1 + 1, 0, none⟩ = some (.func (.func 32) #[] #[.pointer (some ⟨w.heap.size, 0, none⟩), .pointer (some ⟨w.heap.size + 1, 0, none⟩)]) := by rw [hw3]; simp [go_sem]
  have z3 : w3.cell? ⟨w.heap.size, 0, none⟩ = some (.int .i64 low) := by rw [hw3]; simp [go_sem]
  have z4 : w3.cell? ⟨w.heap.size + 1, 0, none⟩ = some (.int .i64 high) := by rw [hw3]; simp [go_sem]
  clear hw3
  have H3 : Hid (Rd w3 (.slice ao l.length cap) l) := Rd.later H.out hB
  go_wp2_with fail
  refine (gather_any 56 #[.pointer (some ⟨w.heap.size + 1 + 1, 0, none⟩), .pointer (some ⟨w.heap.size + 1 + 1 + 1, 0, none⟩)] (l.filter (inTime low high)) l.length hl (List.length_filter_le _ _) w3 (enters_of Tryz.func56 (by kernel_rfl) rfl)
    (that1T_stops 2 (by omega) _ _ _ _ _ l low high w3 H3.out z1 z2 z3 z4)).mono ?_
  rintro e w4 ⟨v', rfl, hown, hb4⟩
  go_wp2
  go_ret
  exact ⟨v', by simp, hown.mono (by omega), hB.trans (hb4.mono (by omega))⟩

end Go.Proofs.YtdjonplcgmfmgaaGreatDoor
