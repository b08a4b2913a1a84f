/- (*impl.shelf).put: contract. -/
import Derived.Test.YtnenlnadmdlcfaaXe
import Derived.BigQuiet
import Derived.Deep.RegionWith
namespace Go.Proofs.Ytnenlnadmdlcfaa
open Go.RowKit
attribute [local go_sem ↓] Go.wp_at_zero Go.wp_at_succ ldQ_open stQ_open

/-- Does nothing bar an item? What is there behind it. -/
def putB (F : List KD) (k v n : Int) (l : List (Int × Int)) : Bool := itR k v n l && decide (flr F k.toNat ≤ v)
def putX (X : List (Option KD)) (k v n : Int) (l : List (Int × Int)) : List (Option KD) := some ([k, v, n], l) :: (dropX k X).take 3
def putF (F : List KD) (k v : Int) : List KD := F.set k.toNat ([v], [])
theorem itR_key {k v n : Int} {l : List (Int × Int)} (h : itR k v n l = true) : 0 ≤ k ∧ k < 24 := rightK_key (x := ([k, v, n], l)) h
theorem shAt_setFlo {w : World} {g : Nat} {fr : Fr} {X : List (Option KD)} {F : List KD} (h : ShAt w g fr X F) (i : Nat) (hi : i < 24) (v : Int) :
    ShAt (w.setCell ⟨g, fr.pre.length + 84 + i, none⟩ (.int .i64 v)) g fr X (F.set i ([v], [])) :=
  ⟨h.x4, by rw [List.length_set, h.f24], by rw [heap_setCell_same w g _ _ fr.t _ h.row, ← cellsS_setFlo fr X F i v h.x4 (by rw [h.f24]; exact hi)]; simp⟩
theorem Rd.only {w w' : World} {u : Value} {l : List (Int × Int)} {G : Nat → Prop} (h : Rd w u l) (ho : Only G w w') (hn : 0 < l.length → ∀ b, u.ownBlock = some b → ¬ G b) : Rd w' u l := by
  obtain ⟨ao, cap, rfl, hl, hc⟩ := h
  refine ⟨ao, cap, rfl, hl, fun h0 => ?_⟩
  obtain ⟨b, off, rfl, hb, hcc⟩ := hc h0
  have hg := ho.block b hb (hn h0 b rfl)
  refine ⟨b, off, rfl, Nat.lt_of_lt_of_le hb ho.size, fun i hi => ?_⟩
  obtain ⟨c0, c1⟩ := hcc i hi
  exact ⟨(World.cell?_of_block (a := ⟨b, off + i * 2, none⟩) hg).trans c0, (World.cell?_of_block (a := ⟨b, off + i * 2 + 1, none⟩) hg).trans c1⟩
theorem Rd.drew' {w : World} {u : Value} {l : List (Int × Int)} (h : Rd w u l) : Rd w.drew u l := by
  obtain ⟨ao, cap, hv, hl, hc⟩ := h
  exact ⟨ao, cap, hv, hl, fun h0 => by
    obtain ⟨b, off, ha, hb, hcc⟩ := hc h0
    exact ⟨b, off, ha, hb, fun i hi => by simpa using hcc i hi⟩⟩
theorem stQ_first {W : World} {g : Nat} {fr : Fr} {X : List (Option KD)} {F : List KD} (h : ShAt W g fr X F) (k v n : Int) (l : List (Int × Int)) :
    ∃ W', (stQ (.pointer (some ⟨g, fr.pre.length, none⟩)) (.agg (spotC true k v n l).toArray)).run Try.prog W = .ok () W' ∧ ShAt W' g fr (splice X 0 [some ([k, v, n], l)]) F ∧ Only (fun k => k = g) W W' := stQ_at h 0 (by omega) (some ([k, v, n], l))
theorem splice_put {X : List (Option KD)} (h4 : X.length = 4) (x : Option KD) : splice (splice X 1 (X.take 3)) 0 [x] = x :: X.take 3 := by
  match X, h4 with
  | [a, b, c, d], _ => rfl
theorem put_copied {w w' : World} {g : Nat} {fr : Fr} {X : List (Option KD)} {F : List KD} (h : ShAt w g fr X F) (hg : w'.heap[g]? = some (.cells (splice (cellsS fr X F) (fr.pre.length + 21) (spotsC (X.take 3))).toArray fr.t (0, 0))) :
    ShAt w' g fr (splice X 1 (X.take 3)) F := by
  have hl : 1 + (X.take 3).length ≤ X.length := by rw [List.length_take, h.x4]; omega
  exact ⟨by rw [length_splice _ _ _ hl, h.x4], h.f24, by rw [hg, ← splice_spots fr X _ F 1 hl]⟩
set_option maxRecDepth 100000 in
set_option maxHeartbeats 4000000 in
theorem putX_any (g : Nat) (fr : Fr) (X : List (Option KD)) (F : List KD) (k v n : Int) (u : Value) (l : List (Int × Int)) (w : World) (h : ShAt w g fr X F) (hu : Rd w u l) (hub : 0 < l.length → ∀ b, u.ownBlock = some b → ¬ b = g) (hp : putB F k v n l = true) :
    Calls Try.prog 52 #[.pointer (some ⟨g, fr.pre.length, none⟩), .agg #[.int .i64 k, .int .i64 v, .int .i64 n, u]] w fun e w' => e = .returned (.bool true) ∧ ShAt w' g fr (putX X k v n l) (putF F k v) ∧ Only (fun j => j = g) w w' := by
  have HS := hid h
  have HU := hid hu
  have HUB := hid hub
  clear h hu hub
  unfold putB at hp
  rw [Bool.and_eq_true] at hp
  obtain ⟨hit, hfl⟩ := hp
  have hk := itR_key hit
  obtain ⟨kk, rfl⟩ := Int.eq_ofNat_of_zero_le hk.1
  have hkk : kk < 24 := by omega
  have hfl : flr F kk ≤ v := by simpa using hfl
  have hlt : decide (v < flr F kk) = false := by simp; omega
  have hco := fun (W : World) (hr : Rd W u l) => itemRight_any (kk : Int) v n u l W hr
  rw [hit] at hco
  obtain ⟨i0, hi0, hz0⟩ := Try.infoX_spot2
  have HI := hid hi0
  have HZ := hid hz0
  clear hi0 hz0 hfl hk hit
  have hgl := HS.out.lt
  have bb : Below w.heap.size w (w.alloc (.cells #[.int .i64 (kk : Int), .int .i64 v, .int .i64 n, u] 31)) := by go_grown
  go_enter Try.func52, Try.ntmps52
  go_wp2_with fail
  have a0_1 : (w.alloc (.cells #[.int .i64 (kk : Int), .int .i64 v, .int .i64 n, u] 31)).cell? ⟨w.heap.size, 0, none⟩ = some (.int .i64 (kk : Int)) := by go_cell
  have a1_1 : (w.alloc (.cells #[.int .i64 (kk : Int), .int .i64 v, .int .i64 n, u] 31)).cell? ⟨w.heap.size, 1, none⟩ = some (.int .i64 v) := by go_cell
  have a2_1 : (w.alloc (.cells #[.int .i64 (kk : Int), .int .i64 v, .int .i64 n, u] 31)).cell? ⟨w.heap.size, 2, none⟩ = some (.int .i64 n) := by go_cell
  have a3_1 : (w.alloc (.cells #[.int .i64 (kk : Int), .int .i64 v, .int .i64 n, u] 31)).cell? ⟨w.heap.size, 3, none⟩ = some (u) := by go_cell
  have al_1 : w.heap.size < (w.alloc (.cells #[.int .i64 (kk : Int), .int .i64 v, .int .i64 n, u] 31)).heap.size := by first | (simp; done) | (simp; omega)
  have c1 : Below w.heap.size w (w.alloc (.cells #[.int .i64 (kk : Int), .int .i64 v, .int .i64 n, u] 31)) := by go_grown
  have s1 : (w.alloc (.cells #[.int .i64 (kk : Int), .int .i64 v, .int .i64 n, u] 31)).heap.size = w.heap.size + 1 := by simp
  generalize (w.alloc (.cells #[.int .i64 (kk : Int), .int .i64 v, .int .i64 n, u] 31)) = w1 at a0_1 a1_1 a2_1 a3_1 al_1 c1 s1 ⊢
  have qa0_1 := cell_regrown a0_1
  have qa1_1 := cell_regrown a1_1
  have qa2_1 := cell_regrown a2_1
  have qa3_1 := cell_regrown a3_1
  have HS1 := hid (HS.out.later c1)
  have HU1 := hid (HU.out.later c1)
  have f1 := HS1.out.flo kk hkk
  have qf1 := cell_regrown f1
  refine wp_region_quiet_below (by kernel_rfl) (by kernel_rfl) ?_
  repeat (first | go_big_quiet_skip | (go_big_quiet_want; go_big_quiet_op; first | go_big_quiet_on | go_big_quiet_call (first | (go_at_call 67; exact Calls.regrown_of (hco _ (HU1.out.later (below_regrown _ _ _)))))))
  refine wpQuiet_nil ?_
  rintro wq ⟨pq, hwq⟩
  have hq : Below w1.heap.size w1 wq := by rw [hwq]; exact below_regrown _ _ _
  clear hwq pq
  have a0_2 := (hq.cell (p := ⟨w.heap.size, 0, none⟩) al_1).trans a0_1
  have a1_2 := (hq.cell (p := ⟨w.heap.size, 1, none⟩) al_1).trans a1_1
  have a2_2 := (hq.cell (p := ⟨w.heap.size, 2, none⟩) al_1).trans a2_1
  have a3_2 := (hq.cell (p := ⟨w.heap.size, 3, none⟩) al_1).trans a3_1
  have HS2 := hid (HS1.out.later hq)
  have O2 : Hid (Only (fun j => j = g) w wq) := hid ((Only.later c1).trans (Only.later hq))
  have al_2 : w.heap.size < wq.heap.size := Nat.lt_of_lt_of_le al_1 hq.size
  clear a0_1 a1_1 a2_1 a3_1 qa0_1 qa1_1 qa2_1 qa3_1 f1 qf1 HS1 HU1 hlt hco
  go_wp2_with fail
  refine (dropX_any g fr X F (kk : Int) _ HS2.out).mono ?_
  rintro e w3 ⟨rfl, h3, o3⟩
  have hne : ¬ (w.heap.size = g) := by omega
  have a0_3 := (World.cell?_of_block (a := ⟨w.heap.size, 0, none⟩) (o3.block _ al_2 hne)).trans a0_2
  have a1_3 := (World.cell?_of_block (a := ⟨w.heap.size, 1, none⟩) (o3.block _ al_2 hne)).trans a1_2
  have a2_3 := (World.cell?_of_block (a := ⟨w.heap.size, 2, none⟩) (o3.block _ al_2 hne)).trans a2_2
  have a3_3 := (World.cell?_of_block (a := ⟨w.heap.size, 3, none⟩) (o3.block _ al_2 hne)).trans a3_2
  have HS3 := hid h3
  have O3 : Hid (Only (fun j => j = g) w w3) := hid (O2.out.trans o3)
  have al_3 : w.heap.size < w3.heap.size := Nat.lt_of_lt_of_le al_2 o3.size
  clear a0_2 a1_2 a2_2 a3_2 HS2 O2 h3 o3 al_2 hq
  go_wp2_with fail
  go_region_law (refine step_copyS rfl _ _ 95 95 rfl 65 i0 Try.underlying95 HI.out g (fr.pre.length + 21) 3 3 ⟨g, fr.pre.length, none⟩ 4 4 (by simp [Act.eval, Act.put]) (by simp [Act.eval, Act.put]) _ fr.t HS3.out.row (spotsC ((dropX (kk : Int) X).take 3)) (by rw [HZ.out, spotsC_length, List.length_take, HS3.out.x4]; decide) (spots_src HS3.out.drew 0 (by omega) _ ⟨(dropX (kk : Int) X).drop 3, by simp⟩ _ rfl) (by rw [cellsS_length, spotsC_length, List.length_take, HS3.out.x4]; omega) (spotsC_one _) g w3 ((Below.refl _ _).drew) (Nat.le_refl _) ?_; intro w4 HG4 hB4 hg4)
  have h4 := put_copied HS3.out HG4.out
  have o4 := drop_only (Below.refl _ _) hB4 hg4
  have a0_4 := (World.cell?_of_block (a := ⟨w.heap.size, 0, none⟩) (o4.block _ al_3 hne)).trans a0_3
  have a1_4 := (World.cell?_of_block (a := ⟨w.heap.size, 1, none⟩) (o4.block _ al_3 hne)).trans a1_3
  have a2_4 := (World.cell?_of_block (a := ⟨w.heap.size, 2, none⟩) (o4.block _ al_3 hne)).trans a2_3
  have a3_4 := (World.cell?_of_block (a := ⟨w.heap.size, 3, none⟩) (o4.block _ al_3 hne)).trans a3_3
  have HS4 := hid h4
  have O4 : Hid (Only (fun j => j = g) w w4) := hid (O3.out.trans o4)
  have al_4 : w.heap.size < w4.heap.size := Nat.lt_of_lt_of_le al_3 o4.size
  clear a0_3 a1_3 a2_3 a3_3 HS3 O3 h4 o4 al_3 HG4 hB4 hg4
  have HS4' : Hid ((dropX (kk : Int) X).length = 4) := hid (dropX_length HS.out.x4)
  have HU4 : Hid (Rd w4.drew u l) := hid (Rd.drew' (HU.out.only O4.out HUB.out))
  go_wp2_with fail
  go_region_with (first | (go_at_call 56; refine (spotOf_any _ _ _ _ _ _ HU4.out).mono ?_; rintro e w5 ⟨rfl, b5⟩; have hst5 := hid (stQ_first (HS4.out.drew.later b5) (kk : Int) v n l); obtain ⟨w6, hst, h6, o6⟩ := hst5.out))
  have o5 : Only (fun j => j = g) w4 w6 := (Only.later ((Below.refl w4.heap.size w4).drew.trans b5)).trans o6
  have a0_6 := (World.cell?_of_block (a := ⟨w.heap.size, 0, none⟩) (o5.block _ al_4 hne)).trans a0_4
  have a1_6 := (World.cell?_of_block (a := ⟨w.heap.size, 1, none⟩) (o5.block _ al_4 hne)).trans a1_4
  have HS6 := hid h6
  have O6 : Hid (Only (fun j => j = g) w w6) := hid (O4.out.trans o5)
  have c6 := HS6.out.flo kk hkk
  have cf6 := HS6.out.frozen (fr.pre.length + 84 + kk)
  have HE : Hid (ShAt (w6.drew.setCell ⟨g, fr.pre.length + 84 + kk, none⟩ (.int .i64 v)) g fr (putX X kk v n l) (putF F kk v)) := hid (by
    have := shAt_setFlo HS6.out.drew kk hkk v
    rw [splice_put HS4'.out] at this
    exact this)
  clear a0_4 a1_4 a2_4 a3_4 HS4 O4 o5 h6 o6 b5 hst hst5 HU4
  have O7 : Hid (Only (fun j => j = g) w (w6.drew.setCell ⟨g, fr.pre.length + 84 + kk, none⟩ (.int .i64 v))) := hid (O6.out.trans ((Only.later (Below.refl w6.heap.size w6).drew).trans (Only.set (F := fun j => j = g) w6.drew (p := ⟨g, fr.pre.length + 84 + kk, none⟩) rfl _)))
  go_wp2_with fail
  go_region
  go_wp2_with fail
  go_ret
  exact ⟨rfl, HE.out, O7.out⟩
set_option maxRecDepth 100000 in
set_option maxHeartbeats 4000000 in
theorem putX_no (g : Nat) (fr : Fr) (X : List (Option KD)) (F : List KD) (k v n : Int) (u : Value) (l : List (Int × Int)) (w : World) (h : ShAt w g fr X F) (hu : Rd w u l) (hp : putB F k v n l = false) :
    Calls Try.prog 52 #[.pointer (some ⟨g, fr.pre.length, none⟩), .agg #[.int .i64 k, .int .i64 v, .int .i64 n, u]] w fun e w' => e = .returned (.bool false) ∧ Below w.heap.size w w' := by
  have HS := hid h
  have HU := hid hu
  clear h hu
  have hco := fun (W : World) (hr : Rd W u l) => itemRight_any k v n u l W hr
  cases hit : itR k v n l with
  | false =>
    rw [hit] at hco
    go_enter Try.func52, Try.ntmps52
    go_wp2_with fail
    have a0_1 : (w.alloc (.cells #[.int .i64 k, .int .i64 v, .int .i64 n, u] 31)).cell? ⟨w.heap.size, 0, none⟩ = some (.int .i64 k) := by go_cell
    have a1_1 : (w.alloc (.cells #[.int .i64 k, .int .i64 v, .int .i64 n, u] 31)).cell? ⟨w.heap.size, 1, none⟩ = some (.int .i64 v) := by go_cell
    have a2_1 : (w.alloc (.cells #[.int .i64 k, .int .i64 v, .int .i64 n, u] 31)).cell? ⟨w.heap.size, 2, none⟩ = some (.int .i64 n) := by go_cell
    have a3_1 : (w.alloc (.cells #[.int .i64 k, .int .i64 v, .int .i64 n, u] 31)).cell? ⟨w.heap.size, 3, none⟩ = some (u) := by go_cell
    have al_1 : w.heap.size < (w.alloc (.cells #[.int .i64 k, .int .i64 v, .int .i64 n, u] 31)).heap.size := by first | (simp; done) | (simp; omega)
    have c1 : Below w.heap.size w (w.alloc (.cells #[.int .i64 k, .int .i64 v, .int .i64 n, u] 31)) := by go_grown
    have s1 : (w.alloc (.cells #[.int .i64 k, .int .i64 v, .int .i64 n, u] 31)).heap.size = w.heap.size + 1 := by simp
    generalize (w.alloc (.cells #[.int .i64 k, .int .i64 v, .int .i64 n, u] 31)) = w1 at a0_1 a1_1 a2_1 a3_1 al_1 c1 s1 ⊢
    have qa0_1 := cell_regrown a0_1
    have qa1_1 := cell_regrown a1_1
    have qa2_1 := cell_regrown a2_1
    have qa3_1 := cell_regrown a3_1
    have HU1 := hid (HU.out.later c1)
    refine wp_region_quiet_below (by kernel_rfl) (by kernel_rfl) ?_
    repeat (first | go_big_quiet_skip | (go_big_quiet_want; go_big_quiet_op; first | go_big_quiet_on | go_big_quiet_call (first | (go_at_call 67; exact Calls.regrown_of (hco _ (HU1.out.later (below_regrown _ _ _)))))))
    refine wpQuiet_nil ?_
    rintro wq ⟨pq, hwq⟩
    have hq : Below w1.heap.size w1 wq := by rw [hwq]; exact below_regrown _ _ _
    clear hwq pq
    have B2 := hid (c1.trans (hq.mono c1.size))
    clear hq hco
    go_wp2_with fail
    go_ret
    exact ⟨by simp, B2.out⟩
  | true =>
    rw [hit] at hco
    have hk := itR_key hit
    obtain ⟨kk, rfl⟩ := Int.eq_ofNat_of_zero_le hk.1
    have hkk : kk < 24 := by omega
    have hlt : decide (v < flr F kk) = true := by
      simp [putB, hit] at hp
      simpa using hp
    clear hk hit hp
    go_enter Try.func52, Try.ntmps52
    go_wp2_with fail
    have a0_1 : (w.alloc (.cells #[.int .i64 (kk : Int), .int .i64 v, .int .i64 n, u] 31)).cell? ⟨w.heap.size, 0, none⟩ = some (.int .i64 (kk : Int)) := by go_cell
    have a1_1 : (w.alloc (.cells #[.int .i64 (kk : Int), .int .i64 v, .int .i64 n, u] 31)).cell? ⟨w.heap.size, 1, none⟩ = some (.int .i64 v) := by go_cell
    have a2_1 : (w.alloc (.cells #[.int .i64 (kk : Int), .int .i64 v, .int .i64 n, u] 31)).cell? ⟨w.heap.size, 2, none⟩ = some (.int .i64 n) := by go_cell
    have a3_1 : (w.alloc (.cells #[.int .i64 (kk : Int), .int .i64 v, .int .i64 n, u] 31)).cell? ⟨w.heap.size, 3, none⟩ = some (u) := by go_cell
    have al_1 : w.heap.size < (w.alloc (.cells #[.int .i64 (kk : Int), .int .i64 v, .int .i64 n, u] 31)).heap.size := by first | (simp; done) | (simp; omega)
    have c1 : Below w.heap.size w (w.alloc (.cells #[.int .i64 (kk : Int), .int .i64 v, .int .i64 n, u] 31)) := by go_grown
    have s1 : (w.alloc (.cells #[.int .i64 (kk : Int), .int .i64 v, .int .i64 n, u] 31)).heap.size = w.heap.size + 1 := by simp
    generalize (w.alloc (.cells #[.int .i64 (kk : Int), .int .i64 v, .int .i64 n, u] 31)) = w1 at a0_1 a1_1 a2_1 a3_1 al_1 c1 s1 ⊢
    have qa0_1 := cell_regrown a0_1
    have qa1_1 := cell_regrown a1_1
    have qa2_1 := cell_regrown a2_1
    have qa3_1 := cell_regrown a3_1
    have HS1 := hid (HS.out.later c1)
    have HU1 := hid (HU.out.later c1)
    have f1 := HS1.out.flo kk hkk
    have qf1 := cell_regrown f1
    refine wp_region_quiet_below (by kernel_rfl) (by kernel_rfl) ?_
    repeat (first | go_big_quiet_skip | (go_big_quiet_want; go_big_quiet_op; first | go_big_quiet_on | go_big_quiet_call (first | (go_at_call 67; exact Calls.regrown_of (hco _ (HU1.out.later (below_regrown _ _ _)))))))
    refine wpQuiet_nil ?_
    rintro wq ⟨pq, hwq⟩
    have hq : Below w1.heap.size w1 wq := by rw [hwq]; exact below_regrown _ _ _
    clear hwq pq
    have B2 := hid (c1.trans (hq.mono c1.size))
    clear hq hco
    go_wp2_with fail
    go_ret
    exact ⟨by simp, B2.out⟩
end Go.Proofs.Ytnenlnadmdlcfaa
