/- slices.Insert of one edge into a list that is owned: contract. -/
import Derived.Test.YtpdfhffmhlgcmaaAdP
import Derived.Test.YtpdfhffmhlgcmaaCp
import Derived.Test.YtpdfhffmhlgcmaaGa
import Derived.Test.YtpdfhffmhlgcmaaMark
import Derived.Lib.AppendZerosOnto
import Derived.Lib.Overlaps
import Derived.BigQuiet
import Derived.Deep.RegionLaw
import Derived.Deep.RegionWith
import Derived.Lib.QuietBelow
namespace Go.Proofs.Ytpdfhffmhlgcmaa
open Go.RowKit Go.Shelf

set_option maxRecDepth 100000 in
set_option maxHeartbeats 1000000 in
theorem insEnd_any (v : Value) (l : List (Int × Int)) (e : Int × Int) (B vb vc : Nat) (w : World) (h : Own w B v l) (hl : l.length ≤ 1099511627776) (hB : B ≤ w.heap.size)
    (hv : PairAt w vb e) :
    Calls Try.prog 42 #[v, .int .i64 l.length, .slice (some ⟨vb, 0, none⟩) 1 vc] w fun x w' => ∃ v', x = .returned v' ∧ Own w' B v' (l ++ [e]) ∧ Below B w w' := by
  obtain ⟨i0, hi, hz0, hz1, hz2⟩ := info_parts Try.info65
  have HO := hid h
  have hk1 : l.length + 1 ≤ maxLen := by unfold maxLen; omega
  have hk2 : (l.length + 1) * 16 ≤ 140737488355328 := by omega
  have hcells : ∀ j u, [Value.int .i64 e.1, Value.int .i64 e.2][j]? = some u → w.cell? ((⟨vb, 0, none⟩ : Addr).add j) = some u := by
    intro j u h
    match j, h with
    | 0, h => simp at h; subst h; simp [Addr.add, hv.c0]
    | 1, h => simp at h; subst h; simp [Addr.add, hv.c1]
    | j + 2, h => simp at h
  have HV := hid hv
  have HC := hid hcells
  rcases h.2 with ⟨rfl, hn⟩ | ⟨g, cap, cur, rfl, hb, hg, hnc, hcm, hcs, htake⟩
  · clear h
    have : l = [] := List.eq_nil_of_length_eq_zero hn
    subst this
    clear hn hcells hv
    go_enter Try.func42, Try.ntmps42
    go_wp2_with (at_builtin; refine wpList_append_own _ rfl _ _ 35 rfl B 65 i0 (.agg #[.int .i64 0, .int .i64 0]) 2 16 Try.underlying35 hi hz0 hz1 hz2 rfl (by decide) _ _ _ rfl HO.out ⟨vb, 0, none⟩ 1 vc [.int .i64 e.1, .int .i64 e.2] rfl rfl HC.out (by simp [Value.oneCell']) hk1 hk2 hB ?_; intro v' w1 hown' hgrow' _; obtain ⟨g', cap', rfl⟩ := ownsRow_succ hown')
    go_ret
    refine ⟨_, rfl, ?_, Below.of_grown hgrow' hB (fun k hk => (HO.out.block k hk).1)⟩
    show World.ownsRow _ _ _ _ _ _ _
    simpa [ecells] using hown'
  · clear h
    clear hcells hv
    unfold maxLen at hcm
    go_enter Try.func42, Try.ntmps42
    go_wp2_with (at_builtin; refine wpList_append_own _ rfl _ _ 35 rfl B 65 i0 (.agg #[.int .i64 0, .int .i64 0]) 2 16 Try.underlying35 hi hz0 hz1 hz2 rfl (by decide) _ _ _ rfl HO.out ⟨vb, 0, none⟩ 1 vc [.int .i64 e.1, .int .i64 e.2] rfl rfl HC.out (by simp [Value.oneCell']) hk1 hk2 hB ?_; intro v' w1 hown' hgrow' _; obtain ⟨g', cap', rfl⟩ := ownsRow_succ hown')
    all_goals
      go_ret
      refine ⟨_, rfl, ?_, Below.of_grown hgrow' hB (fun k hk => (HO.out.block k hk).1)⟩
      show World.ownsRow _ _ _ _ _ _ _
      rw [ecells_append]
      simpa [ecells] using hown'
/-- What insert leaves in a row: two copies. -/
theorem splice_two (A X1 X2 Y Z : List Value) (hA : A = X1 ++ X2 ++ Z) (hZ : Y.length ≤ Z.length) :
    ∃ R, splice (splice A (X1.length + Y.length) X2) X1.length Y = X1 ++ Y ++ X2 ++ R := by
  subst hA
  have hP : ((X2 ++ Z).take Y.length).length = Y.length := by simp; omega
  have h1 : splice (X1 ++ X2 ++ Z) (X1.length + Y.length) X2 = X1 ++ ((X2 ++ Z).take Y.length ++ (X2 ++ (X1 ++ X2 ++ Z).drop (X1.length + Y.length + X2.length))) := by
    unfold splice
    rw [List.append_assoc X1 X2 Z, List.take_length_add_append, List.append_assoc X1]
  refine ⟨(X1 ++ X2 ++ Z).drop (X1.length + Y.length + X2.length), ?_⟩
  rw [h1]
  generalize (X1 ++ X2 ++ Z).drop (X1.length + Y.length + X2.length) = R
  generalize (X2 ++ Z).take Y.length = P at hP
  unfold splice
  rw [List.take_left', List.drop_append, List.drop_of_length_le (by omega), Nat.add_sub_cancel_left, List.nil_append, ← hP, List.drop_left]
  · simp only [List.append_assoc]
  · rfl
theorem splice_two' (A X1 X2 Y Z : List Value) (hA : A = X1 ++ Z) :
    ∃ R, splice (splice A X1.length Y) (X1.length + Y.length) X2 = X1 ++ Y ++ X2 ++ R := by
  subst hA
  have h1 : splice (X1 ++ Z) X1.length Y = (X1 ++ Y) ++ Z.drop Y.length := by
    unfold splice
    rw [List.take_left, List.drop_length_add_append, List.append_assoc]
  refine ⟨((X1 ++ Y) ++ Z.drop Y.length).drop (X1.length + Y.length + X2.length), ?_⟩
  rw [h1]
  generalize Z.drop Y.length = R
  unfold splice
  rw [List.take_left' (by simp)]
  simp only [List.append_assoc]

theorem pair_cells {w : World} {vb : Nat} {e : Int × Int} (hv2 : PairAt w vb e) : ∀ j u, [Value.int .i64 e.1, Value.int .i64 e.2][j]? = some u → w.cell? ((⟨vb, 0, none⟩ : Addr).add j) = some u := by
  intro j u h
  match j, h with
  | 0, h => simp at h; subst h; simp [Addr.add, hv2.c0]
  | 1, h => simp at h; subst h; simp [Addr.add, hv2.c1]
  | j + 2, h => simp at h
theorem copy_one {a b : Value} {n s : Nat} (hn : 1 ≤ n) (hs : s = 2) : [a, b].length = Nat.min 1 n * s := by
  rw [hs, show Nat.min 1 n = 1 from Nat.min_eq_left hn]; rfl

/-- A row that begins with the cells of what insert asks for owns it. -/
theorem own_insert {w : World} {B g cap k : Nat} {l : List (Int × Int)} {e : Int × Int} {X1 X2 L : List Value} (h1 : X1 = ecells (l.take k)) (h2 : X2 = ecells (l.drop k)) (l1 : X1.length = k * 2) (hk : k ≤ l.length)
    (hg : w.heap[g]? = some (.cells (splice (splice L ((k + 1) * 2) X2) (k * 2) [.int .i64 e.1, .int .i64 e.2]).toArray 65 (0, 0)))
    (hsp : ∃ R, splice (splice L (X1.length + 2) X2) X1.length [.int .i64 e.1, .int .i64 e.2] = X1 ++ [.int .i64 e.1, .int .i64 e.2] ++ X2 ++ R)
    (hb : B ≤ g) (hc : l.length + 1 ≤ cap) (hm : cap ≤ maxLen) (lL : L.length = cap * 2) : Own w B (.slice (some ⟨g, 0, none⟩) (l.length + 1) cap) (insAt l k e) := by
  obtain ⟨R, hR⟩ := hsp
  have l2 : X2.length = (l.length - k) * 2 := by rw [h2, ecells_length, List.length_drop]
  have hlen : (insAt l k e).length = l.length + 1 := by simp [insAt]; omega
  have hcells : ecells (insAt l k e) = X1 ++ [.int .i64 e.1, .int .i64 e.2] ++ X2 := by
    rw [insAt, ecells_append, h1, h2]
    simp [ecells]
  have hle : (splice (splice L ((k + 1) * 2) X2) (k * 2) [Value.int .i64 e.1, Value.int .i64 e.2]).length = cap * 2 := by
    have a1 : (splice L ((k + 1) * 2) X2).length = cap * 2 := (length_splice _ _ _ (by omega)).trans lL
    rw [length_splice _ _ _ (by rw [a1]; simp; omega), a1]
  rw [l1, show k * 2 + 2 = (k + 1) * 2 by omega] at hR
  refine ⟨by rw [ecells_length], .inr ⟨g, cap, _, by rw [hlen], hb, hg, by omega, hm, by simpa using hle, ?_⟩⟩
  rw [hlen, hcells]
  show List.take _ (splice _ _ _) = _
  rw [hR, List.take_left' (by simp [l1, l2]; omega)]

set_option maxRecDepth 100000 in
set_option maxRecDepth 100000 in
set_option maxHeartbeats 4000000 in
theorem insMid_any (g cap : Nat) (l : List (Int × Int)) (k : Nat) (e : Int × Int) (B vb vc : Nat) (w : World) (h : Own w B (.slice (some ⟨g, 0, none⟩) l.length cap) l) (hl : l.length ≤ 1099511627776) (hk : k < l.length) (hroom : l.length < cap)
    (hv : PairAt w vb e) (hne : vb ≠ g) :
    Calls Try.prog 42 #[.slice (some ⟨g, 0, none⟩) l.length cap, .int .i64 k, .slice (some ⟨vb, 0, none⟩) 1 vc] w fun x w' => ∃ v', x = .returned v' ∧ Own w' B v' (insAt l k e) ∧ Below B w w' := by
  obtain ⟨i0, hi, hz0, hz1, hz2⟩ := info_parts Try.info65
  have hcells : ∀ j u, [Value.int .i64 e.1, Value.int .i64 e.2][j]? = some u → w.cell? ((⟨vb, 0, none⟩ : Addr).add j) = some u := by
    intro j u h
    match j, h with
    | 0, h => simp at h; subst h; simp [Addr.add, hv.c0]
    | 1, h => simp at h; subst h; simp [Addr.add, hv.c1]
    | j + 2, h => simp at h
  have HV := hid hv
  have HC := hid hcells
  clear hcells hv
  rcases h.2 with ⟨hh, hn⟩ | ⟨g', cap', cur, hh, hb, hg, hnc, hcm, hcs, htake⟩
  · cases hh
  cases hh
  have hcm' := hid hcm
  unfold maxLen at hcm
  have hov : ∀ (W : World), W.heap[vb]? = w.heap[vb]? → W.heap[g]? = w.heap[g]? → ∀ oc lb cb, (callFunc 50 #[.slice (some ⟨vb, 0, none⟩) 1 oc, .slice (some ⟨g, (k + 1) * 2, none⟩) lb cb]).run Try.prog W = .ok (.value (.bool false)) W := by
    intro W e1 e2 oc lb cb
    have s1 : W.shape? vb = some (65, 2) := by unfold World.shape?; rw [e1, show w.heap[vb]? = _ from HV.out]; rfl
    have s2 : W.shape? g = some (65, cur.size) := by unfold World.shape?; rw [e2, hg]
    have s3 : ∀ o, W.frozen? ⟨vb, o, none⟩ = false := by intro o; unfold World.frozen?; simp only [e1, show w.heap[vb]? = _ from HV.out]; simp
    rw [run_callFunc_extern Try.func50 (by kernel_rfl) (by kernel_rfl) (by kernel_rfl) (e := Extern.SlicesOverlaps.overlaps #[35, 35] #[4]) (by kernel_rfl),
      Lib.run_overlaps_apart W 35 4 65 Try.underlying35 2 (fun W => by simp [sizeOf, typeInfo, hi, hz1]) ⟨vb, 0, none⟩ ⟨g, (k + 1) * 2, none⟩ 1 oc lb cb hne 65 65 2 cur.size s1 s2 (by omega) (s3 _) (s3 _)]
    rfl
  obtain ⟨X1, hX1⟩ : ∃ X, X = ecells (l.take k) := ⟨_, rfl⟩
  obtain ⟨X2, hX2⟩ : ∃ X, X = ecells (l.drop k) := ⟨_, rfl⟩
  have l1 : X1.length = k * 2 := by rw [hX1, ecells_length, List.length_take]; omega
  have l2 : X2.length = (l.length - k) * 2 := by rw [hX2, ecells_length, List.length_drop]
  have o2 : ∀ u ∈ X2, u.oneCell' = true := by rw [hX2]; exact ecells_one _
  have hL : cur.toList = X1 ++ X2 ++ cur.toList.drop (l.length * 2) := by
    rw [hX1, hX2, ← ecells_append, List.take_append_drop, ← htake, List.take_append_drop]
  obtain ⟨Z, hZ⟩ : ∃ Z, Z = cur.toList.drop (l.length * 2) := ⟨_, rfl⟩
  have lZ : Z.length = (cap - l.length) * 2 := by rw [hZ, List.length_drop]; simp [hcs]; omega
  rw [← hZ] at hL
  obtain ⟨L, hLL⟩ : ∃ L, L = cur.toList := ⟨_, rfl⟩
  rw [← hLL] at hL
  have lL : L.length = cap * 2 := by rw [hLL]; simpa using hcs
  have hgL : w.heap[g]? = some (.cells L.toArray 65 (0, 0)) := by rw [hLL]; exact hg
  have hsrc : ∀ j v, X2[j]? = some v → w.cell? ((⟨g, k * 2, none⟩ : Addr).add j) = some v := by
    intro j v hj
    have hjl : j < X2.length := (List.getElem?_eq_some_iff.1 hj).1
    rw [Addr.add_lit, cell_of_row w g (k * 2 + j) cur 65 (0, 0) hg, ← Array.getElem?_toList, ← hLL, hL, List.append_assoc, List.getElem?_append_right (by omega), l1, Nat.add_sub_cancel_left, List.getElem?_append_left hjl]
    exact hj
  have hfit : (k + 1) * 2 + X2.length ≤ L.length := by omega
  have hfit2 : k * 2 + 2 ≤ (splice L ((k + 1) * 2) X2).length := by rw [length_splice _ _ _ hfit]; omega
  have hn2 : X2.length = Nat.min (l.length + 1 - k) (l.length - k) * i0.size := by rw [l2, hz1, show Nat.min (l.length + 1 - k) (l.length - k) = l.length - k from (Nat.min_eq_right (by omega)).trans (by omega)]
  have HSP := hid (splice_two L X1 X2 [.int .i64 e.1, .int .i64 e.2] Z hL (by simp; omega))
  have HX := hid (And.intro hX1 hX2)
  have HLL := hid (And.intro l1 (And.intro l2 (And.intro lL lZ)))
  have hgt := (Array.getElem?_eq_some_iff.1 hg).1
  have hvt := (Array.getElem?_eq_some_iff.1 HV.out).1
  have hcap1 : ¬ (cap = k) := by omega
  have hcap2 : ¬ (cap = k + 1) := by omega
  have hk64 : IntKind.i64.wrap ((k : Int) + 1) = (k : Int) + 1 := by rw [IntKind.wrap_i64]; omega
  have htn : ((k : Int) + 1).toNat = k + 1 := by omega
  have hb1 : (0 : Int) ≤ (k : Int) + 1 := by omega
  have hk' : k ≤ l.length := by omega
  have hk2' : (k : Int) ≤ (l.length : Int) + 1 := by omega
  have HSRC := hid hsrc
  have HGL := hid hgL
  clear h hg htake hL hZ hLL hX1 hX2 hgL hsrc lZ l1 l2 lL
  go_enter Try.func42, Try.ntmps42
  go_wp2_with (simp only [hov _ rfl rfl])
  go_region_law (refine step_copyS rfl _ _ 35 35 rfl 65 i0 Try.underlying35 hi g ((k + 1) * 2) (l.length - k) (cap - (k + 1)) ⟨g, k * 2, none⟩ (l.length + 1 - k) (cap - k) (by simp [Act.eval, Act.put]) (by simp [Act.eval, Act.put]) L 65 HGL.out X2 hn2 HSRC.out hfit o2 B w ((Below.refl _ _).drew) hb ?_; intro w1 HG1 hB1 hg1)
  have HC1 := hid (pair_cells (hv2 := (hg1 vb hne).trans HV.out))
  have hfit2' := hid hfit2
  clear hov HV HC HSRC HGL hn2 hfit hfit2
  go_wp2_with (refine wpList_copyS rfl _ _ 35 35 rfl 65 i0 Try.underlying35 hi g (k * 2) (l.length + 1 - k) (cap - k) ⟨vb, 0, none⟩ 1 vc rfl rfl _ 65 HG1.out [.int .i64 e.1, .int .i64 e.2] (copy_one (by omega) hz1) HC1.out hfit2'.out (by simp [Value.oneCell']) B w hB1 hb ?_; intro w2 HG2 hB2 hg2)
  go_ret
  exact ⟨_, rfl, own_insert HX.out.1 HX.out.2 HLL.out.1 (by omega) HG2.out HSP.out hb (by omega) hcm'.out HLL.out.2.2.1, hB2⟩
theorem own_grown {w : World} {B g cap k : Nat} {l : List (Int × Int)} {e : Int × Int} {X1 X2 L Z : List Value} (h1 : X1 = ecells (l.take k)) (h2 : X2 = ecells (l.drop k)) (l1 : X1.length = k * 2) (hk : k ≤ l.length)
    (hg : w.heap[g]? = some (.cells (splice (splice L (k * 2) [.int .i64 e.1, .int .i64 e.2]) ((k + 1) * 2) X2).toArray 65 (0, 0)))
    (hL : L = X1 ++ Z) (hb : B ≤ g) (hc : l.length + 1 ≤ cap) (hm : cap ≤ maxLen) (lL : L.length = cap * 2) : Own w B (.slice (some ⟨g, 0, none⟩) (l.length + 1) cap) (insAt l k e) := by
  have l2 : X2.length = (l.length - k) * 2 := by rw [h2, ecells_length, List.length_drop]
  obtain ⟨R, hR⟩ := splice_two' L X1 X2 [.int .i64 e.1, .int .i64 e.2] Z hL
  have hlen : (insAt l k e).length = l.length + 1 := by simp [insAt]; omega
  have hcells : ecells (insAt l k e) = X1 ++ [.int .i64 e.1, .int .i64 e.2] ++ X2 := by
    rw [insAt, ecells_append, h1, h2]
    simp [ecells]
  have hle : (splice (splice L (k * 2) [Value.int .i64 e.1, Value.int .i64 e.2]) ((k + 1) * 2) X2).length = cap * 2 := by
    have a1 : (splice L (k * 2) [Value.int .i64 e.1, Value.int .i64 e.2]).length = cap * 2 := (length_splice _ _ _ (by simp; omega)).trans lL
    rw [length_splice _ _ _ (by rw [a1]; omega), a1]
  rw [l1, show k * 2 + [Value.int .i64 e.1, Value.int .i64 e.2].length = (k + 1) * 2 by simp; omega] at hR
  refine ⟨by rw [ecells_length], .inr ⟨g, cap, _, by rw [hlen], hb, hg, by omega, hm, by simpa using hle, ?_⟩⟩
  rw [hlen, hcells]
  show List.take _ (splice _ _ _) = _
  rw [hR, List.take_left' (by simp [l1, l2]; omega)]

set_option maxRecDepth 100000 in
set_option maxRecDepth 100000 in
set_option maxHeartbeats 4000000 in
theorem insGrow_any (g cap : Nat) (l : List (Int × Int)) (k : Nat) (e : Int × Int) (B vb vc : Nat) (w : World) (h : Own w B (.slice (some ⟨g, 0, none⟩) l.length cap) l) (hl : l.length ≤ 1099511627776) (hB : B ≤ w.heap.size) (hk : k < l.length) (hroom : cap = l.length)
    (hv : PairAt w vb e) :
    Calls Try.prog 42 #[.slice (some ⟨g, 0, none⟩) l.length cap, .int .i64 k, .slice (some ⟨vb, 0, none⟩) 1 vc] w fun x w' => ∃ v', x = .returned v' ∧ Own w' B v' (insAt l k e) ∧ Below B w w' := by
  obtain ⟨i0, hi, hz0, hz1, hz2⟩ := info_parts Try.info65
  have HV := hid hv
  have hvt := (Array.getElem?_eq_some_iff.1 hv).1
  clear hv
  rcases h.2 with ⟨hh, hn⟩ | ⟨g', cap', cur, hh, hb, hg, hnc, hcm, hcs, htake⟩
  · cases hh
  cases hh
  subst hroom
  unfold maxLen at hcm
  have hgt := (Array.getElem?_eq_some_iff.1 hg).1
  obtain ⟨X1, hX1⟩ : ∃ X, X = ecells (l.take k) := ⟨_, rfl⟩
  obtain ⟨X2, hX2⟩ : ∃ X, X = ecells (l.drop k) := ⟨_, rfl⟩
  have l1 : X1.length = k * 2 := by rw [hX1, ecells_length, List.length_take]; omega
  have l2 : X2.length = (l.length - k) * 2 := by rw [hX2, ecells_length, List.length_drop]
  have o2 : ∀ u ∈ X2, u.oneCell' = true := by rw [hX2]; exact ecells_one _
  have hL : cur.toList = X1 ++ X2 := by
    rw [hX1, hX2, ← ecells_append, List.take_append_drop, ← htake, List.take_of_length_le (by simp [hcs])]
  have hat : ∀ j v, (X1 ++ X2)[j]? = some v → w.cell? ⟨g, j, none⟩ = some v := by
    intro j v hj
    rw [cell_of_row w g j cur 65 (0, 0) hg, ← Array.getElem?_toList, hL]
    exact hj
  have hold : (Builtin.firstCells i0.size k (.slice (some ⟨g, 0, none⟩) k l.length)).run Try.prog w.drew = .ok X1.toArray w.drew := by
    rw [hz1]
    exact run_firstCells_some w.drew 2 k ⟨g, 0, none⟩ k l.length X1 l1 (fun j v hj => by
      rw [Addr.add_lit, Nat.zero_add]
      exact hat j v (by rw [List.getElem?_append_left (List.getElem?_eq_some_iff.1 hj).1]; exact hj))
  obtain ⟨G, hG⟩ : ∃ G, G = grownCap w (l.length + 1) l.length 65 := ⟨_, rfl⟩
  have hGn : l.length + 1 ≤ G := by rw [hG]; exact grownCap_ge w _ _ _
  have hGm : G ≤ maxLen := by rw [hG]; exact grownCap_le_maxLen w _ _ _ (by unfold maxLen; omega)
  obtain ⟨ZZ, hZZ⟩ : ∃ ZZ, ZZ = (Builtin.zeroCells (Value.agg #[.int .i64 0, .int .i64 0]).cells (l.length + 1 - k)).toList ++ (Builtin.zeroCells (Value.agg #[.int .i64 0, .int .i64 0]).cells (G - (l.length + 1))).toList := ⟨_, rfl⟩
  have lR : (X1 ++ ZZ).length = G * 2 := by rw [hZZ]; simp [Builtin.zeroCells, Value.cells, l1]; omega
  obtain ⟨W1, hW1⟩ : ∃ W1, W1 = w.drew.alloc (.cells (X1 ++ ZZ).toArray 65) := ⟨_, rfl⟩
  have hrz : ∀ ty, (Builtin.append_ #[35, 3] ty #[.slice (some ⟨g, 0, none⟩) k l.length, .int .i64 ((l.length : Int) + 1 - (k : Int))]).run Try.prog w =
      .ok (.slice (some ⟨w.heap.size, 0, none⟩) (l.length + 1) G) W1 := fun ty => by
    have hik : k + (l.length + 1 - k) = l.length + 1 := by omega
    have h := Lib.run_append_grow_zeros w 35 3 ty 65 i0 _ .i64 .i64 Try.underlying35 Try.underlying3 hi hz0 (some ⟨g, 0, none⟩) k l.length X1 hold (l.length + 1 - k) (by omega) (by omega) (by omega) (by omega) (by rw [hz2]; omega) (by rw [hz2, hik]; exact growslice_fits (by omega) (by omega))
    rw [hik, ← hG] at h
    rw [show (l.length : Int) + 1 - (k : Int) = ((l.length + 1 - k : Nat) : Int) by omega, hW1, hZZ]
    refine h.trans ?_
    congr 4
    simp
  have HG1 := hid (show W1.heap[w.heap.size]? = some (.cells (X1 ++ ZZ).toArray 65 (0, 0)) by rw [hW1]; exact heap_alloc_new w.drew _)
  have hoth : ∀ j, j < w.heap.size → W1.heap[j]? = w.heap[j]? := fun j hj => by rw [hW1]; exact heap_alloc_old w.drew _ hj
  have hB1 : Below B w W1 := by rw [hW1]; exact ((Below.refl _ _).drew).alloc hB _
  have hs1 : W1.heap.size = w.heap.size + 1 := by rw [hW1]; simp
  clear hW1
  have hfit : k * 2 + 2 ≤ (X1 ++ ZZ).length := by omega
  have hfit2 : (k + 1) * 2 + X2.length ≤ (splice (X1 ++ ZZ) (k * 2) [.int .i64 e.1, .int .i64 e.2]).length := by rw [length_splice _ _ _ hfit]; omega
  have HC := hid (pair_cells (hv2 := (hoth vb hvt).trans HV.out))
  have hsrc : ∀ W : World, W.heap[g]? = w.heap[g]? → ∀ j v, X2[j]? = some v → W.cell? ((⟨g, k * 2, none⟩ : Addr).add j) = some v := by
    intro W hW j v hj
    rw [Addr.add_lit, cell_of_row W g (k * 2 + j) cur 65 (0, 0) (hW.trans hg), ← Array.getElem?_toList, hL, List.getElem?_append_right (by omega), l1, Nat.add_sub_cancel_left]
    exact hj
  have hn2 : X2.length = Nat.min (l.length - k) (l.length - k) * i0.size := by rw [l2, hz1, show Nat.min (l.length - k) (l.length - k) = l.length - k from Nat.min_self _]
  have HX := hid (And.intro hX1 (And.intro hX2 (And.intro l1 (And.intro lR hGm))))
  have HRZ := hid hrz
  have HSRC := hid hsrc
  have hgo := hid (hoth g hgt)
  unfold maxLen at hGm
  have hcap1 : ¬ (l.length = k) := by omega
  have hcap2 : ¬ (G = k) := by omega
  have hcap3 : ¬ (G = k + 1) := by omega
  have hk64 : IntKind.i64.wrap ((k : Int) + 1) = (k : Int) + 1 := by rw [IntKind.wrap_i64]; omega
  have htn : ((k : Int) + 1).toNat = k + 1 := by omega
  have hb1 : (0 : Int) ≤ (k : Int) + 1 := by omega
  have hk' : k ≤ l.length := by omega
  have hk2' : (k : Int) ≤ (l.length : Int) + 1 := by omega
  clear h hg htake hL hX1 hX2 hold hG hZZ hrz hsrc hoth l1 l2 lR hat
  go_enter Try.func42, Try.ntmps42
  go_wp2_with (first
    | (at_builtin; refine Lib.wpList_append_run _ rfl _ _ _ _ rfl _ _ rfl rfl _ _ (HRZ.out _) ?_)
    | (refine wpList_copyS rfl _ _ 35 35 rfl 65 i0 Try.underlying35 hi w.heap.size (k * 2) (l.length + 1 - k) (G - k) ⟨vb, 0, none⟩ 1 vc rfl rfl _ 65 HG1.out [.int .i64 e.1, .int .i64 e.2] (copy_one (by omega) hz1) HC.out hfit (by simp [Value.oneCell']) B w hB1 hB ?_; intro w2 HG2 hB2 hg2))
  have HG2' := hid (show w2.drew.heap[w.heap.size]? = _ from HG2.out)
  have hs2 := HSRC.out w2.drew ((hg2 g (by omega)).trans hgo.out)
  go_region_law (refine step_copyS rfl _ _ 35 35 rfl 65 i0 Try.underlying35 hi w.heap.size ((k + 1) * 2) (l.length - k) (G - (k + 1)) ⟨g, k * 2, none⟩ (l.length - k) (l.length - k) (by simp [Act.eval, Act.put]) (by simp [Act.eval, Act.put]) _ 65 HG2'.out X2 hn2 hs2 hfit2 o2 B w (hB2.drew) hB ?_; intro w3 HG3 hB3 hg3)
  go_wp2
  go_ret
  exact ⟨_, rfl, own_grown HX.out.1 HX.out.2.1 HX.out.2.2.1 (by omega) HG3.out rfl hB (by omega) HX.out.2.2.2.2 HX.out.2.2.2.1, hB3⟩

theorem insert_any (v : Value) (l : List (Int × Int)) (k : Nat) (e : Int × Int) (B vb vc : Nat) (w : World) (h : Own w B v l) (hl : l.length ≤ 1099511627776) (hB : B ≤ w.heap.size) (hk : k ≤ l.length)
    (hv : PairAt w vb e) (hne : v.ownBlock ≠ some vb) :
    Calls Try.prog 42 #[v, .int .i64 k, .slice (some ⟨vb, 0, none⟩) 1 vc] w fun x w' => ∃ v', x = .returned v' ∧ Own w' B v' (insAt l k e) ∧ Below B w w' := by
  by_cases hke : k = l.length
  · subst hke
    have : insAt l l.length e = l ++ [e] := by simp [insAt]
    rw [this]
    exact insEnd_any v l e B vb vc w h hl hB hv
  · rcases h.2 with ⟨rfl, hn⟩ | ⟨g, cap, cur, rfl, _, _, hnc, _⟩
    · omega
    · by_cases hc : cap = l.length
      · exact insGrow_any g cap l k e B vb vc w h hl hB (by omega) hc hv
      · exact insMid_any g cap l k e B vb vc w h hl (by omega) (by omega) hv (fun hh => hne (by rw [hh]; rfl))
end Go.Proofs.Ytpdfhffmhlgcmaa
