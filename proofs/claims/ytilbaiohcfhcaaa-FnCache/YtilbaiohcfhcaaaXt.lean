/- A copy of a cache, and one without an item, as the document has them: spec.l5Cache, spec.l5Drop: contracts. Written by a program (gspc.py). -/
import Derived.Test.YtilbaiohcfhcaaaXs
import Derived.Test.YtilbaiohcfhcaaaXo
import Derived.Test.YtilbaiohcfhcaaaGrE
import Derived.Test.YtilbaiohcfhcaaaAps
import Derived.Deep.Cut
namespace Go.Proofs.Ytilbaiohcfhcaaa
open Go.RowKit
attribute [local go_sem ↓] Go.wp_at_zero Go.wp_at_succ

/-- Items that read so, none of them in a block of G; the row may be appended to. -/
def RdK (G : Nat → Prop) (w : World) (v : Value) (L : List KD) : Prop :=
  ∃ (ao : Option Addr) (cap : Nat), v = .slice ao L.length cap ∧ L.length ≤ maxLen ∧ (0 < L.length → ∃ b off, ao = some ⟨b, off, none⟩ ∧ b < w.heap.size ∧ ¬ G b ∧ ∀ i, i < L.length →
    ∃ p0 p1 p2 l u, L.getD i kd0 = ([p0, p1, p2], l) ∧ w.cell? ⟨b, off + i * 4, none⟩ = some (.int .i64 p0) ∧ w.cell? ⟨b, off + i * 4 + 1, none⟩ = some (.int .i64 p1) ∧ w.cell? ⟨b, off + i * 4 + 2, none⟩ = some (.int .i64 p2) ∧
      w.cell? ⟨b, off + i * 4 + 3, none⟩ = some u ∧ Rd w u l ∧ (0 < l.length → ∀ q, u.ownBlock = some q → ¬ G q ∧ v.ownBlock ≠ some q)) ∧
  (∃ xs, w.ownsRow 0 31 4 v L.length xs) ∧ ∀ q, v.ownBlock = some q → ¬ G q
theorem RdK.rd {G : Nat → Prop} {w : World} {v : Value} {L : List KD} (h : RdK G w v L) : RdM 4 3 true w v L := by
  obtain ⟨ao, cap, rfl, hl, hc, hrow, hown⟩ := h
  refine ⟨ao, cap, rfl, hl, fun h0 => ?_⟩
  obtain ⟨b, off, rfl, hb, _, hcc⟩ := hc h0
  refine ⟨b, off, rfl, hb, fun i hi => ?_⟩
  obtain ⟨p0, p1, p2, l, u, hx, c0, c1, c2, c3, hu, _⟩ := hcc i hi
  rw [hx]
  refine ⟨rfl, fun j hj => ?_, fun _ => ⟨u, c3, hu⟩, fun q => (by cases q)⟩
  match j, hj with
  | 0, _ => exact c0
  | 1, _ => exact c1
  | 2, _ => exact c2
theorem RdK.only {G : Nat → Prop} {w w' : World} {v : Value} {L : List KD} (h : RdK G w v L) (ho : Only G w w') : RdK G w' v L := by
  obtain ⟨ao, cap, rfl, hl, hc, ⟨xs, hrow⟩, hown⟩ := h
  refine ⟨ao, cap, rfl, hl, fun h0 => ?_, ⟨xs, row_agree hrow fun q hq => ho.block q (hrow.lt q hq).2 (hown q hq)⟩, hown⟩
  obtain ⟨b, off, rfl, hb, hbg, hcc⟩ := hc h0
  have hB := ho.block b hb hbg
  refine ⟨b, off, rfl, Nat.lt_of_lt_of_le hb ho.size, hbg, fun i hi => ?_⟩
  obtain ⟨p0, p1, p2, l, u, hx, c0, c1, c2, c3, hu, hn⟩ := hcc i hi
  exact ⟨p0, p1, p2, l, u, hx, (World.cell?_of_block (a := ⟨b, _, none⟩) hB).trans c0, (World.cell?_of_block (a := ⟨b, _, none⟩) hB).trans c1, (World.cell?_of_block (a := ⟨b, _, none⟩) hB).trans c2, (World.cell?_of_block (a := ⟨b, _, none⟩) hB).trans c3, hu.only ho (fun h1 q hq => (hn h1 q hq).1), hn⟩
theorem RdK.later {G : Nat → Prop} {w w' : World} {v : Value} {L : List KD} (h : RdK G w v L) (hb : Below w.heap.size w w') : RdK G w' v L := h.only (Only.later hb)
theorem RowA.off {w w' : World} {B : Nat} {v : Value} {L : List KD} {xs : List Value} {us : Nat → Value} (h : RowA w B v L xs us) (hs : ∀ q, B ≤ q → q < w.heap.size → w'.heap[q]? = w.heap[q]?) : RowA w' B v L xs us :=
  ⟨row_agree h.row fun q hq => hs q (h.row.lt q hq).1 (h.row.lt q hq).2, h.len, h.num, h.kin⟩
theorem KinO.off {w w' : World} {B : Nat} {L : List KD} {us : Nat → Value} (h : KinO w B L us) (hs : ∀ q, B ≤ q → q < w.heap.size → w'.heap[q]? = w.heap[q]?) : KinO w' B L us :=
  ⟨fun i hi => (h.own i hi).agree fun q hq => hs q ((h.own i hi).block q hq).1 ((h.own i hi).block q hq).2, h.dis⟩
theorem RowA.slice {w : World} {B : Nat} {v : Value} {L : List KD} {xs : List Value} {us : Nat → Value} (h : RowA w B v L xs us) : ∃ (so : Option Addr) (sc : Nat), v = .slice so L.length sc := by
  rcases h.row.2 with ⟨rfl, hn⟩ | ⟨b, cap, cur, rfl, _⟩
  · exact ⟨none, 0, by rw [hn]⟩
  · exact ⟨_, cap, rfl⟩
theorem RowA.rdK {G : Nat → Prop} {w : World} {B : Nat} {v : Value} {L : List KD} {xs : List Value} {us : Nat → Value} (h : RowA w B v L xs us) (hg : ∀ q, v.ownBlock = some q → ¬ G q)
    (hk : ∀ i, i < L.length → Rd w (us i) (L.getD i kd0).2 ∧ (0 < (L.getD i kd0).2.length → ∀ q, (us i).ownBlock = some q → ¬ G q ∧ v.ownBlock ≠ some q)) : RdK G w v L := by
  have h0 := h.row
  rcases h.row.2 with ⟨rfl, hn⟩ | ⟨b, cap, cur, rfl, hb, hg2, hnc, hcm, hcs, htake⟩
  · have : L = [] := List.eq_nil_of_length_eq_zero hn
    subst this
    exact ⟨none, 0, rfl, Nat.zero_le _, fun q => absurd q (Nat.lt_irrefl 0), ⟨xs, row_mono h.row (Nat.zero_le _)⟩, hg⟩
  · refine ⟨_, cap, rfl, Nat.le_trans hnc hcm, fun _ => ⟨b, 0, rfl, (Array.getElem?_eq_some_iff.1 hg2).1, hg b rfl, fun i hi => ?_⟩, ⟨xs, row_mono h.row (Nat.zero_le _)⟩, hg⟩
    obtain ⟨p0, p1, p2, l, hx⟩ := kd_3k (h.len i hi)
    have n0 := h.num i hi 0 (by omega)
    have n1 := h.num i hi 1 (by omega)
    have n2 := h.num i hi 2 (by omega)
    obtain ⟨k1, k2⟩ := hk i hi
    rw [hx] at n0 n1 n2 k1 k2
    rw [Nat.zero_add]
    exact ⟨p0, p1, p2, l, us i, hx, by rw [World.ownsRow.cellAt h0 _ (by omega)]; exact n0, by rw [World.ownsRow.cellAt h0 _ (by omega)]; exact n1, by rw [World.ownsRow.cellAt h0 _ (by omega)]; exact n2, by rw [World.ownsRow.cellAt h0 _ (by omega)]; exact h.kin i hi, k1, k2⟩
theorem rowF_rd {w : World} {B g c : Nat} {F : List KD} (h : w.ownsRow B 3 1 (.slice (some ⟨g, 0, none⟩) 24 c) 24 (floC F)) (hf : FloF F) : RdM 1 1 false w (.slice (some ⟨g, 0, none⟩) 24 c) F := by
  refine ⟨some ⟨g, 0, none⟩, c, by rw [hf.1], by rw [hf.1]; decide, fun _ => ⟨g, 0, rfl, (h.lt g rfl).2, fun i hi => ?_⟩⟩
  have hi' : i < 24 := by rw [← hf.1]; exact hi
  obtain ⟨n, hn⟩ := hf.2 i hi'
  have hc := World.ownsRow.cellAt h i (by omega)
  rw [floC_get hi] at hc
  unfold flr at hc
  rw [hn] at hc ⊢
  refine ⟨rfl, fun j hj => ?_, fun q => (by cases q), fun _ => rfl⟩
  obtain rfl : j = 0 := by omega
  simpa using hc
theorem take_one {I : List KD} {k : Nat} (h : k < I.length) : I.take (k + 1) = I.take k ++ [I.getD k kd0] := by
  rw [List.take_add_one, List.getElem?_eq_getElem h, getD_at h]
  rfl
theorem len_take {I : List KD} {k : Nat} (h : k ≤ I.length) : (I.take k).length = k := by rw [List.length_take]; omega
theorem Try.infoW_int : (Try.prog.info? 3).map (fun i => (i.zero, i.size, i.bytes)) = some (some (.int .i64 0), 1, 8) := by kernel_rfl
/-- A copy: floors that may be written, items apart from them. -/
def EndL (w w' : World) (I F : List KD) (e : Ending) : Prop :=
  ∃ v g c N, e = .returned (.agg #[v, .slice (some ⟨g, 0, none⟩) 24 c]) ∧ w.heap.size ≤ g ∧ g < N ∧ N ≤ w'.heap.size ∧ w'.ownsRow w.heap.size 3 1 (.slice (some ⟨g, 0, none⟩) 24 c) 24 (floC F) ∧ RdK (fun q => q < N) w' v I

set_option maxRecDepth 100000 in
set_option maxHeartbeats 4000000 in
theorem l5Drop_any (G : Nat → Prop) (v0 : Value) (fo : Option Addr) (fn fc : Nat) (I : List KD) (key : Int) (w : World) (h : RdK G w v0 I) (hg : ∀ q, w.heap.size ≤ q → ¬ G q) (h4 : I.length ≤ 1000) :
    Calls Try.prog 42 #[.agg #[v0, .slice fo fn fc], .int .i64 key] w fun e w' => (∃ v, e = .returned (.agg #[v, .slice fo fn fc]) ∧ RdK G w' v (dropI key I)) ∧ Below w.heap.size w w' := by
  obtain ⟨i0, hi, hz0, hz1, hz2⟩ := info_parts Try.infoItem_K
  obtain ⟨ao, cap, rfl, hml, hc, hq3⟩ := h
  clear hq3
  clear hml
  go_enter Try.func42, Try.ntmps42
  go_wp2_with fail
  generalize hW1 : ((w.alloc (.cells #[.slice ao I.length cap, .slice fo fn fc] 26)).alloc (.cells #[.slice none 0 0, .slice none 0 0] 26)) = w1
  have a0_1 : w1.cell? ⟨w.heap.size, 0, none⟩ = some (.slice ao I.length cap) := by subst hW1; go_cell
  have af0_1 : w1.frozen? ⟨w.heap.size, 0, none⟩ = false := by subst hW1; (first | go_cell | (simp [World.frozen?, World.alloc]; done) | rfl)
  have a1_1 : w1.cell? ⟨w.heap.size, 1, none⟩ = some (.slice fo fn fc) := by subst hW1; go_cell
  have af1_1 : w1.frozen? ⟨w.heap.size, 1, none⟩ = false := by subst hW1; (first | go_cell | (simp [World.frozen?, World.alloc]; done) | rfl)
  have al_1 : w.heap.size < w1.heap.size := by subst hW1; first | (simp; done) | (simp; omega)
  have r0_1 : w1.cell? ⟨w.heap.size + 1, 0, none⟩ = some (.slice none 0 0) := by subst hW1; go_cell
  have rf0_1 : w1.frozen? ⟨w.heap.size + 1, 0, none⟩ = false := by subst hW1; (first | go_cell | (simp [World.frozen?, World.alloc]; done) | rfl)
  have r1_1 : w1.cell? ⟨w.heap.size + 1, 1, none⟩ = some (.slice none 0 0) := by subst hW1; go_cell
  have rf1_1 : w1.frozen? ⟨w.heap.size + 1, 1, none⟩ = false := by subst hW1; (first | go_cell | (simp [World.frozen?, World.alloc]; done) | rfl)
  have rl_1 : w.heap.size + 1 < w1.heap.size := by subst hW1; first | (simp; done) | (simp; omega)
  have c1 : Below w.heap.size w w1 := by subst hW1; go_grown
  have s1 : w1.heap.size = w.heap.size + 2 := by subst hW1; simp
  clear hW1
  have qa0_1 := cell_regrown a0_1
  have qa1_1 := cell_regrown a1_1
  have qr0_1 := cell_regrown r0_1
  have qr1_1 := cell_regrown r1_1
  clear qa0_1 qa1_1 qr0_1 qr1_1
  have S1 := hid s1
  clear s1
  have HR0 := hid (World.ownsRow_lit (e := 31) (size := 4) w1 #[] 0 (Nat.le_refl _) (Nat.zero_le _) rfl)
  have HRA : Hid (RowA (w1.alloc (.cells #[] 31)) w1.heap.size (.slice (some ⟨w.heap.size + 1 + 1, 0, none⟩) 0 0) (dropI key (I.take 0)) [] (fun _ => .bool false)) := hid ⟨by rw [show w.heap.size + 1 + 1 = w1.heap.size from by have := S1.out; omega]; exact HR0.out, fun _ h => absurd h (Nat.not_lt_zero _), fun _ h => absurd h (Nat.not_lt_zero _), fun _ h => absurd h (Nat.not_lt_zero _)⟩
  have hb01 : Below w1.heap.size w1 (w1.alloc (.cells #[] 31)) := by go_grown
  go_loopw [5, 6] (fun s i wr => ∃ (k : Nat) (xs : List Value) (us : Nat → Value), k ≤ I.length ∧ i = .int .i64 k ∧ Hid (RowA wr w1.heap.size s (dropI key (I.take k)) xs us) ∧ Hid (∀ t, t < (dropI key (I.take k)).length → Rd w (us t) ((dropI key (I.take k)).getD t kd0).2 ∧ (0 < ((dropI key (I.take k)).getD t kd0).2.length → ∀ q, (us t).ownBlock = some q → ¬ G q)) ∧ Below w1.heap.size w1 wr) (fun _ i _ => I.length - (intOf i).toNat)
  case atStart => exact ⟨0, [], _, Nat.zero_le _, rfl, HRA, hid (fun t ht => absurd ht (Nat.not_lt_zero _)), hb01⟩
  case round =>
    clear HRA HR0 hb01
    obtain ⟨k, xs, us, hk, rfl, hrow, hkin, hbel⟩ := hrel
    have a0 := (hbel.cell (p := ⟨w.heap.size, 0, none⟩) al_1).trans a0_1
    by_cases hlt : k < I.length
    · obtain ⟨b, o, rfl, hb, hbg, hcc⟩ := hc (by omega)
      obtain ⟨p0, p1, p2, l, u, hx, k0, k1, k2, k3, hu, hun⟩ := hcc k hlt
      have cw := c1.trans (hbel.mono c1.size)
      rw [← cw.cell (p := ⟨b, _, none⟩) hb] at k0 k1 k2 k3
      have hbz : b < wr.heap.size := by have := cw.size; omega
      obtain ⟨uo, uc, rfl, _⟩ := id hu
      have HU := hid hu
      have HUN := hid (fun (h1 : 0 < l.length) (q : Nat) (hq : (Value.slice uo l.length uc).ownBlock = some q) => (hun h1 q hq).1)
      have ht := take_one (I := I) hlt
      rw [hx] at ht
      have hki : (k : Int) < (I.length : Int) := by omega
      have HT := hid ht
      have hLk : (dropI key (I.take k)).length ≤ 1000 := by
        have := List.length_filter_le (fun x => !isKey key x) (I.take k)
        rw [len_take hk] at this
        unfold dropI
        omega
      clear hu hun hx ht hcc
      by_cases hkk : p0 = key
      · have hne : (p0 != key) = false := by simp [hkk]
        have HD : Hid (dropI key (I.take (k + 1)) = dropI key (I.take k)) := hid (by rw [HT.out, dropI, List.filter_append, List.filter_cons_of_neg (by simp [isKey, keyK, hkk])]; simp [dropI])
        go_wp2_with fail
        go_roundw
        case rel => exact ⟨k + 1, xs, us, by omega, by go_num, by rw [HD.out]; exact hrow, by rw [HD.out]; exact hkin, hbel⟩
        case measure => simp [intOf]; omega
      · have hne : (p0 != key) = true := by simp [hkk]
        have HD : Hid (dropI key (I.take (k + 1)) = dropI key (I.take k) ++ [([p0, p1, p2], l)]) := hid (by rw [HT.out, dropI, List.filter_append, List.filter_cons_of_pos (by simp [isKey, keyK, hkk])]; simp [dropI])
        have hk1 : (dropI key (I.take k)).length + 1 ≤ maxLen := by unfold maxLen; omega
        have hk2 : ((dropI key (I.take k)).length + 1) * 48 ≤ 140737488355328 := by omega
        have HNW := hid (four_new wr p0 p1 p2 (.slice uo l.length uc))
        have B6 : Hid (Below wr.heap.size wr (wr.alloc (.cells #[.int .i64 p0, .int .i64 p1, .int .i64 p2, .slice uo l.length uc] 31))) := hid (by go_grown)
        have hW6 := hid (hrow.out.later B6.out)
        have hbs : w1.heap.size ≤ (wr.alloc (.cells #[.int .i64 p0, .int .i64 p1, .int .i64 p2, .slice uo l.length uc] 31)).heap.size := by have := B6.out.size; have := hbel.size; omega
        have HB := hid hbel
        clear hrow hbel
        go_wp2_with (first | (at_builtin; refine wpList_append_own _ rfl _ _ 23 rfl w1.heap.size 31 i0 (.agg #[.int .i64 0, .int .i64 0, .int .i64 0, .slice none 0 0]) 4 48 Try.underlying23 hi hz0 hz1 hz2 rfl (by decide) _ _ _ rfl hW6.out.row ⟨wr.heap.size, 0, none⟩ 1 1 [.int .i64 p0, .int .i64 p1, .int .i64 p2, .slice uo l.length uc] rfl rfl HNW.out (by simp [Value.oneCell']) hk1 hk2 hbs ?_; intro v7 w7 hown7 hgr7 _; obtain ⟨g7, c7, hv7⟩ := ownsRow_succ hown7; subst hv7))
        have hR8 := hid (hW6.out.add (l := l) hown7)
        have hb8 : Below w1.heap.size w1 w7 := (HB.out.trans (B6.out.mono HB.out.size)).grown hgr7 (by have := HB.out.size; have := B6.out.size; omega) (fun j ej => (hW6.out.row.lt j ej).1)
        rw [← HD.out] at hR8
        have HK8 : Hid (∀ t, t < (dropI key (I.take (k + 1))).length → Rd w (if t = (dropI key (I.take k)).length then (.slice uo l.length uc) else us t) ((dropI key (I.take (k + 1))).getD t kd0).2 ∧ (0 < ((dropI key (I.take (k + 1))).getD t kd0).2.length → ∀ q, (if t = (dropI key (I.take k)).length then (.slice uo l.length uc) else us t : Value).ownBlock = some q → ¬ G q)) := hid (fun t ht => by
          rw [HD.out] at ht ⊢
          rw [List.length_append, List.length_singleton] at ht
          by_cases e : t = (dropI key (I.take k)).length
          · rw [if_pos e, e, getD_last]
            exact ⟨HU.out, HUN.out⟩
          · rw [if_neg e, getD_init _ (by omega)]
            exact hkin.out t (by omega))
        clear hown7 hgr7 hkin
        go_roundw
        case rel => exact ⟨k + 1, _, _, by omega, by go_num, hR8, HK8, hb8⟩
        case measure => simp [intOf]; omega
    · obtain rfl : k = I.length := by omega
      rw [List.take_length] at hrow hkin
      have HRK : Hid (RdK G wr _ (dropI key I)) := hid (hrow.out.rdK (fun q hq => hg q (by have := (hrow.out.row.lt q hq).1; have := c1.size; omega)) (fun t ht => ⟨(hkin.out t ht).1.later (c1.trans (hbel.mono c1.size)), fun h1 q hq => ⟨(hkin.out t ht).2 h1 q hq, fun e => by have := (hrow.out.row.lt q e).1; have := (hkin.out t ht).1.own_lt h1 q hq; have := c1.size; omega⟩⟩))
      obtain ⟨so, sc, hs, _⟩ := HRK.out
      subst hs
      have a1 := (hbel.cell (p := ⟨w.heap.size, 1, none⟩) al_1).trans a1_1
      have af0 := (hbel.frozen (p := ⟨w.heap.size, 0, none⟩) al_1).trans af0_1
      have r0 := (hbel.cell (p := ⟨w.heap.size + 1, 0, none⟩) rl_1).trans r0_1
      have r1 := (hbel.cell (p := ⟨w.heap.size + 1, 1, none⟩) rl_1).trans r1_1
      have rf0 := (hbel.frozen (p := ⟨w.heap.size + 1, 0, none⟩) rl_1).trans rf0_1
      have rf1 := (hbel.frozen (p := ⟨w.heap.size + 1, 1, none⟩) rl_1).trans rf1_1
      have CW := hid (c1.trans (hbel.mono c1.size))
      have hz := hbel.size
      clear a0_1 a1_1 r0_1 r1_1 af0_1 af1_1 rf0_1 rf1_1 hc
      go_wp2_with fail
      have O9 : Below w.heap.size w (((wr.setCell ⟨w.heap.size, 0, none⟩ (.slice so (dropI key I).length sc)).setCell ⟨w.heap.size + 1, 0, none⟩ (.slice so (dropI key I).length sc)).setCell ⟨w.heap.size + 1, 1, none⟩ (.slice fo fn fc)) := ((CW.out.setCell (p := ⟨w.heap.size, 0, none⟩) (Nat.le_refl _) _).setCell (p := ⟨w.heap.size + 1, 0, none⟩) (by show w.heap.size ≤ w.heap.size + 1; omega) _).setCell (p := ⟨w.heap.size + 1, 1, none⟩) (by show w.heap.size ≤ w.heap.size + 1; omega) _
      have R9 := (hrow.out.off (w' := (((wr.setCell ⟨w.heap.size, 0, none⟩ (.slice so (dropI key I).length sc)).setCell ⟨w.heap.size + 1, 0, none⟩ (.slice so (dropI key I).length sc)).setCell ⟨w.heap.size + 1, 1, none⟩ (.slice fo fn fc))) (fun q h1 _ => by
        have hz1 := S1.out
        exact ((Below.heap_setCell _ _ _ _ (by show q ≠ w.heap.size + 1; omega)).trans (Below.heap_setCell _ _ _ _ (by show q ≠ w.heap.size + 1; omega))).trans (Below.heap_setCell _ _ _ _ (by show q ≠ w.heap.size; omega)))).rdK (G := G) (fun q hq => hg q (by have := (hrow.out.row.lt q hq).1; have := S1.out; omega)) (fun t ht => ⟨(hkin.out t ht).1.later O9, fun h1 q hq => ⟨(hkin.out t ht).2 h1 q hq, fun e => by have := (hrow.out.row.lt q e).1; have := (hkin.out t ht).1.own_lt h1 q hq; have := S1.out; omega⟩⟩)
      have e0 : (((wr.setCell ⟨w.heap.size, 0, none⟩ (.slice so (dropI key I).length sc)).setCell ⟨w.heap.size + 1, 0, none⟩ (.slice so (dropI key I).length sc)).setCell ⟨w.heap.size + 1, 1, none⟩ (.slice fo fn fc)).cell? ⟨w.heap.size + 1, 0, none⟩ = some (.slice so (dropI key I).length sc) := by go_cell
      have e1 : (((wr.setCell ⟨w.heap.size, 0, none⟩ (.slice so (dropI key I).length sc)).setCell ⟨w.heap.size + 1, 0, none⟩ (.slice so (dropI key I).length sc)).setCell ⟨w.heap.size + 1, 1, none⟩ (.slice fo fn fc)).cell? ⟨w.heap.size + 1, 1, none⟩ = some (.slice fo fn fc) := by go_cell
      exact bodyPost_ret (v := .agg #[.slice so (dropI key I).length sc, .slice fo fn fc]) (by simp [results, Try.results42, go_sem, e0, e1]) rfl ⟨⟨_, rfl, R9⟩, O9⟩

set_option maxRecDepth 100000 in
set_option maxHeartbeats 8000000 in
theorem l5Cache_any (v0 v1 : Value) (I F : List KD) (w : World) (h0 : RdM 4 3 true w v0 I) (h1 : RdM 1 1 false w v1 F) (hF : FloF F) (h4 : I.length ≤ 4) (h8 : ∀ x ∈ I, x.2.length ≤ 8) :
    Calls Try.prog 23 #[.agg #[v0, v1]] w fun e w' => EndL w w' I F e ∧ Below w.heap.size w w' := by
  obtain ⟨i0, hi, hz0, hz1, hz2⟩ := info_parts Try.infoItem_K
  obtain ⟨n0, gi, gz0, gz1, gz2⟩ := info_parts Try.infoW_int
  have HRF : Hid (∀ j u, (floC F)[j]? = some u → ∃ b o c, v1 = .slice (some ⟨b, o, none⟩) F.length c ∧ b < w.heap.size ∧ w.cell? ⟨b, o + j, none⟩ = some u) := hid (fun j u hj => by
    obtain ⟨ao, c, hv, _, hc⟩ := h1
    obtain ⟨b, o, rfl, hb, hcc⟩ := hc (by rw [hF.1]; omega)
    refine ⟨b, o, c, hv, hb, ?_⟩
    have hjl : j < F.length := by have := (List.getElem?_eq_some_iff.1 hj).1; rwa [floC_length] at this
    obtain ⟨a, ha, hca⟩ := atK_1n (hcc j hjl)
    rw [Nat.mul_one] at hca
    rw [hca, ← hj, floC_get hjl, flr, ha]
    rfl)
  obtain ⟨ao1, cf, rfl, _, hc1⟩ := h1
  obtain ⟨bf, of', rfl, hbf, _⟩ := hc1 (by rw [hF.1]; omega)
  have HFN : Hid (∀ j u, (floC F)[j]? = some u → w.cell? (((⟨bf, of', none⟩ : Addr)).add j) = some u) := hid (fun j u hj => by
    obtain ⟨b, o, c, hv, _, hcl⟩ := HRF.out j u hj
    injection hv with hv1 _ _
    injection hv1 with hv2
    injection hv2 with hb ho _
    have e : (⟨bf, of', none⟩ : Addr).add j = ⟨bf, of' + j, none⟩ := by cases j <;> simp [Addr.add]
    rw [e, hb, ho]
    exact hcl)
  rw [hF.1]
  have HF := hid hF
  obtain ⟨ao, cap, rfl, _, hc⟩ := h0
  have H8 := hid h8
  have H4 := hid h4
  clear HRF hc1 h8 hF h4
  have HLEN : Hid ((floC F).length = 24 * 1) := hid (by rw [floC_length, HF.out.1])
  go_enter Try.func23, Try.ntmps23
  go_upto_region 1 with fail
  generalize hW1 : ((w.alloc (.cells #[.slice ao I.length cap, .slice (some ⟨bf, of', none⟩) 24 cf] 26)).alloc (.cells #[.slice none 0 0, .slice none 0 0] 26)) = w1
  have a0_1 : w1.cell? ⟨w.heap.size, 0, none⟩ = some (.slice ao I.length cap) := by subst hW1; go_cell
  have a1_1 : w1.cell? ⟨w.heap.size, 1, none⟩ = some (.slice (some ⟨bf, of', none⟩) 24 cf) := by subst hW1; go_cell
  have al_1 : w.heap.size < w1.heap.size := by subst hW1; first | (simp; done) | (simp; omega)
  have r0_1 : w1.cell? ⟨w.heap.size + 1, 0, none⟩ = some (.slice none 0 0) := by subst hW1; go_cell
  have rf0_1 : w1.frozen? ⟨w.heap.size + 1, 0, none⟩ = false := by subst hW1; (first | go_cell | (simp [World.frozen?, World.alloc]; done) | rfl)
  have r1_1 : w1.cell? ⟨w.heap.size + 1, 1, none⟩ = some (.slice none 0 0) := by subst hW1; go_cell
  have rf1_1 : w1.frozen? ⟨w.heap.size + 1, 1, none⟩ = false := by subst hW1; (first | go_cell | (simp [World.frozen?, World.alloc]; done) | rfl)
  have rl_1 : w.heap.size + 1 < w1.heap.size := by subst hW1; first | (simp; done) | (simp; omega)
  have c1 : Below w.heap.size w w1 := by subst hW1; go_grown
  have s1 : w1.heap.size = w.heap.size + 2 := by subst hW1; simp
  clear hW1
  have qa0_1 := cell_regrown a0_1
  have qa1_1 := cell_regrown a1_1
  have qr0_1 := cell_regrown r0_1
  have qr1_1 := cell_regrown r1_1
  clear qa0_1 qa1_1 qr0_1 qr1_1
  have S1 := hid s1
  clear s1
  have HR0 := hid (World.ownsRow_lit (e := 3) (size := 1) w1 #[] 0 (Nat.le_refl _) (Nat.zero_le _) rfl)
  have HFN1 := hid (fun j u hj => (show Below w.heap.size w (w1.alloc (.cells #[] 3)) from c1.trans ((show Below w1.heap.size w1 (w1.alloc (.cells #[] 3)) by go_grown).mono c1.size)).cell (p := (⟨bf, of', none⟩ : Addr).add j) (by cases j <;> exact hbf) |>.trans (HFN.out j u hj))
  have hbs : w1.heap.size ≤ (w1.alloc (.cells #[] 3)).heap.size := by simp
  have hk1 : 0 + 24 ≤ maxLen := by decide
  go_wp2_with (first | (at_builtin; refine wpList_append_own _ rfl _ _ 24 rfl w1.heap.size 3 n0 (.int .i64 0) 1 8 Try.underlying24 gi gz0 gz1 gz2 rfl (by decide) _ _ _ rfl HR0.out ⟨bf, of', none⟩ 24 cf (floC F) rfl HLEN.out HFN1.out (floC_one F) hk1 (by decide) hbs ?_; intro v2 w2 hown2 hgr2 _; simp only [Nat.zero_add, List.nil_append] at hown2; obtain ⟨g, cg, hv2⟩ := ownsRow_succ hown2; subst hv2; have HOW2 := hid hown2; have b2 : Below w1.heap.size w1 w2 := (((Below.refl _ w1).alloc (Nat.le_refl _) _).grown hgr2 hbs (fun j ej => (HR0.out.lt j ej).1)); have c2 : Below w.heap.size w w2 := c1.trans (b2.mono c1.size); have a0_2 := (b2.cell (p := ⟨w.heap.size, 0, none⟩) al_1).trans a0_1; have a1_2 := (b2.cell (p := ⟨w.heap.size, 1, none⟩) al_1).trans a1_1; have r0_2 := (b2.cell (p := ⟨w.heap.size + 1, 0, none⟩) rl_1).trans r0_1; have r1_2 := (b2.cell (p := ⟨w.heap.size + 1, 1, none⟩) rl_1).trans r1_1; have rf0_2 := (b2.frozen (p := ⟨w.heap.size + 1, 0, none⟩) rl_1).trans rf0_1; have rf1_2 := (b2.frozen (p := ⟨w.heap.size + 1, 1, none⟩) rl_1).trans rf1_1; have al_2 : w.heap.size < w2.heap.size := Nat.lt_of_lt_of_le al_1 b2.size; have rl_2 : w.heap.size + 1 < w2.heap.size := Nat.lt_of_lt_of_le rl_1 b2.size; clear hown2 hgr2 a0_1 a1_1 r0_1 r1_1 rf0_1 rf1_1 b2))
  have HG2 := hid (HOW2.out.lt g rfl)
  have al2 : w.heap.size < w2.heap.size := al_2
  have rl2 : w.heap.size + 1 < w2.heap.size := rl_2
  have cz1 : w.heap.size ≤ w1.heap.size := c1.size
  generalize hW3 : (w2.alloc (.cells #[.slice none 0 0, .slice (some ⟨g, 0, none⟩) 24 cg] 26)) = w3
  have o0_3 : w3.cell? ⟨w2.heap.size, 0, none⟩ = some (.slice none 0 0) := by subst hW3; go_cell
  have of0_3 : w3.frozen? ⟨w2.heap.size, 0, none⟩ = false := by subst hW3; (first | go_cell | (simp [World.frozen?, World.alloc]; done) | rfl)
  have o1_3 : w3.cell? ⟨w2.heap.size, 1, none⟩ = some (.slice (some ⟨g, 0, none⟩) 24 cg) := by subst hW3; go_cell
  have of1_3 : w3.frozen? ⟨w2.heap.size, 1, none⟩ = false := by subst hW3; (first | go_cell | (simp [World.frozen?, World.alloc]; done) | rfl)
  have ol_3 : w2.heap.size < w3.heap.size := by subst hW3; simp
  have d3 : Below w2.heap.size w2 w3 := by subst hW3; go_grown
  clear hW3
  have c3 : Below w.heap.size w w3 := c2.trans (d3.mono c2.size)
  have a0_3 : w3.cell? ⟨w.heap.size, 0, none⟩ = some (.slice ao I.length cap) := (by rw [d3.cell (by first | omega | (simp; done) | (simp; omega))]; go_cell)
  have a1_3 : w3.cell? ⟨w.heap.size, 1, none⟩ = some (.slice (some ⟨bf, of', none⟩) 24 cf) := (by rw [d3.cell (by first | omega | (simp; done) | (simp; omega))]; go_cell)
  have al_3 : w.heap.size < w3.heap.size := (by have := d3.size; omega)
  have r0_3 : w3.cell? ⟨w.heap.size + 1, 0, none⟩ = some (.slice none 0 0) := (by rw [d3.cell (by first | omega | (simp; done) | (simp; omega))]; go_cell)
  have rf0_3 : w3.frozen? ⟨w.heap.size + 1, 0, none⟩ = false := (by rw [d3.frozen (by first | omega | (simp; done) | (simp; omega))]; (first | go_cell | (simp [World.frozen?, World.alloc]; done) | rfl))
  have r1_3 : w3.cell? ⟨w.heap.size + 1, 1, none⟩ = some (.slice none 0 0) := (by rw [d3.cell (by first | omega | (simp; done) | (simp; omega))]; go_cell)
  have rf1_3 : w3.frozen? ⟨w.heap.size + 1, 1, none⟩ = false := (by rw [d3.frozen (by first | omega | (simp; done) | (simp; omega))]; (first | go_cell | (simp [World.frozen?, World.alloc]; done) | rfl))
  have rl_3 : w.heap.size + 1 < w3.heap.size := (by have := d3.size; omega)
  clear a0_2 a1_2 al_2 r0_2 rf0_2 r1_2 rf1_2 rl_2
  have HOW3 := hid (row_later HOW2.out d3)
  have D3 := hid d3
  clear d3 HOW2
  go_loopw [4] (fun i wr => ∃ (k : Nat) (L : List KD) (v : Value) (xs : List Value) (us : Nat → Value), k ≤ I.length ∧ i = .int .i64 k ∧ Hid (L = I.take k) ∧ Hid (wr.cell? ⟨w2.heap.size, 0, none⟩ = some v) ∧ Hid (wr.frozen? ⟨w2.heap.size, 0, none⟩ = false) ∧ Hid (wr.cell? ⟨w2.heap.size, 1, none⟩ = some (.slice (some ⟨g, 0, none⟩) 24 cg)) ∧ Hid (RowA wr w3.heap.size v L xs us) ∧ Hid (KinO wr w3.heap.size L us) ∧ Hid (Below w2.heap.size w3 wr)) (fun i _ => I.length - (intOf i).toNat)
  case atStart => exact ⟨0, [], _, [], fun _ => .bool false, Nat.zero_le _, rfl, hid (by simp), hid o0_3, hid of0_3, hid o1_3, hid (RowA.nil _ _ _), hid (KinO.nil _ _ _), hid (Below.refl _ _)⟩
  case round =>
    clear o0_3 of0_3 o1_3 of1_3
    obtain ⟨k, L, v, xs, us, hk, rfl, hL, hco, hfo, hco1, hrow, hkin, hbel⟩ := hrel
    have o0 := hco.out
    have of0 := hfo.out
    have a0 := (hbel.out.cell (p := ⟨w.heap.size, 0, none⟩) al2).trans a0_3
    have hz := hbel.out.size
    have cw := c3.trans (hbel.out.mono (show w.heap.size ≤ w2.heap.size by omega))
    by_cases hlt : k < I.length
    · obtain ⟨b, off, rfl, hb, hcc⟩ := hc (by omega)
      obtain ⟨p0, p1, p2, lx, ux, hx, k0, k1, k2, k3, hux⟩ := atK_3k ((hcc k hlt).later hb cw)
      obtain ⟨uo, uc, rfl, _⟩ := id hux
      have HU := hid hux
      have ht := take_one (I := I) hlt
      rw [hx] at ht
      have HL2 : Hid (L ++ [([p0, p1, p2], lx)] = I.take (k + 1)) := hid (by rw [hL.out, ht])
      have hmk : lx.length ≤ 1099511627776 := by
        have := H8.out (I.getD k kd0) (by rw [getD_at hlt]; exact List.getElem_mem hlt)
        rw [hx] at this
        simp only at this
        omega
      have hLk : L.length ≤ 4 := by rw [hL.out, len_take hk]; have := H4.out; omega
      have hbz : b < wr.heap.size := by have := cw.size; omega
      have hO : w2.heap.size < wr.heap.size := by omega
      have hI4 : I.length ≤ 4 := H4.out
      have hk1' : L.length + 1 ≤ maxLen := by unfold maxLen; omega
      have hk2' : (L.length + 1) * 48 ≤ 140737488355328 := by omega
      have hki : (k : Int) < (I.length : Int) := by omega
      have HKI := hid hkin.out
      have HO1 := hid hco1.out
      clear hux hx ht hcc hL hco hfo hkin hco1
      go_upto_region 5 with fail
      go_region_law (first
        | (refine step_callK rfl 43 _ _ rfl _ (by simp [Act.eval]) Try.call43 _ (l5Copy_any p0 p1 p2 _ lx _ (HU.out.later (by go_grown)) hmk) ?_; rintro e w5 ⟨⟨uo', uc', rfl, ho⟩, b5⟩; refine ⟨_, rfl, ?_⟩; have d5 : Below wr.heap.size wr w5 := (Below.refl _ wr).drew.trans b5; have HK5 := hid (hrow.out.later d5); have o0_5 := (d5.cell (p := ⟨w2.heap.size, 0, none⟩) hO).trans o0; have of0_5 := (d5.frozen (p := ⟨w2.heap.size, 0, none⟩) hO).trans of0; have HO1_5 := hid ((d5.cell (p := ⟨w2.heap.size, 1, none⟩) hO).trans HO1.out); have HO5 := hid (Own.mono ho (B' := wr.heap.size) (Nat.le_refl _)); have hz5 := d5.size; have B6 : Hid (Below wr.heap.size wr (w5.alloc (.cells #[.int .i64 p0, .int .i64 p1, .int .i64 p2, .slice uo' lx.length uc'] 31))) := hid (d5.trans ((show Below w5.heap.size w5 (w5.alloc (.cells #[.int .i64 p0, .int .i64 p1, .int .i64 p2, .slice uo' lx.length uc'] 31)) by go_grown).mono hz5)); have HK6 := hid (hrow.out.later B6.out); have HNW := hid (four_new w5 p0 p1 p2 (.slice uo' lx.length uc')); have HO6 := hid (row_later HO5.out (show Below w5.heap.size w5 (w5.alloc (.cells #[.int .i64 p0, .int .i64 p1, .int .i64 p2, .slice uo' lx.length uc'] 31)) by go_grown)); have hz6 : w3.heap.size ≤ (w5.alloc (.cells #[.int .i64 p0, .int .i64 p1, .int .i64 p2, .slice uo' lx.length uc'] 31)).heap.size := (by have := B6.out.size; omega); have o0_6 := (((Below.refl _ w5).alloc (Nat.le_refl _) (.cells #[.int .i64 p0, .int .i64 p1, .int .i64 p2, .slice uo' lx.length uc'] 31)).cell (p := ⟨w2.heap.size, 0, none⟩) (Nat.lt_of_lt_of_le hO hz5)).trans o0_5; have of0_6 := (((Below.refl _ w5).alloc (Nat.le_refl _) (.cells #[.int .i64 p0, .int .i64 p1, .int .i64 p2, .slice uo' lx.length uc'] 31)).frozen (p := ⟨w2.heap.size, 0, none⟩) (Nat.lt_of_lt_of_le hO hz5)).trans of0_5; have HO1_6 := hid ((((Below.refl _ w5).alloc (Nat.le_refl _) (.cells #[.int .i64 p0, .int .i64 p1, .int .i64 p2, .slice uo' lx.length uc'] 31)).cell (p := ⟨w2.heap.size, 1, none⟩) (Nat.lt_of_lt_of_le hO hz5)).trans HO1_5.out); have hO6 : w2.heap.size < (w5.alloc (.cells #[.int .i64 p0, .int .i64 p1, .int .i64 p2, .slice uo' lx.length uc'] 31)).heap.size := (by have := B6.out.size; omega); clear ho b5 d5)
        | (refine step_append_own rfl _ _ 23 rfl w3.heap.size 31 i0 (.agg #[.int .i64 0, .int .i64 0, .int .i64 0, .slice none 0 0]) 4 48 Try.underlying23 hi hz0 hz1 hz2 rfl (by decide) v L.length xs (by simp [Act.eval]) HK6.out.row ⟨w5.heap.size, 0, none⟩ 1 1 [.int .i64 p0, .int .i64 p1, .int .i64 p2, .slice uo' lx.length uc'] (by simp [Act.eval]) rfl HNW.out (by simp [Value.oneCell']) hk1' hk2' hz6 ?_; intro v6 w6 hown6 hgr6 _; obtain ⟨g6, c6, hv6⟩ := ownsRow_succ hown6; subst hv6; have hne : some w2.heap.size ≠ v.ownBlock := (fun e => by have := (HK6.out.row.lt _ e.symm).1; have := D3.out.size; omega); have HR7 := hid (HK6.out.add (l := lx) hown6); have HK7 := hid (HKI.out.add (a := p0) (b := p1) (c := p2) HK6.out B6.out HO6.out hz hgr6); have o0_7 := (World.cell?_of_block (a := ⟨w2.heap.size, 0, none⟩) (hgr6.block w2.heap.size hO6 hne)).trans o0_6; have of0_7 := (World.frozen?_of_block (a := ⟨w2.heap.size, 0, none⟩) (hgr6.block w2.heap.size hO6 hne)).trans of0_6; have HO1_7 := hid ((World.cell?_of_block (a := ⟨w2.heap.size, 1, none⟩) (hgr6.block w2.heap.size hO6 hne)).trans HO1_6.out); have HB7 := hid ((hbel.out.trans (B6.out.mono (by omega))).grown hgr6 (by omega) (fun j ej => by have := (HK6.out.row.lt j ej).1; omega)); clear hown6 hgr6 hne))
      all_goals
        have HR8 := hid (HR7.out.off (w' := w6.setCell ⟨w2.heap.size, 0, none⟩ (.slice (some ⟨g6, 0, none⟩) (L.length + 1) c6)) (fun q h1 _ => Below.heap_setCell _ _ _ _ (by show q ≠ w2.heap.size; have := D3.out.size; have := ol_3; omega)))
        have HK8 := hid (KinO.off (w' := w6.setCell ⟨w2.heap.size, 0, none⟩ (.slice (some ⟨g6, 0, none⟩) (L.length + 1) c6)) HK7.out (fun q h1 _ => Below.heap_setCell _ _ _ _ (by show q ≠ w2.heap.size; have := D3.out.size; have := ol_3; omega)))
        have hc8 : Hid ((w6.setCell ⟨w2.heap.size, 0, none⟩ (.slice (some ⟨g6, 0, none⟩) (L.length + 1) c6)).cell? ⟨w2.heap.size, 0, none⟩ = some (.slice (some ⟨g6, 0, none⟩) (L.length + 1) c6)) := by
          show _ = _
          go_cell
        have hd8 : Hid ((w6.setCell ⟨w2.heap.size, 0, none⟩ (.slice (some ⟨g6, 0, none⟩) (L.length + 1) c6)).cell? ⟨w2.heap.size, 1, none⟩ = some (.slice (some ⟨g, 0, none⟩) 24 cg)) := by
          have := HO1_7.out
          show _ = _
          go_cell
        have hf8 : Hid ((w6.setCell ⟨w2.heap.size, 0, none⟩ (.slice (some ⟨g6, 0, none⟩) (L.length + 1) c6)).frozen? ⟨w2.heap.size, 0, none⟩ = false) := by
          show _ = _
          simpa using of0_7
        have HB8 := hid (HB7.out.setCell (p := ⟨w2.heap.size, 0, none⟩) (Nat.le_refl _) (.slice (some ⟨g6, 0, none⟩) (L.length + 1) c6))
        clear a0_3 a1_3
        go_wp2
        go_roundw
        case rel => exact ⟨k + 1, _, _, _, _, by omega, by go_num, HL2, hc8, hf8, hd8, HR8, HK8, HB8⟩
        case measure => simp [intOf]; omega
    · obtain rfl : k = I.length := by omega
      have HLI : Hid (L = I) := hid (by rw [hL.out, List.take_length])
      obtain ⟨so, sc, hv⟩ := hrow.out.slice
      subst hv
      have o1 := hco1.out
      have r0 := (hbel.out.cell (p := ⟨w.heap.size + 1, 0, none⟩) rl2).trans r0_3
      have r1 := (hbel.out.cell (p := ⟨w.heap.size + 1, 1, none⟩) rl2).trans r1_3
      have rf0 := (hbel.out.frozen (p := ⟨w.heap.size + 1, 0, none⟩) rl2).trans rf0_3
      have rf1 := (hbel.out.frozen (p := ⟨w.heap.size + 1, 1, none⟩) rl2).trans rf1_3
      have hg1 := HG2.out.1
      have hg2 := HG2.out.2
      have z3 := ol_3
      clear a0_3 a1_3 r0_3 r1_3 rf0_3 rf1_3 hc hco hfo hco1 of0
      go_wp2_with fail
      have KB := (cw.setCell (p := ⟨w.heap.size + 1, 0, none⟩) (by show w.heap.size ≤ w.heap.size + 1; omega) (.slice so L.length sc)).setCell (p := ⟨w.heap.size + 1, 1, none⟩) (by show w.heap.size ≤ w.heap.size + 1; omega) (.slice (some ⟨g, 0, none⟩) 24 cg)
      have hoff : ∀ q, w1.heap.size ≤ q → ((wr.setCell ⟨w.heap.size + 1, 0, none⟩ (.slice so L.length sc)).setCell ⟨w.heap.size + 1, 1, none⟩ (.slice (some ⟨g, 0, none⟩) 24 cg)).heap[q]? = wr.heap[q]? := fun q hq => by
        have := S1.out
        exact (Below.heap_setCell _ _ _ _ (by show q ≠ w.heap.size + 1; omega)).trans (Below.heap_setCell _ _ _ _ (by show q ≠ w.heap.size + 1; omega))
      have hz13 : w1.heap.size ≤ w3.heap.size := by have := D3.out.size; omega
      have R9 := (hrow.out.off (fun q h1 _ => hoff q (by omega))).rdK (G := fun q => q < w3.heap.size) (fun q hq => by have := (hrow.out.row.lt q hq).1; have := D3.out.size; omega) (fun t ht => ⟨((KinO.off hkin.out (fun q h1 _ => hoff q (by omega))).own t ht).rd, fun _ q hq => ⟨by have := ((hkin.out.own t ht).block q hq).1; have := D3.out.size; omega, fun e => kin_off_row hrow.out.row (hkin.out.own t ht) q e hq⟩⟩)
      have F9 := row_mono (row_agree (row_agree HOW3.out (fun q hq => by cases hq; exact hbel.out.block g hg2)) (fun q hq => hoff q (HOW3.out.lt q hq).1)) (B' := w.heap.size) cz1
      rw [← HLI.out]
      have e0 : ((wr.setCell ⟨w.heap.size + 1, 0, none⟩ (.slice so L.length sc)).setCell ⟨w.heap.size + 1, 1, none⟩ (.slice (some ⟨g, 0, none⟩) 24 cg)).cell? ⟨w.heap.size + 1, 0, none⟩ = some (.slice so L.length sc) := by go_cell
      have e1 : ((wr.setCell ⟨w.heap.size + 1, 0, none⟩ (.slice so L.length sc)).setCell ⟨w.heap.size + 1, 1, none⟩ (.slice (some ⟨g, 0, none⟩) 24 cg)).cell? ⟨w.heap.size + 1, 1, none⟩ = some (.slice (some ⟨g, 0, none⟩) 24 cg) := by go_cell
      exact bodyPost_ret (v := .agg #[.slice so L.length sc, .slice (some ⟨g, 0, none⟩) 24 cg]) (by simp [results, Try.results23, go_sem, e0, e1]) rfl ⟨⟨_, g, cg, w3.heap.size, rfl, by omega, by omega, by simp; omega, F9, R9⟩, KB⟩

/-! ### spec.CacheDrop -/
def EndR (w' : World) (I F : List KD) (e : Ending) : Prop := ∃ v0 v1, e = .returned (.agg #[v0, v1]) ∧ RSCache w' v0 v1 I F
end Go.Proofs.Ytilbaiohcfhcaaa
