/- What a key can have that is read from a text: plain; spec.ValRead: contract. -/
import Derived.Test.YtiplklcabcpccaaGreatDoorRv
import Derived.Test.YtiplklcabcpccaaGreatDoorRn
import Derived.Test.YtiplklcabcpccaaGreatDoorVh
import Derived.Test.YtiplklcabcpccaaGreatDoorVt
namespace Go.Proofs.YtiplklcabcpccaaGreatDoor
open Go.RowKit Go.Shelf
attribute [local go_sem ↓] Go.wp_at_zero Go.wp_at_succ

/-- What is read of a text for a key. -/
def ValR (k : Int) (s : List UInt8) (n : Int) (l : List (Int × Int)) (b : Bool) : Prop :=
  (kindOf k = 0 ∧ l = [] ∧ ((b = true ∧ 0 ≤ n ∧ n ≤ 1000000 ∧ s = Lib.itoa n) ∨ (b = false ∧ n = 0 ∧ ∀ m : Int, 0 ≤ m → m ≤ 1000000 → s = Lib.itoa m → False))) ∨
  (0 < kindOf k ∧ n = 0 ∧ ReadR s l b) ∨ (kindOf k < 0 ∧ n = 0 ∧ l = [] ∧ b = false)
theorem ValR.unique {k : Int} {s : List UInt8} {n m : Int} {l u : List (Int × Int)} {b c : Bool} (h : ValR k s n l b) (h' : ValR k s m u c) : n = m ∧ l = u ∧ b = c := by
  rcases h with ⟨hk, hl, h⟩ | ⟨hk, hn, h⟩ | ⟨hk, hn, hl, hb⟩ <;> rcases h' with ⟨hk', hl', h'⟩ | ⟨hk', hn', h'⟩ | ⟨hk', hn', hl', hb'⟩
  · subst hl hl'
    rcases h with ⟨rfl, h0, h1, h2⟩ | ⟨rfl, rfl, h2⟩ <;> rcases h' with ⟨rfl, k0, k1, k2⟩ | ⟨rfl, rfl, k2⟩
    · exact ⟨itoa_inj h0 k0 (h2.symm.trans k2), rfl, rfl⟩
    · exact (k2 _ h0 h1 h2).elim
    · exact (h2 _ k0 k1 k2).elim
    · exact ⟨rfl, rfl, rfl⟩
  · omega
  · omega
  · omega
  · obtain ⟨e1, e2⟩ := h.unique h'
    exact ⟨by rw [hn, hn'], e1, e2⟩
  · omega
  · omega
  · omega
  · exact ⟨by rw [hn, hn'], by rw [hl, hl'], by rw [hb, hb']⟩
theorem kind_ways (k : Int) : kindOf k = 0 ∨ kindOf k = 1 ∨ kindOf k = 2 ∨ kindOf k = -1 := by
  by_cases h : 0 ≤ k ∧ k < 24
  · rw [kindOf_in h.1 h.2]; omega
  · rw [kindOf_out h]; omega
theorem key_in_of {k : Int} (h : 0 ≤ kindOf k) : 0 ≤ k ∧ k < 24 := by
  by_cases h' : 0 ≤ k ∧ k < 24
  · exact h'
  · rw [kindOf_out h'] at h; omega
theorem okV_thing {k n : Int} (h : kindOf k = 0) : okV k n [] = decide (0 ≤ n ∧ n ≤ 1000000) := by
  obtain ⟨h0, h1⟩ := key_in_of (k := k) (by omega)
  rw [kindOf_in h0 h1] at h
  rw [okV, if_pos ⟨h0, h1⟩, if_pos h]
  simp
theorem okV_kin0 {k : Int} {l : List (Int × Int)} (h : 0 < kindOf k) : okV k 0 l = okL l := by
  obtain ⟨h0, h1⟩ := key_in_of (k := k) (by omega)
  rw [kindOf_in h0 h1] at h
  rw [okV_kin h0 h1 (by omega)]; simp
/-- The spec's answer. -/
def ValP (k : Int) (s : List UInt8) (w : World) (e : Ending) : Prop := ∃ n v l b, e = .returned (.tuple #[.agg #[.int .i64 n, v], .bool b]) ∧ Rd w v l ∧ ValR k s n l b ∧ l.length ≤ 200
theorem valP_no {k : Int} {s : List UInt8} {w : World} (h : ValR k s 0 [] false) : ValP k s w (.returned (.tuple #[.agg #[.int .i64 0, .slice none 0 0], .bool false])) :=
  ⟨0, _, [], false, rfl, Rd.nil _ _ _, h, by simp⟩

set_option maxRecDepth 100000 in
set_option maxHeartbeats 2000000 in
theorem specVRead_thing (k : Int) (s : ByteArray) (w : World) (hs : s.size ≤ 1048576) (hk : kindOf k = 0) :
    Calls Tryz.prog 12 #[.int .i64 k, .string s] w fun e w' => ValP k s.data.toList w' e ∧ Below w.heap.size w w' := by
  have HK := hid hk
  clear hk
  go_enter Tryz.func12, Tryz.ntmps12
  go_wp2_with fail
  have r0_1 : ((w.alloc (.cells #[.int .i64 0, .slice none 0 0] 25)).alloc (.cells #[.int .i64 0, .slice none 0 0] 25)).cell? ⟨w.heap.size, 0, none⟩ = some (.int .i64 0) := by go_cell
  have rf0_1 : ((w.alloc (.cells #[.int .i64 0, .slice none 0 0] 25)).alloc (.cells #[.int .i64 0, .slice none 0 0] 25)).frozen? ⟨w.heap.size, 0, none⟩ = false := by (first | go_cell | (simp [World.frozen?, World.alloc]; done) | rfl)
  have r1_1 : ((w.alloc (.cells #[.int .i64 0, .slice none 0 0] 25)).alloc (.cells #[.int .i64 0, .slice none 0 0] 25)).cell? ⟨w.heap.size, 1, none⟩ = some (.slice none 0 0) := by go_cell
  have rf1_1 : ((w.alloc (.cells #[.int .i64 0, .slice none 0 0] 25)).alloc (.cells #[.int .i64 0, .slice none 0 0] 25)).frozen? ⟨w.heap.size, 1, none⟩ = false := by (first | go_cell | (simp [World.frozen?, World.alloc]; done) | rfl)
  have rl_1 : w.heap.size < ((w.alloc (.cells #[.int .i64 0, .slice none 0 0] 25)).alloc (.cells #[.int .i64 0, .slice none 0 0] 25)).heap.size := by first | (simp; done) | (simp; omega)
  have v0_1 : ((w.alloc (.cells #[.int .i64 0, .slice none 0 0] 25)).alloc (.cells #[.int .i64 0, .slice none 0 0] 25)).cell? ⟨w.heap.size + 1, 0, none⟩ = some (.int .i64 0) := by go_cell
  have vf0_1 : ((w.alloc (.cells #[.int .i64 0, .slice none 0 0] 25)).alloc (.cells #[.int .i64 0, .slice none 0 0] 25)).frozen? ⟨w.heap.size + 1, 0, none⟩ = false := by (first | go_cell | (simp [World.frozen?, World.alloc]; done) | rfl)
  have v1_1 : ((w.alloc (.cells #[.int .i64 0, .slice none 0 0] 25)).alloc (.cells #[.int .i64 0, .slice none 0 0] 25)).cell? ⟨w.heap.size + 1, 1, none⟩ = some (.slice none 0 0) := by go_cell
  have vf1_1 : ((w.alloc (.cells #[.int .i64 0, .slice none 0 0] 25)).alloc (.cells #[.int .i64 0, .slice none 0 0] 25)).frozen? ⟨w.heap.size + 1, 1, none⟩ = false := by (first | go_cell | (simp [World.frozen?, World.alloc]; done) | rfl)
  have vl_1 : w.heap.size + 1 < ((w.alloc (.cells #[.int .i64 0, .slice none 0 0] 25)).alloc (.cells #[.int .i64 0, .slice none 0 0] 25)).heap.size := by first | (simp; done) | (simp; omega)
  have c1 : Below w.heap.size w ((w.alloc (.cells #[.int .i64 0, .slice none 0 0] 25)).alloc (.cells #[.int .i64 0, .slice none 0 0] 25)) := by go_grown
  have s1 : ((w.alloc (.cells #[.int .i64 0, .slice none 0 0] 25)).alloc (.cells #[.int .i64 0, .slice none 0 0] 25)).heap.size = w.heap.size + 2 := by simp
  generalize ((w.alloc (.cells #[.int .i64 0, .slice none 0 0] 25)).alloc (.cells #[.int .i64 0, .slice none 0 0] 25)) = w1 at r0_1 rf0_1 r1_1 rf1_1 rl_1 v0_1 vf0_1 v1_1 vf1_1 vl_1 c1 s1 ⊢
  have qr0_1 := cell_regrown r0_1
  have qr1_1 := cell_regrown r1_1
  have qv0_1 := cell_regrown v0_1
  have qv1_1 := cell_regrown v1_1
  refine (specKind_any k _).mono ?_
  rintro e w1 ⟨rfl, rfl⟩
  rw [HK.out]
  go_wp2_with fail
  refine (specKind_any k _).mono ?_
  rintro e w1 ⟨rfl, rfl⟩
  rw [HK.out]
  go_wp2_with fail
  refine (numRead_any s _ hs).mono ?_
  rintro e w1 ⟨⟨n, b, rfl, n0, n1, hc, hso⟩, rfl⟩
  have HC := hid hc
  have HS := hid hso
  clear hc hso
  cases b with
  | false =>
    have HN : Hid (ValR k s.data.toList 0 [] false) := hidT (Or.inl ⟨HK.out, rfl, Or.inr ⟨rfl, rfl, fun m h0 h1 he => by cases (HC.out m (by omega) (by omega) he).2⟩⟩)
    go_wp2
    refine bodyPost_ret (v := .tuple #[.agg #[.int .i64 0, .slice none 0 0], .bool false]) (by simp [results, Tryz.results12, go_sem, r0_1, r1_1]) rfl ⟨valP_no HN.out, by go_grown⟩
  | true =>
    have hE := HS.out rfl
    by_cases hn : 0 ≤ n ∧ n ≤ 1000000
    · have HN : Hid (ValR k s.data.toList n [] true) := hidT (Or.inl ⟨HK.out, rfl, Or.inl ⟨rfl, hn.1, hn.2, hE⟩⟩)
      have ho : okV k n [] = true := by rw [okV_thing HK.out]; exact decide_eq_true hn
      clear hn hE
      go_wp2_with fail
      refine (specOkV_any k n _ [] _ (Rd.nil _ none 0)).mono ?_
      rintro e w4 ⟨rfl, b4⟩
      rw [ho]
      have c4 : Below w.heap.size w w4 := (c1.setCell (p := ⟨w.heap.size + 1, 0, none⟩) (by show w.heap.size ≤ w.heap.size + 1; omega) (.int .i64 n)).trans (b4.mono (by simp; exact c1.size))
      have r0_4 : w4.cell? ⟨w.heap.size, 0, none⟩ = some (.int .i64 0) := (by rw [b4.cell (by first | omega | (simp; done) | (simp; omega))]; go_cell)
      have rf0_4 : w4.frozen? ⟨w.heap.size, 0, none⟩ = false := (by rw [b4.frozen (by first | omega | (simp; done) | (simp; omega))]; (first | go_cell | (simp [World.frozen?, World.alloc]; done) | rfl))
      have r1_4 : w4.cell? ⟨w.heap.size, 1, none⟩ = some (.slice none 0 0) := (by rw [b4.cell (by first | omega | (simp; done) | (simp; omega))]; go_cell)
      have rf1_4 : w4.frozen? ⟨w.heap.size, 1, none⟩ = false := (by rw [b4.frozen (by first | omega | (simp; done) | (simp; omega))]; (first | go_cell | (simp [World.frozen?, World.alloc]; done) | rfl))
      have rl_4 : w.heap.size < w4.heap.size := (by have := b4.size; first | omega | (revert this; simp; done) | (revert this; simp; omega))
      have v0_4 : w4.cell? ⟨w.heap.size + 1, 0, none⟩ = some (.int .i64 n) := (by rw [b4.cell (by first | omega | (simp; done) | (simp; omega))]; go_cell)
      have v1_4 : w4.cell? ⟨w.heap.size + 1, 1, none⟩ = some (.slice none 0 0) := (by rw [b4.cell (by first | omega | (simp; done) | (simp; omega))]; go_cell)
      have vl_4 : w.heap.size + 1 < w4.heap.size := (by have := b4.size; first | omega | (revert this; simp; done) | (revert this; simp; omega))
      clear b4
      go_wp2
      refine bodyPost_ret (v := .tuple #[.agg #[.int .i64 n, .slice none 0 0], .bool true]) (by simp [results, Tryz.results12, go_sem, r0_4, r1_4]) rfl ⟨⟨n, _, [], true, rfl, Rd.nil _ none 0, HN.out, by simp⟩, by go_grown⟩
    · have ho : okV k n [] = false := by rw [okV_thing HK.out]; exact decide_eq_false hn
      have HN : Hid (ValR k s.data.toList 0 [] false) := hidT (Or.inl ⟨HK.out, rfl, Or.inr ⟨rfl, rfl, fun m h0 h1 he => by
        have := (HC.out m (by omega) (by omega) he).1
        omega⟩⟩)
      clear hn hE
      go_wp2_with fail
      refine (specOkV_any k n _ [] _ (Rd.nil _ none 0)).mono ?_
      rintro e w4 ⟨rfl, b4⟩
      rw [ho]
      have c4 : Below w.heap.size w w4 := (c1.setCell (p := ⟨w.heap.size + 1, 0, none⟩) (by show w.heap.size ≤ w.heap.size + 1; omega) (.int .i64 n)).trans (b4.mono (by simp; exact c1.size))
      have r0_4 : w4.cell? ⟨w.heap.size, 0, none⟩ = some (.int .i64 0) := (by rw [b4.cell (by first | omega | (simp; done) | (simp; omega))]; go_cell)
      have rf0_4 : w4.frozen? ⟨w.heap.size, 0, none⟩ = false := (by rw [b4.frozen (by first | omega | (simp; done) | (simp; omega))]; (first | go_cell | (simp [World.frozen?, World.alloc]; done) | rfl))
      have r1_4 : w4.cell? ⟨w.heap.size, 1, none⟩ = some (.slice none 0 0) := (by rw [b4.cell (by first | omega | (simp; done) | (simp; omega))]; go_cell)
      have rf1_4 : w4.frozen? ⟨w.heap.size, 1, none⟩ = false := (by rw [b4.frozen (by first | omega | (simp; done) | (simp; omega))]; (first | go_cell | (simp [World.frozen?, World.alloc]; done) | rfl))
      have rl_4 : w.heap.size < w4.heap.size := (by have := b4.size; first | omega | (revert this; simp; done) | (revert this; simp; omega))
      clear b4
      go_wp2
      refine bodyPost_ret (v := .tuple #[.agg #[.int .i64 0, .slice none 0 0], .bool false]) (by simp [results, Tryz.results12, go_sem, r0_4, r1_4]) rfl ⟨valP_no HN.out, by go_grown⟩

theorem Rd.set_far {w : World} {v : Value} {l : List (Int × Int)} {p : Addr} (h : Rd w v l) (hp : v.ownBlock ≠ some p.block) (u : Value) : Rd (w.setCell p u) v l := by
  obtain ⟨ao, cap, hv, hl, hc⟩ := h
  subst hv
  refine ⟨ao, cap, rfl, hl, fun h0 => ?_⟩
  obtain ⟨b, off, ha, hlt, hcc⟩ := hc h0
  subst ha
  have hne : b ≠ p.block := fun e => hp (by rw [e]; rfl)
  refine ⟨b, off, rfl, by simpa using hlt, fun i hi => ?_⟩
  obtain ⟨c0, c1⟩ := hcc i hi
  refine ⟨?_, ?_⟩
  · rw [← c0]; exact World.cell?_of_block (w := w) (Below.heap_setCell _ _ _ _ hne)
  · rw [← c1]; exact World.cell?_of_block (w := w) (Below.heap_setCell _ _ _ _ hne)

set_option maxRecDepth 100000 in
set_option maxHeartbeats 2000000 in
theorem specVRead_kin (k : Int) (s : ByteArray) (w : World) (hs : s.size ≤ 1048576) (hk : kindOf k = 1 ∨ kindOf k = 2) :
    Calls Tryz.prog 12 #[.int .i64 k, .string s] w fun e w' => ValP k s.data.toList w' e ∧ Below w.heap.size w w' := by
  have hkp : 0 < kindOf k := by omega
  rcases hk with hk | hk
  all_goals
    have HK := hid hk
    have HKP := hid hkp
    clear hk hkp
    go_enter Tryz.func12, Tryz.ntmps12
    go_wp2_with fail
    have r0_1 : ((w.alloc (.cells #[.int .i64 0, .slice none 0 0] 25)).alloc (.cells #[.int .i64 0, .slice none 0 0] 25)).cell? ⟨w.heap.size, 0, none⟩ = some (.int .i64 0) := by go_cell
    have rf0_1 : ((w.alloc (.cells #[.int .i64 0, .slice none 0 0] 25)).alloc (.cells #[.int .i64 0, .slice none 0 0] 25)).frozen? ⟨w.heap.size, 0, none⟩ = false := by (first | go_cell | (simp [World.frozen?, World.alloc]; done) | rfl)
    have r1_1 : ((w.alloc (.cells #[.int .i64 0, .slice none 0 0] 25)).alloc (.cells #[.int .i64 0, .slice none 0 0] 25)).cell? ⟨w.heap.size, 1, none⟩ = some (.slice none 0 0) := by go_cell
    have rf1_1 : ((w.alloc (.cells #[.int .i64 0, .slice none 0 0] 25)).alloc (.cells #[.int .i64 0, .slice none 0 0] 25)).frozen? ⟨w.heap.size, 1, none⟩ = false := by (first | go_cell | (simp [World.frozen?, World.alloc]; done) | rfl)
    have rl_1 : w.heap.size < ((w.alloc (.cells #[.int .i64 0, .slice none 0 0] 25)).alloc (.cells #[.int .i64 0, .slice none 0 0] 25)).heap.size := by first | (simp; done) | (simp; omega)
    have v0_1 : ((w.alloc (.cells #[.int .i64 0, .slice none 0 0] 25)).alloc (.cells #[.int .i64 0, .slice none 0 0] 25)).cell? ⟨w.heap.size + 1, 0, none⟩ = some (.int .i64 0) := by go_cell
    have vf0_1 : ((w.alloc (.cells #[.int .i64 0, .slice none 0 0] 25)).alloc (.cells #[.int .i64 0, .slice none 0 0] 25)).frozen? ⟨w.heap.size + 1, 0, none⟩ = false := by (first | go_cell | (simp [World.frozen?, World.alloc]; done) | rfl)
    have v1_1 : ((w.alloc (.cells #[.int .i64 0, .slice none 0 0] 25)).alloc (.cells #[.int .i64 0, .slice none 0 0] 25)).cell? ⟨w.heap.size + 1, 1, none⟩ = some (.slice none 0 0) := by go_cell
    have vf1_1 : ((w.alloc (.cells #[.int .i64 0, .slice none 0 0] 25)).alloc (.cells #[.int .i64 0, .slice none 0 0] 25)).frozen? ⟨w.heap.size + 1, 1, none⟩ = false := by (first | go_cell | (simp [World.frozen?, World.alloc]; done) | rfl)
    have vl_1 : w.heap.size + 1 < ((w.alloc (.cells #[.int .i64 0, .slice none 0 0] 25)).alloc (.cells #[.int .i64 0, .slice none 0 0] 25)).heap.size := by first | (simp; done) | (simp; omega)
    have c1 : Below w.heap.size w ((w.alloc (.cells #[.int .i64 0, .slice none 0 0] 25)).alloc (.cells #[.int .i64 0, .slice none 0 0] 25)) := by go_grown
    have s1 : ((w.alloc (.cells #[.int .i64 0, .slice none 0 0] 25)).alloc (.cells #[.int .i64 0, .slice none 0 0] 25)).heap.size = w.heap.size + 2 := by simp
    generalize ((w.alloc (.cells #[.int .i64 0, .slice none 0 0] 25)).alloc (.cells #[.int .i64 0, .slice none 0 0] 25)) = w1 at r0_1 rf0_1 r1_1 rf1_1 rl_1 v0_1 vf0_1 v1_1 vf1_1 vl_1 c1 s1 ⊢
    have qr0_1 := cell_regrown r0_1
    have qr1_1 := cell_regrown r1_1
    have qv0_1 := cell_regrown v0_1
    have qv1_1 := cell_regrown v1_1
    refine (specKind_any k _).mono ?_
    rintro e w1 ⟨rfl, rfl⟩
    rw [HK.out]
    go_wp2_with fail
    refine (specKind_any k _).mono ?_
    rintro e w1 ⟨rfl, rfl⟩
    rw [HK.out]
    go_wp2_with fail
    refine (specRead_any s _ hs).mono ?_
    rintro e w2 ⟨⟨u, l, b, rfl, hu, hR, hB⟩, b2⟩
    have vl_1' := vl_1
    have HU := hid hu
    have HR := hid hR
    have HB := hid hB
    clear hu hR hB
    have d2 : Below w1.heap.size w1 w2 := (Below.trans (by go_grown) (b2.mono (by first | omega | (simp; done) | (simp; omega))))
    have c2 : Below w.heap.size w w2 := c1.trans (d2.mono c1.size)
    have r0_2 : w2.cell? ⟨w.heap.size, 0, none⟩ = some (.int .i64 0) := (by rw [b2.cell (by first | omega | (simp; done) | (simp; omega))]; go_cell)
    have rf0_2 : w2.frozen? ⟨w.heap.size, 0, none⟩ = false := (by rw [b2.frozen (by first | omega | (simp; done) | (simp; omega))]; (first | go_cell | (simp [World.frozen?, World.alloc]; done) | rfl))
    have r1_2 : w2.cell? ⟨w.heap.size, 1, none⟩ = some (.slice none 0 0) := (by rw [b2.cell (by first | omega | (simp; done) | (simp; omega))]; go_cell)
    have rf1_2 : w2.frozen? ⟨w.heap.size, 1, none⟩ = false := (by rw [b2.frozen (by first | omega | (simp; done) | (simp; omega))]; (first | go_cell | (simp [World.frozen?, World.alloc]; done) | rfl))
    have rl_2 : w.heap.size < w2.heap.size := (by have := b2.size; first | omega | (revert this; simp; done) | (revert this; simp; omega))
    have v0_2 : w2.cell? ⟨w.heap.size + 1, 0, none⟩ = some (.int .i64 0) := (by rw [b2.cell (by first | omega | (simp; done) | (simp; omega))]; go_cell)
    have vf0_2 : w2.frozen? ⟨w.heap.size + 1, 0, none⟩ = false := (by rw [b2.frozen (by first | omega | (simp; done) | (simp; omega))]; (first | go_cell | (simp [World.frozen?, World.alloc]; done) | rfl))
    have v1_2 : w2.cell? ⟨w.heap.size + 1, 1, none⟩ = some (.slice none 0 0) := (by rw [b2.cell (by first | omega | (simp; done) | (simp; omega))]; go_cell)
    have vf1_2 : w2.frozen? ⟨w.heap.size + 1, 1, none⟩ = false := (by rw [b2.frozen (by first | omega | (simp; done) | (simp; omega))]; (first | go_cell | (simp [World.frozen?, World.alloc]; done) | rfl))
    have vl_2 : w.heap.size + 1 < w2.heap.size := (by have := b2.size; first | omega | (revert this; simp; done) | (revert this; simp; omega))
    clear r0_1 rf0_1 r1_1 rf1_1 rl_1 v0_1 vf0_1 v1_1 vf1_1 vl_1
    clear b2 d2
    obtain ⟨uo, uc, huv, _⟩ := HU.out
    subst huv
    cases b with
    | false =>
      have HN : Hid (ValR k s.data.toList 0 [] false) := hidT (by
        rcases HR.out with ⟨h, _⟩ | ⟨_, _, h⟩
        · cases h
        · exact Or.inr (Or.inl ⟨HKP.out, rfl, Or.inr ⟨rfl, rfl, h⟩⟩))
      go_wp2
      refine bodyPost_ret (v := .tuple #[.agg #[.int .i64 0, .slice none 0 0], .bool false]) (by simp [results, Tryz.results12, go_sem, r0_2, r1_2]) rfl ⟨valP_no HN.out, by go_grown⟩
    | true =>
      have HN : Hid (ValR k s.data.toList 0 l true) := hidT (Or.inr (Or.inl ⟨HKP.out, rfl, HR.out⟩))
      have hlen := readR_length HR.out
      have HL := hid hlen
      clear hlen
      have ho : okV k 0 l = true := by
        rw [okV_kin0 HKP.out]
        rcases HR.out with ⟨_, h, _⟩ | ⟨h, _⟩
        · exact h
        · cases h
      have HU2 := hid (Rd.set_far (p := ⟨w.heap.size + 1, 1, none⟩) HU.out (fun e => by have := HB.out _ e; have hh : w.heap.size + 1 < w1.heap.size := vl_1'; simp only at this; omega) (.slice uo l.length uc))
      have c2' : Below w.heap.size w (w2.setCell ⟨w.heap.size + 1, 1, none⟩ (.slice uo l.length uc)) := c2.setCell (p := ⟨w.heap.size + 1, 1, none⟩) (by show w.heap.size ≤ w.heap.size + 1; omega) _
      go_wp2_with fail
      refine (specOkV_any k 0 _ l _ HU2.out).mono ?_
      rintro e w4 ⟨rfl, b4⟩
      rw [ho]
      have c4 : Below w.heap.size w w4 := c2'.trans (b4.mono c2'.size)
      have r0_4 : w4.cell? ⟨w.heap.size, 0, none⟩ = some (.int .i64 0) := (by rw [b4.cell (by first | omega | (simp; done) | (simp; omega))]; go_cell)
      have rf0_4 : w4.frozen? ⟨w.heap.size, 0, none⟩ = false := (by rw [b4.frozen (by first | omega | (simp; done) | (simp; omega))]; (first | go_cell | (simp [World.frozen?, World.alloc]; done) | rfl))
      have r1_4 : w4.cell? ⟨w.heap.size, 1, none⟩ = some (.slice none 0 0) := (by rw [b4.cell (by first | omega | (simp; done) | (simp; omega))]; go_cell)
      have rf1_4 : w4.frozen? ⟨w.heap.size, 1, none⟩ = false := (by rw [b4.frozen (by first | omega | (simp; done) | (simp; omega))]; (first | go_cell | (simp [World.frozen?, World.alloc]; done) | rfl))
      have rl_4 : w.heap.size < w4.heap.size := (by have := b4.size; first | omega | (revert this; simp; done) | (revert this; simp; omega))
      have v0_4 : w4.cell? ⟨w.heap.size + 1, 0, none⟩ = some (.int .i64 0) := (by rw [b4.cell (by first | omega | (simp; done) | (simp; omega))]; go_cell)
      have v1_4 : w4.cell? ⟨w.heap.size + 1, 1, none⟩ = some (.slice uo l.length uc) := (by rw [b4.cell (by first | omega | (simp; done) | (simp; omega))]; go_cell)
      have vl_4 : w.heap.size + 1 < w4.heap.size := (by have := b4.size; first | omega | (revert this; simp; done) | (revert this; simp; omega))
      have HU4 := hid (HU2.out.later b4)
      clear b4 c2'
      go_wp2
      have e0 : ((w4.setCell ⟨w.heap.size, 0, none⟩ (.int .i64 0)).setCell ⟨w.heap.size, 1, none⟩ (.slice uo l.length uc)).cell? ⟨w.heap.size, 0, none⟩ = some (.int .i64 0) := by go_cell
      have e1 : ((w4.setCell ⟨w.heap.size, 0, none⟩ (.int .i64 0)).setCell ⟨w.heap.size, 1, none⟩ (.slice uo l.length uc)).cell? ⟨w.heap.size, 1, none⟩ = some (.slice uo l.length uc) := by go_cell
      have hfar : (Value.slice uo l.length uc).ownBlock ≠ some w.heap.size := fun e => by have := HB.out _ e; omega
      have HF := hid hfar
      clear hfar
      refine bodyPost_ret (v := .tuple #[.agg #[.int .i64 0, .slice uo l.length uc], .bool true]) (by simp [results, Tryz.results12, go_sem, e0, e1]) rfl ⟨⟨0, _, l, true, rfl, (HU4.out.set_far (p := ⟨w.heap.size, 0, none⟩) HF.out _).set_far (p := ⟨w.heap.size, 1, none⟩) HF.out _, HN.out, HL.out⟩, (c4.setCell (p := ⟨w.heap.size, 0, none⟩) (Nat.le_refl _) _).setCell (p := ⟨w.heap.size, 1, none⟩) (Nat.le_refl _) _⟩

theorem specVRead_none (k : Int) (s : ByteArray) (w : World) (hk : kindOf k = -1) :
    Calls Tryz.prog 12 #[.int .i64 k, .string s] w fun e w' => ValP k s.data.toList w' e ∧ Below w.heap.size w w' := by
  have HK := hid hk
  clear hk
  have HN : Hid (ValR k s.data.toList 0 [] false) := hidT (Or.inr (Or.inr ⟨by rw [HK.out]; decide, rfl, rfl, rfl⟩))
  go_enter Tryz.func12, Tryz.ntmps12
  go_wp2_with fail
  have r0_1 : ((w.alloc (.cells #[.int .i64 0, .slice none 0 0] 25)).alloc (.cells #[.int .i64 0, .slice none 0 0] 25)).cell? ⟨w.heap.size, 0, none⟩ = some (.int .i64 0) := by go_cell
  have rf0_1 : ((w.alloc (.cells #[.int .i64 0, .slice none 0 0] 25)).alloc (.cells #[.int .i64 0, .slice none 0 0] 25)).frozen? ⟨w.heap.size, 0, none⟩ = false := by (first | go_cell | (simp [World.frozen?, World.alloc]; done) | rfl)
  have r1_1 : ((w.alloc (.cells #[.int .i64 0, .slice none 0 0] 25)).alloc (.cells #[.int .i64 0, .slice none 0 0] 25)).cell? ⟨w.heap.size, 1, none⟩ = some (.slice none 0 0) := by go_cell
  have rf1_1 : ((w.alloc (.cells #[.int .i64 0, .slice none 0 0] 25)).alloc (.cells #[.int .i64 0, .slice none 0 0] 25)).frozen? ⟨w.heap.size, 1, none⟩ = false := by (first | go_cell | (simp [World.frozen?, World.alloc]; done) | rfl)
  have rl_1 : w.heap.size < ((w.alloc (.cells #[.int .i64 0, .slice none 0 0] 25)).alloc (.cells #[.int .i64 0, .slice none 0 0] 25)).heap.size := by first | (simp; done) | (simp; omega)
  have v0_1 : ((w.alloc (.cells #[.int .i64 0, .slice none 0 0] 25)).alloc (.cells #[.int .i64 0, .slice none 0 0] 25)).cell? ⟨w.heap.size + 1, 0, none⟩ = some (.int .i64 0) := by go_cell
  have vf0_1 : ((w.alloc (.cells #[.int .i64 0, .slice none 0 0] 25)).alloc (.cells #[.int .i64 0, .slice none 0 0] 25)).frozen? ⟨w.heap.size + 1, 0, none⟩ = false := by (first | go_cell | (simp [World.frozen?, World.alloc]; done) | rfl)
  have v1_1 : ((w.alloc (.cells #[.int .i64 0, .slice none 0 0] 25)).alloc (.cells #[.int .i64 0, .slice none 0 0] 25)).cell? ⟨w.heap.size + 1, 1, none⟩ = some (.slice none 0 0) := by go_cell
  have vf1_1 : ((w.alloc (.cells #[.int .i64 0, .slice none 0 0] 25)).alloc (.cells #[.int .i64 0, .slice none 0 0] 25)).frozen? ⟨w.heap.size + 1, 1, none⟩ = false := by (first | go_cell | (simp [World.frozen?, World.alloc]; done) | rfl)
  have vl_1 : w.heap.size + 1 < ((w.alloc (.cells #[.int .i64 0, .slice none 0 0] 25)).alloc (.cells #[.int .i64 0, .slice none 0 0] 25)).heap.size := by first | (simp; done) | (simp; omega)
  have c1 : Below w.heap.size w ((w.alloc (.cells #[.int .i64 0, .slice none 0 0] 25)).alloc (.cells #[.int .i64 0, .slice none 0 0] 25)) := by go_grown
  have s1 : ((w.alloc (.cells #[.int .i64 0, .slice none 0 0] 25)).alloc (.cells #[.int .i64 0, .slice none 0 0] 25)).heap.size = w.heap.size + 2 := by simp
  generalize ((w.alloc (.cells #[.int .i64 0, .slice none 0 0] 25)).alloc (.cells #[.int .i64 0, .slice none 0 0] 25)) = w1 at r0_1 rf0_1 r1_1 rf1_1 rl_1 v0_1 vf0_1 v1_1 vf1_1 vl_1 c1 s1 ⊢
  have qr0_1 := cell_regrown r0_1
  have qr1_1 := cell_regrown r1_1
  have qv0_1 := cell_regrown v0_1
  have qv1_1 := cell_regrown v1_1
  refine (specKind_any k _).mono ?_
  rintro e w1 ⟨rfl, rfl⟩
  rw [HK.out]
  go_wp2_with fail
  refine (specKind_any k _).mono ?_
  rintro e w1 ⟨rfl, rfl⟩
  rw [HK.out]
  go_wp2
  refine bodyPost_ret (v := .tuple #[.agg #[.int .i64 0, .slice none 0 0], .bool false]) (by simp [results, Tryz.results12, go_sem, r0_1, r1_1]) rfl ⟨valP_no HN.out, by go_grown⟩

theorem specVRead_any (k : Int) (s : ByteArray) (w : World) (hs : s.size ≤ 1048576) :
    Calls Tryz.prog 12 #[.int .i64 k, .string s] w fun e w' => ValP k s.data.toList w' e ∧ Below w.heap.size w w' := by
  rcases kind_ways k with h | h | h | h
  · exact specVRead_thing k s w hs h
  · exact specVRead_kin k s w hs (Or.inl h)
  · exact specVRead_kin k s w hs (Or.inr h)
  · exact specVRead_none k s w h
end Go.Proofs.YtiplklcabcpccaaGreatDoor
