/- impl.ValRead: contract. -/
import Derived.Test.YtiplklcabcpccaaGreatDoorVr
import Derived.Lib.QuietBelow
namespace Go.Proofs.YtiplklcabcpccaaGreatDoor
open Go.RowKit Go.Shelf
attribute [local go_sem ↓] Go.wp_at_zero Go.wp_at_succ

/-- impl's answer. -/
def ValO (k : Int) (s : List UInt8) (B : Nat) (w : World) (e : Ending) : Prop := ∃ n v l b, e = .returned (.tuple #[.agg #[.int .i64 n, v], .bool b]) ∧ Own w B v l ∧ ValR k s n l b
theorem valO_no {k : Int} {s : List UInt8} {B : Nat} {w : World} (h : ValR k s 0 [] false) : ValO k s B w (.returned (.tuple #[.agg #[.int .i64 0, .slice none 0 0], .bool false])) :=
  ⟨0, _, [], false, rfl, World.ownsRow_nil _ _ _ _, h⟩

/-- What readHeld answers of a number. -/
def NumH (l : List UInt8) (e : Ending) : Prop := ∃ n b, e = .returned (.tuple #[.iface 60 (.int .i64 n), .bool b]) ∧ -9223372036854775808 ≤ n ∧ n ≤ 9223372036854775807 ∧ ∀ m : Int, -100000000000000000 < m → m < 100000000000000000 → l = Lib.itoa m → n = m ∧ b = true

set_option maxRecDepth 100000 in
set_option maxHeartbeats 1000000 in
theorem readHeld_num (k : Int) (s : ByteArray) (w : World) (hs : s.size ≤ 1048576) (hk : kindOf k = 0) (hL : Lib4 w) :
    Calls Tryz.prog 16 #[.int .i64 k, .string s] w fun e w' => NumH s.data.toList e ∧ Below w.heap.size w w' := by
  have HL := hid hL
  have HK := hid hk
  clear hL hk
  go_enter Tryz.func16, Tryz.ntmps16
  go_wp2_with fail
  refine (implKind_any k _).mono ?_
  rintro e w1 ⟨rfl, rfl⟩
  rw [HK.out]
  go_wp2_with fail
  refine (atoi_any s _ hs HL.out.err).mono ?_
  rintro e w2 ⟨⟨n, v, rfl, hv, n0, n1, hx⟩, b2⟩
  have HX := hid hx
  clear hx
  rcases hv with rfl | ⟨t, a, rfl⟩
  · have HN : Hid (∀ m : Int, -100000000000000000 < m → m < 100000000000000000 → s.data.toList = Lib.itoa m → n = m ∧ true = true) := hidT (fun m h0 h1 he => ⟨(HX.out m h0 h1 he).1, rfl⟩)
    go_wp2_with fail
    refine wp_region_quiet_below (by kernel_rfl) (by kernel_rfl) ?_
    repeat (first | go_big_quiet_skip | (go_big_quiet_want; go_big_quiet_op; first | go_big_quiet_on | go_big_quiet_call (first | (fail))))
    refine wpQuiet_nil ?_
    rintro wq ⟨pq, hwq⟩
    have hq : Below w2.heap.size w2 wq := by rw [hwq]; exact below_regrown _ _ _
    clear hwq pq
    go_wp2
    go_ret2
    exact ⟨⟨n, true, by simp, n0, n1, fun m a b c => ⟨(HN.out m a b c).1, rfl⟩⟩, b2.trans (hq.mono b2.size)⟩
  · have HN : Hid (∀ m : Int, -100000000000000000 < m → m < 100000000000000000 → s.data.toList = Lib.itoa m → n = m ∧ false = true) := hidT (fun m h0 h1 he => by cases (HX.out m h0 h1 he).2)
    go_wp2_with fail
    refine wp_region_quiet_below (by kernel_rfl) (by kernel_rfl) ?_
    repeat (first | go_big_quiet_skip | (go_big_quiet_want; go_big_quiet_op; first | go_big_quiet_on | go_big_quiet_call (first | (fail))))
    refine wpQuiet_nil ?_
    rintro wq ⟨pq, hwq⟩
    have hq : Below w2.heap.size w2 wq := by rw [hwq]; exact below_regrown _ _ _
    clear hwq pq
    go_wp2
    go_ret2
    exact ⟨⟨n, false, by simp, n0, n1, HN.out⟩, b2.trans (hq.mono b2.size)⟩

set_option maxRecDepth 100000 in
set_option maxHeartbeats 1000000 in
theorem readHeld_kin (k : Int) (s : ByteArray) (w : World) (hs : s.size ≤ 1048576) (hk : (kindOf k == 0) = false) (hL : Lib4 w) :
    Calls Tryz.prog 16 #[.int .i64 k, .string s] w fun e w' => (∃ v l b, e = .returned (.tuple #[.iface 62 v, .bool b]) ∧ Own w' w.heap.size v l ∧ ReadR s.data.toList l b) ∧ Below w.heap.size w w' := by
  have HL := hid hL
  clear hL
  go_enter Tryz.func16, Tryz.ntmps16
  go_wp2_with fail
  refine (implKind_any k _).mono ?_
  rintro e w1 ⟨rfl, rfl⟩
  go_wp2_with fail
  refine (implRead_any s _ hs HL.out).mono ?_
  rintro e w2 ⟨⟨v, l, b, rfl, ho, hR⟩, b2⟩
  have HO := hid ho
  have HR := hid hR
  clear ho hR
  go_wp2
  go_ret2
  exact ⟨⟨v, l, b, by simp, HO.out, HR.out⟩, b2⟩

set_option maxRecDepth 100000 in
set_option maxHeartbeats 2000000 in
theorem implVRead_thing (k : Int) (s : ByteArray) (w : World) (hs : s.size ≤ 1048576) (hk : kindOf k = 0) (hL : Lib4 w) :
    Calls Tryz.prog 6 #[.int .i64 k, .string s] w fun e w' => ValO k s.data.toList w.heap.size w' e ∧ Below w.heap.size w w' := by
  have HL := hid hL
  have HK := hid hk
  have hin := key_in_of (k := k) (by omega)
  clear hL hk
  go_enter Tryz.func6, Tryz.ntmps6
  go_wp2_with fail
  have r0_1 : (w.alloc (.cells #[.int .i64 0, .slice none 0 0] 25)).cell? ⟨w.heap.size, 0, none⟩ = some (.int .i64 0) := by go_cell
  have rf0_1 : (w.alloc (.cells #[.int .i64 0, .slice none 0 0] 25)).frozen? ⟨w.heap.size, 0, none⟩ = false := by (first | go_cell | (simp [World.frozen?, World.alloc]; done) | rfl)
  have r1_1 : (w.alloc (.cells #[.int .i64 0, .slice none 0 0] 25)).cell? ⟨w.heap.size, 1, none⟩ = some (.slice none 0 0) := by go_cell
  have rf1_1 : (w.alloc (.cells #[.int .i64 0, .slice none 0 0] 25)).frozen? ⟨w.heap.size, 1, none⟩ = false := by (first | go_cell | (simp [World.frozen?, World.alloc]; done) | rfl)
  have rl_1 : w.heap.size < (w.alloc (.cells #[.int .i64 0, .slice none 0 0] 25)).heap.size := by first | (simp; done) | (simp; omega)
  have c1 : Below w.heap.size w (w.alloc (.cells #[.int .i64 0, .slice none 0 0] 25)) := by go_grown
  have s1 : (w.alloc (.cells #[.int .i64 0, .slice none 0 0] 25)).heap.size = w.heap.size + 1 := by simp
  generalize (w.alloc (.cells #[.int .i64 0, .slice none 0 0] 25)) = w1 at r0_1 rf0_1 r1_1 rf1_1 rl_1 c1 s1 ⊢
  have qr0_1 := cell_regrown r0_1
  have qr1_1 := cell_regrown r1_1
  refine (readHeld_num k s _ hs HK.out (HL.out.below c1)).mono ?_
  rintro e w2 ⟨⟨n, b, rfl, n0, n1, hx⟩, b2⟩
  have HX := hid hx
  clear hx
  have d2 : Below w1.heap.size w1 w2 := (Below.trans (by go_grown) (b2.mono (by first | omega | (simp; done) | (simp; omega))))
  have c2 : Below w.heap.size w w2 := c1.trans (d2.mono c1.size)
  have r0_2 : w2.cell? ⟨w.heap.size, 0, none⟩ = some (.int .i64 0) := (by rw [b2.cell (by first | omega | (simp; done) | (simp; omega))]; go_cell)
  have rf0_2 : w2.frozen? ⟨w.heap.size, 0, none⟩ = false := (by rw [b2.frozen (by first | omega | (simp; done) | (simp; omega))]; (first | go_cell | (simp [World.frozen?, World.alloc]; done) | rfl))
  have r1_2 : w2.cell? ⟨w.heap.size, 1, none⟩ = some (.slice none 0 0) := (by rw [b2.cell (by first | omega | (simp; done) | (simp; omega))]; go_cell)
  have rf1_2 : w2.frozen? ⟨w.heap.size, 1, none⟩ = false := (by rw [b2.frozen (by first | omega | (simp; done) | (simp; omega))]; (first | go_cell | (simp [World.frozen?, World.alloc]; done) | rfl))
  have rl_2 : w.heap.size < w2.heap.size := (by have := b2.size; first | omega | (revert this; simp; done) | (revert this; simp; omega))
  clear r0_1 rf0_1 r1_1 rf1_1 rl_1
  clear b2 d2
  cases b with
  | false =>
    have HN : Hid (ValR k s.data.toList 0 [] false) := hidT (Or.inl ⟨HK.out, rfl, Or.inr ⟨rfl, rfl, fun m h0 h1 he => by cases (HX.out m (by omega) (by omega) he).2⟩⟩)
    go_wp2
    refine bodyPost_ret (v := .tuple #[.agg #[.int .i64 0, .slice none 0 0], .bool false]) (by simp [results, Tryz.results6, go_sem, r0_2, r1_2]) rfl ⟨valO_no HN.out, by go_grown⟩
  | true =>
    go_wp2_with fail
    refine (keyRight_yes k _ hin.1 hin.2).mono ?_
    rintro e w3 ⟨rfl, b3⟩
    have d3 : Below w2.heap.size w2 w3 := (Below.trans (by go_grown) (b3.mono (by first | omega | (simp; done) | (simp; omega))))
    have c3 : Below w.heap.size w w3 := c2.trans (d3.mono c2.size)
    have r0_3 : w3.cell? ⟨w.heap.size, 0, none⟩ = some (.int .i64 0) := (by rw [b3.cell (by first | omega | (simp; done) | (simp; omega))]; go_cell)
    have rf0_3 : w3.frozen? ⟨w.heap.size, 0, none⟩ = false := (by rw [b3.frozen (by first | omega | (simp; done) | (simp; omega))]; (first | go_cell | (simp [World.frozen?, World.alloc]; done) | rfl))
    have r1_3 : w3.cell? ⟨w.heap.size, 1, none⟩ = some (.slice none 0 0) := (by rw [b3.cell (by first | omega | (simp; done) | (simp; omega))]; go_cell)
    have rf1_3 : w3.frozen? ⟨w.heap.size, 1, none⟩ = false := (by rw [b3.frozen (by first | omega | (simp; done) | (simp; omega))]; (first | go_cell | (simp [World.frozen?, World.alloc]; done) | rfl))
    have rl_3 : w.heap.size < w3.heap.size := (by have := b3.size; first | omega | (revert this; simp; done) | (revert this; simp; omega))
    clear r0_2 rf0_2 r1_2 rf1_2 rl_2
    clear b3 d3
    by_cases hn : 0 ≤ n ∧ n ≤ 1000000
    · go_wp2_with fail
      refine (heldRight_yes n _ hn.1 hn.2).mono ?_
      rintro e w4 ⟨rfl, b4⟩
      have d4 : Below w3.heap.size w3 w4 := (Below.trans (by go_grown) (b4.mono (by first | omega | (simp; done) | (simp; omega))))
      have c4 : Below w.heap.size w w4 := c3.trans (d4.mono c3.size)
      have r0_4 : w4.cell? ⟨w.heap.size, 0, none⟩ = some (.int .i64 0) := (by rw [b4.cell (by first | omega | (simp; done) | (simp; omega))]; go_cell)
      have rf0_4 : w4.frozen? ⟨w.heap.size, 0, none⟩ = false := (by rw [b4.frozen (by first | omega | (simp; done) | (simp; omega))]; (first | go_cell | (simp [World.frozen?, World.alloc]; done) | rfl))
      have r1_4 : w4.cell? ⟨w.heap.size, 1, none⟩ = some (.slice none 0 0) := (by rw [b4.cell (by first | omega | (simp; done) | (simp; omega))]; go_cell)
      have rf1_4 : w4.frozen? ⟨w.heap.size, 1, none⟩ = false := (by rw [b4.frozen (by first | omega | (simp; done) | (simp; omega))]; (first | go_cell | (simp [World.frozen?, World.alloc]; done) | rfl))
      have rl_4 : w.heap.size < w4.heap.size := (by have := b4.size; first | omega | (revert this; simp; done) | (revert this; simp; omega))
      clear r0_3 rf0_3 r1_3 rf1_3 rl_3
      clear b4 d4
      go_wp2_with fail
      refine (heldText_num n _ (by omega) (by omega) (HL.out.tab.below c4)).mono ?_
      rintro e w5 ⟨rfl, b5⟩
      have d5 : Below w4.heap.size w4 w5 := (Below.trans (by go_grown) (b5.mono (by first | omega | (simp; done) | (simp; omega))))
      have c5 : Below w.heap.size w w5 := c4.trans (d5.mono c4.size)
      have r0_5 : w5.cell? ⟨w.heap.size, 0, none⟩ = some (.int .i64 0) := (by rw [b5.cell (by first | omega | (simp; done) | (simp; omega))]; go_cell)
      have rf0_5 : w5.frozen? ⟨w.heap.size, 0, none⟩ = false := (by rw [b5.frozen (by first | omega | (simp; done) | (simp; omega))]; (first | go_cell | (simp [World.frozen?, World.alloc]; done) | rfl))
      have r1_5 : w5.cell? ⟨w.heap.size, 1, none⟩ = some (.slice none 0 0) := (by rw [b5.cell (by first | omega | (simp; done) | (simp; omega))]; go_cell)
      have rf1_5 : w5.frozen? ⟨w.heap.size, 1, none⟩ = false := (by rw [b5.frozen (by first | omega | (simp; done) | (simp; omega))]; (first | go_cell | (simp [World.frozen?, World.alloc]; done) | rfl))
      have rl_5 : w.heap.size < w5.heap.size := (by have := b5.size; first | omega | (revert this; simp; done) | (revert this; simp; omega))
      clear r0_4 rf0_4 r1_4 rf1_4 rl_4
      clear b5 d5
      by_cases hE : Lib.itoa n = s.data.toList
      · have HN : Hid (ValR k s.data.toList n [] true) := hidT (Or.inl ⟨HK.out, rfl, Or.inl ⟨rfl, hn.1, hn.2, hE.symm⟩⟩)
        have hEq : ((⟨(Lib.itoa n).toArray⟩ : ByteArray).toList = s.toList) := by rw [toList_same]; exact hE
        have hm := method_num n
        generalize (⟨(Lib.itoa n).toArray⟩ : ByteArray) = q at hEq ⊢
        clear hE
        go_wp2_with fail
        refine (numVal_any n _).mono ?_
        rintro e w6 ⟨rfl, b6⟩
        have d6 : Below w5.heap.size w5 w6 := (Below.trans (by go_grown) (b6.mono (by first | omega | (simp; done) | (simp; omega))))
        have c6 : Below w.heap.size w w6 := c5.trans (d6.mono c5.size)
        have r0_6 : w6.cell? ⟨w.heap.size, 0, none⟩ = some (.int .i64 0) := (by rw [b6.cell (by first | omega | (simp; done) | (simp; omega))]; go_cell)
        have rf0_6 : w6.frozen? ⟨w.heap.size, 0, none⟩ = false := (by rw [b6.frozen (by first | omega | (simp; done) | (simp; omega))]; (first | go_cell | (simp [World.frozen?, World.alloc]; done) | rfl))
        have r1_6 : w6.cell? ⟨w.heap.size, 1, none⟩ = some (.slice none 0 0) := (by rw [b6.cell (by first | omega | (simp; done) | (simp; omega))]; go_cell)
        have rf1_6 : w6.frozen? ⟨w.heap.size, 1, none⟩ = false := (by rw [b6.frozen (by first | omega | (simp; done) | (simp; omega))]; (first | go_cell | (simp [World.frozen?, World.alloc]; done) | rfl))
        have rl_6 : w.heap.size < w6.heap.size := (by have := b6.size; first | omega | (revert this; simp; done) | (revert this; simp; omega))
        clear r0_5 rf0_5 r1_5 rf1_5 rl_5
        clear b6 d6
        go_wp2
        have e0 : ((w6.setCell ⟨w.heap.size, 0, none⟩ (.int .i64 n)).setCell ⟨w.heap.size, 1, none⟩ (.slice none 0 0)).cell? ⟨w.heap.size, 0, none⟩ = some (.int .i64 n) := by go_cell
        have e1 : ((w6.setCell ⟨w.heap.size, 0, none⟩ (.int .i64 n)).setCell ⟨w.heap.size, 1, none⟩ (.slice none 0 0)).cell? ⟨w.heap.size, 1, none⟩ = some (.slice none 0 0) := by go_cell
        refine bodyPost_ret (v := .tuple #[.agg #[.int .i64 n, .slice none 0 0], .bool true]) (by simp [results, Tryz.results6, go_sem, e0, e1]) rfl ⟨⟨n, _, [], true, rfl, World.ownsRow_nil _ _ _ _, HN.out⟩, (c6.setCell (p := ⟨w.heap.size, 0, none⟩) (Nat.le_refl _) _).setCell (p := ⟨w.heap.size, 1, none⟩) (Nat.le_refl _) _⟩
      · have HN : Hid (ValR k s.data.toList 0 [] false) := hidT (Or.inl ⟨HK.out, rfl, Or.inr ⟨rfl, rfl, fun m h0 h1 he => by
          have := (HX.out m (by omega) (by omega) he).1
          subst this
          exact hE he.symm⟩⟩)
        have hEq : (((⟨(Lib.itoa n).toArray⟩ : ByteArray).toList == s.toList)) = false := by rw [beq_eq_false_iff_ne, ne_eq, toList_same]; exact hE
        generalize (⟨(Lib.itoa n).toArray⟩ : ByteArray) = q at hEq ⊢
        clear hE
        go_wp2
        refine bodyPost_ret (v := .tuple #[.agg #[.int .i64 0, .slice none 0 0], .bool false]) (by simp [results, Tryz.results6, go_sem, r0_5, r1_5]) rfl ⟨valO_no HN.out, by go_grown⟩
    · have HN : Hid (ValR k s.data.toList 0 [] false) := hidT (Or.inl ⟨HK.out, rfl, Or.inr ⟨rfl, rfl, fun m h0 h1 he => by
        have := (HX.out m (by omega) (by omega) he).1
        omega⟩⟩)
      go_wp2_with fail
      refine (heldRight_not n _ hn).mono ?_
      rintro e w4 ⟨rfl, b4⟩
      have d4 : Below w3.heap.size w3 w4 := (Below.trans (by go_grown) (b4.mono (by first | omega | (simp; done) | (simp; omega))))
      have c4 : Below w.heap.size w w4 := c3.trans (d4.mono c3.size)
      have r0_4 : w4.cell? ⟨w.heap.size, 0, none⟩ = some (.int .i64 0) := (by rw [b4.cell (by first | omega | (simp; done) | (simp; omega))]; go_cell)
      have rf0_4 : w4.frozen? ⟨w.heap.size, 0, none⟩ = false := (by rw [b4.frozen (by first | omega | (simp; done) | (simp; omega))]; (first | go_cell | (simp [World.frozen?, World.alloc]; done) | rfl))
      have r1_4 : w4.cell? ⟨w.heap.size, 1, none⟩ = some (.slice none 0 0) := (by rw [b4.cell (by first | omega | (simp; done) | (simp; omega))]; go_cell)
      have rf1_4 : w4.frozen? ⟨w.heap.size, 1, none⟩ = false := (by rw [b4.frozen (by first | omega | (simp; done) | (simp; omega))]; (first | go_cell | (simp [World.frozen?, World.alloc]; done) | rfl))
      have rl_4 : w.heap.size < w4.heap.size := (by have := b4.size; first | omega | (revert this; simp; done) | (revert this; simp; omega))
      clear r0_3 rf0_3 r1_3 rf1_3 rl_3
      clear b4 d4
      go_wp2
      refine bodyPost_ret (v := .tuple #[.agg #[.int .i64 0, .slice none 0 0], .bool false]) (by simp [results, Tryz.results6, go_sem, r0_4, r1_4]) rfl ⟨valO_no HN.out, by go_grown⟩

theorem kin_zero {k : Int} (h : 0 < kindOf k) : (kindOf k == 0) = false := by simp; omega
set_option maxRecDepth 100000 in
set_option maxHeartbeats 2000000 in
theorem implVRead_kin (k : Int) (s : ByteArray) (w : World) (hs : s.size ≤ 1048576) (hk : 0 < kindOf k) (hL : Lib4 w) :
    Calls Tryz.prog 6 #[.int .i64 k, .string s] w fun e w' => ValO k s.data.toList w.heap.size w' e ∧ Below w.heap.size w w' := by
  have HL := hid hL
  have HK := hid hk
  have hin := key_in_of (k := k) (by omega)
  clear hL hk
  go_enter Tryz.func6, Tryz.ntmps6
  go_wp2_with fail
  have r0_1 : (w.alloc (.cells #[.int .i64 0, .slice none 0 0] 25)).cell? ⟨w.heap.size, 0, none⟩ = some (.int .i64 0) := by go_cell
  have rf0_1 : (w.alloc (.cells #[.int .i64 0, .slice none 0 0] 25)).frozen? ⟨w.heap.size, 0, none⟩ = false := by (first | go_cell | (simp [World.frozen?, World.alloc]; done) | rfl)
  have r1_1 : (w.alloc (.cells #[.int .i64 0, .slice none 0 0] 25)).cell? ⟨w.heap.size, 1, none⟩ = some (.slice none 0 0) := by go_cell
  have rf1_1 : (w.alloc (.cells #[.int .i64 0, .slice none 0 0] 25)).frozen? ⟨w.heap.size, 1, none⟩ = false := by (first | go_cell | (simp [World.frozen?, World.alloc]; done) | rfl)
  have rl_1 : w.heap.size < (w.alloc (.cells #[.int .i64 0, .slice none 0 0] 25)).heap.size := by first | (simp; done) | (simp; omega)
  have c1 : Below w.heap.size w (w.alloc (.cells #[.int .i64 0, .slice none 0 0] 25)) := by go_grown
  have s1 : (w.alloc (.cells #[.int .i64 0, .slice none 0 0] 25)).heap.size = w.heap.size + 1 := by simp
  generalize (w.alloc (.cells #[.int .i64 0, .slice none 0 0] 25)) = w1 at r0_1 rf0_1 r1_1 rf1_1 rl_1 c1 s1 ⊢
  have qr0_1 := cell_regrown r0_1
  have qr1_1 := cell_regrown r1_1
  refine (readHeld_kin k s _ hs (kin_zero HK.out) (HL.out.below c1)).mono ?_
  rintro e w2 ⟨⟨v, l, b, rfl, ho, hR⟩, b2⟩
  have HO := hid ho
  have HR := hid hR
  clear ho hR
  have d2 : Below w1.heap.size w1 w2 := (Below.trans (by go_grown) (b2.mono (by first | omega | (simp; done) | (simp; omega))))
  have c2 : Below w.heap.size w w2 := c1.trans (d2.mono c1.size)
  have r0_2 : w2.cell? ⟨w.heap.size, 0, none⟩ = some (.int .i64 0) := (by rw [b2.cell (by first | omega | (simp; done) | (simp; omega))]; go_cell)
  have rf0_2 : w2.frozen? ⟨w.heap.size, 0, none⟩ = false := (by rw [b2.frozen (by first | omega | (simp; done) | (simp; omega))]; (first | go_cell | (simp [World.frozen?, World.alloc]; done) | rfl))
  have r1_2 : w2.cell? ⟨w.heap.size, 1, none⟩ = some (.slice none 0 0) := (by rw [b2.cell (by first | omega | (simp; done) | (simp; omega))]; go_cell)
  have rf1_2 : w2.frozen? ⟨w.heap.size, 1, none⟩ = false := (by rw [b2.frozen (by first | omega | (simp; done) | (simp; omega))]; (first | go_cell | (simp [World.frozen?, World.alloc]; done) | rfl))
  have rl_2 : w.heap.size < w2.heap.size := (by have := b2.size; first | omega | (revert this; simp; done) | (revert this; simp; omega))
  clear r0_1 rf0_1 r1_1 rf1_1 rl_1
  clear b2 d2
  obtain ⟨uo, uc, huv, _⟩ := HO.out.rd
  subst huv
  cases b with
  | false =>
    have HN : Hid (ValR k s.data.toList 0 [] false) := hidT (by
      rcases HR.out with ⟨h, _⟩ | ⟨_, _, h⟩
      · cases h
      · exact Or.inr (Or.inl ⟨HK.out, rfl, Or.inr ⟨rfl, rfl, h⟩⟩))
    go_wp2
    refine bodyPost_ret (v := .tuple #[.agg #[.int .i64 0, .slice none 0 0], .bool false]) (by simp [results, Tryz.results6, go_sem, r0_2, r1_2]) rfl ⟨valO_no HN.out, by go_grown⟩
  | true =>
    have HN : Hid (ValR k s.data.toList 0 l true) := hidT (Or.inr (Or.inl ⟨HK.out, rfl, HR.out⟩))
    have HT : Hid (okL l = true ∧ textL l = s.data.toList) := hidT (by
      rcases HR.out with ⟨_, h, h2, _⟩ | ⟨h, _⟩
      · exact ⟨h, h2⟩
      · cases h)
    have HLen := hid (readR_length HR.out)
    go_wp2_with fail
    refine (keyRight_yes k _ hin.1 hin.2).mono ?_
    rintro e w3 ⟨rfl, b3⟩
    have HO3 := hid (HO.out.later b3)
    have d3 : Below w2.heap.size w2 w3 := (Below.trans (by go_grown) (b3.mono (by first | omega | (simp; done) | (simp; omega))))
    have c3 : Below w.heap.size w w3 := c2.trans (d3.mono c2.size)
    have r0_3 : w3.cell? ⟨w.heap.size, 0, none⟩ = some (.int .i64 0) := (by rw [b3.cell (by first | omega | (simp; done) | (simp; omega))]; go_cell)
    have rf0_3 : w3.frozen? ⟨w.heap.size, 0, none⟩ = false := (by rw [b3.frozen (by first | omega | (simp; done) | (simp; omega))]; (first | go_cell | (simp [World.frozen?, World.alloc]; done) | rfl))
    have r1_3 : w3.cell? ⟨w.heap.size, 1, none⟩ = some (.slice none 0 0) := (by rw [b3.cell (by first | omega | (simp; done) | (simp; omega))]; go_cell)
    have rf1_3 : w3.frozen? ⟨w.heap.size, 1, none⟩ = false := (by rw [b3.frozen (by first | omega | (simp; done) | (simp; omega))]; (first | go_cell | (simp [World.frozen?, World.alloc]; done) | rfl))
    have rl_3 : w.heap.size < w3.heap.size := (by have := b3.size; first | omega | (revert this; simp; done) | (revert this; simp; omega))
    clear r0_2 rf0_2 r1_2 rf1_2 rl_2
    clear b3 d3
    go_wp2_with fail
    refine (heldRight_kinIs _ l true _ HO3.out.rd HT.out.1).mono ?_
    rintro e w4 ⟨rfl, b4⟩
    have HO4 := hid (HO3.out.later b4)
    have d4 : Below w3.heap.size w3 w4 := (Below.trans (by go_grown) (b4.mono (by first | omega | (simp; done) | (simp; omega))))
    have c4 : Below w.heap.size w w4 := c3.trans (d4.mono c3.size)
    have r0_4 : w4.cell? ⟨w.heap.size, 0, none⟩ = some (.int .i64 0) := (by rw [b4.cell (by first | omega | (simp; done) | (simp; omega))]; go_cell)
    have rf0_4 : w4.frozen? ⟨w.heap.size, 0, none⟩ = false := (by rw [b4.frozen (by first | omega | (simp; done) | (simp; omega))]; (first | go_cell | (simp [World.frozen?, World.alloc]; done) | rfl))
    have r1_4 : w4.cell? ⟨w.heap.size, 1, none⟩ = some (.slice none 0 0) := (by rw [b4.cell (by first | omega | (simp; done) | (simp; omega))]; go_cell)
    have rf1_4 : w4.frozen? ⟨w.heap.size, 1, none⟩ = false := (by rw [b4.frozen (by first | omega | (simp; done) | (simp; omega))]; (first | go_cell | (simp [World.frozen?, World.alloc]; done) | rfl))
    have rl_4 : w.heap.size < w4.heap.size := (by have := b4.size; first | omega | (revert this; simp; done) | (revert this; simp; omega))
    clear r0_3 rf0_3 r1_3 rf1_3 rl_3
    clear b4 d4
    go_wp2_with fail
    refine (heldText_kin _ l _ HO4.out.rd (Nat.le_trans HLen.out (by decide)) (wf_ok HT.out.1) (HL.out.tab.below c4)).mono ?_
    rintro e w5 ⟨rfl, b5⟩
    have HO5 := hid (HO4.out.later b5)
    have d5 : Below w4.heap.size w4 w5 := (Below.trans (by go_grown) (b5.mono (by first | omega | (simp; done) | (simp; omega))))
    have c5 : Below w.heap.size w w5 := c4.trans (d5.mono c4.size)
    have r0_5 : w5.cell? ⟨w.heap.size, 0, none⟩ = some (.int .i64 0) := (by rw [b5.cell (by first | omega | (simp; done) | (simp; omega))]; go_cell)
    have rf0_5 : w5.frozen? ⟨w.heap.size, 0, none⟩ = false := (by rw [b5.frozen (by first | omega | (simp; done) | (simp; omega))]; (first | go_cell | (simp [World.frozen?, World.alloc]; done) | rfl))
    have r1_5 : w5.cell? ⟨w.heap.size, 1, none⟩ = some (.slice none 0 0) := (by rw [b5.cell (by first | omega | (simp; done) | (simp; omega))]; go_cell)
    have rf1_5 : w5.frozen? ⟨w.heap.size, 1, none⟩ = false := (by rw [b5.frozen (by first | omega | (simp; done) | (simp; omega))]; (first | go_cell | (simp [World.frozen?, World.alloc]; done) | rfl))
    have rl_5 : w.heap.size < w5.heap.size := (by have := b5.size; first | omega | (revert this; simp; done) | (revert this; simp; omega))
    clear r0_4 rf0_4 r1_4 rf1_4 rl_4
    clear b5 d5
    have hEq : ((⟨(textL l).toArray⟩ : ByteArray).toList = s.toList) := by rw [toList_same]; exact HT.out.2
    have hm := method_kin (.slice uo l.length uc)
    generalize (⟨(textL l).toArray⟩ : ByteArray) = q at hEq ⊢
    go_wp2_with fail
    refine (kinVal_any uo l.length uc _).mono ?_
    rintro e w6 ⟨rfl, b6⟩
    have HO6 := hid (HO5.out.later b6)
    have d6 : Below w5.heap.size w5 w6 := (Below.trans (by go_grown) (b6.mono (by first | omega | (simp; done) | (simp; omega))))
    have c6 : Below w.heap.size w w6 := c5.trans (d6.mono c5.size)
    have r0_6 : w6.cell? ⟨w.heap.size, 0, none⟩ = some (.int .i64 0) := (by rw [b6.cell (by first | omega | (simp; done) | (simp; omega))]; go_cell)
    have rf0_6 : w6.frozen? ⟨w.heap.size, 0, none⟩ = false := (by rw [b6.frozen (by first | omega | (simp; done) | (simp; omega))]; (first | go_cell | (simp [World.frozen?, World.alloc]; done) | rfl))
    have r1_6 : w6.cell? ⟨w.heap.size, 1, none⟩ = some (.slice none 0 0) := (by rw [b6.cell (by first | omega | (simp; done) | (simp; omega))]; go_cell)
    have rf1_6 : w6.frozen? ⟨w.heap.size, 1, none⟩ = false := (by rw [b6.frozen (by first | omega | (simp; done) | (simp; omega))]; (first | go_cell | (simp [World.frozen?, World.alloc]; done) | rfl))
    have rl_6 : w.heap.size < w6.heap.size := (by have := b6.size; first | omega | (revert this; simp; done) | (revert this; simp; omega))
    clear r0_5 rf0_5 r1_5 rf1_5 rl_5
    clear b6 d6
    go_wp2
    have e0 : ((w6.setCell ⟨w.heap.size, 0, none⟩ (.int .i64 0)).setCell ⟨w.heap.size, 1, none⟩ (.slice uo l.length uc)).cell? ⟨w.heap.size, 0, none⟩ = some (.int .i64 0) := by go_cell
    have e1 : ((w6.setCell ⟨w.heap.size, 0, none⟩ (.int .i64 0)).setCell ⟨w.heap.size, 1, none⟩ (.slice uo l.length uc)).cell? ⟨w.heap.size, 1, none⟩ = some (.slice uo l.length uc) := by go_cell
    have HF := hid (((HO6.out.set_apart (p := ⟨w.heap.size, 0, none⟩) (by show w.heap.size < w1.heap.size; omega) (.int .i64 0)).set_apart (p := ⟨w.heap.size, 1, none⟩) (by show w.heap.size < w1.heap.size; omega) (.slice uo l.length uc)).mono (B' := w.heap.size) (by omega))
    refine bodyPost_ret (v := .tuple #[.agg #[.int .i64 0, .slice uo l.length uc], .bool true]) (by simp [results, Tryz.results6, go_sem, e0, e1]) rfl ⟨⟨0, _, l, true, rfl, HF.out, HN.out⟩, (c6.setCell (p := ⟨w.heap.size, 0, none⟩) (Nat.le_refl _) _).setCell (p := ⟨w.heap.size, 1, none⟩) (Nat.le_refl _) _⟩

set_option maxRecDepth 100000 in
set_option maxHeartbeats 2000000 in
theorem implVRead_none (k : Int) (s : ByteArray) (w : World) (hs : s.size ≤ 1048576) (hk : kindOf k = -1) (hL : Lib4 w) :
    Calls Tryz.prog 6 #[.int .i64 k, .string s] w fun e w' => ValO k s.data.toList w.heap.size w' e ∧ Below w.heap.size w w' := by
  have HL := hid hL
  have HK := hid hk
  have HIN : Hid (¬ (0 ≤ k ∧ k < 24)) := hidT (fun h => by rw [kindOf_in h.1 h.2] at hk; omega)
  have HN : Hid (ValR k s.data.toList 0 [] false) := hidT (Or.inr (Or.inr ⟨by omega, rfl, rfl, rfl⟩))
  clear hL hk
  go_enter Tryz.func6, Tryz.ntmps6
  go_wp2_with fail
  have r0_1 : (w.alloc (.cells #[.int .i64 0, .slice none 0 0] 25)).cell? ⟨w.heap.size, 0, none⟩ = some (.int .i64 0) := by go_cell
  have rf0_1 : (w.alloc (.cells #[.int .i64 0, .slice none 0 0] 25)).frozen? ⟨w.heap.size, 0, none⟩ = false := by (first | go_cell | (simp [World.frozen?, World.alloc]; done) | rfl)
  have r1_1 : (w.alloc (.cells #[.int .i64 0, .slice none 0 0] 25)).cell? ⟨w.heap.size, 1, none⟩ = some (.slice none 0 0) := by go_cell
  have rf1_1 : (w.alloc (.cells #[.int .i64 0, .slice none 0 0] 25)).frozen? ⟨w.heap.size, 1, none⟩ = false := by (first | go_cell | (simp [World.frozen?, World.alloc]; done) | rfl)
  have rl_1 : w.heap.size < (w.alloc (.cells #[.int .i64 0, .slice none 0 0] 25)).heap.size := by first | (simp; done) | (simp; omega)
  have c1 : Below w.heap.size w (w.alloc (.cells #[.int .i64 0, .slice none 0 0] 25)) := by go_grown
  have s1 : (w.alloc (.cells #[.int .i64 0, .slice none 0 0] 25)).heap.size = w.heap.size + 1 := by simp
  generalize (w.alloc (.cells #[.int .i64 0, .slice none 0 0] 25)) = w1 at r0_1 rf0_1 r1_1 rf1_1 rl_1 c1 s1 ⊢
  have qr0_1 := cell_regrown r0_1
  have qr1_1 := cell_regrown r1_1
  refine (readHeld_kin k s _ hs (by rw [HK.out]; decide) (HL.out.below c1)).mono ?_
  rintro e w2 ⟨⟨v, l, b, rfl, ho, hR⟩, b2⟩
  clear ho hR
  have d2 : Below w1.heap.size w1 w2 := (Below.trans (by go_grown) (b2.mono (by first | omega | (simp; done) | (simp; omega))))
  have c2 : Below w.heap.size w w2 := c1.trans (d2.mono c1.size)
  have r0_2 : w2.cell? ⟨w.heap.size, 0, none⟩ = some (.int .i64 0) := (by rw [b2.cell (by first | omega | (simp; done) | (simp; omega))]; go_cell)
  have rf0_2 : w2.frozen? ⟨w.heap.size, 0, none⟩ = false := (by rw [b2.frozen (by first | omega | (simp; done) | (simp; omega))]; (first | go_cell | (simp [World.frozen?, World.alloc]; done) | rfl))
  have r1_2 : w2.cell? ⟨w.heap.size, 1, none⟩ = some (.slice none 0 0) := (by rw [b2.cell (by first | omega | (simp; done) | (simp; omega))]; go_cell)
  have rf1_2 : w2.frozen? ⟨w.heap.size, 1, none⟩ = false := (by rw [b2.frozen (by first | omega | (simp; done) | (simp; omega))]; (first | go_cell | (simp [World.frozen?, World.alloc]; done) | rfl))
  have rl_2 : w.heap.size < w2.heap.size := (by have := b2.size; first | omega | (revert this; simp; done) | (revert this; simp; omega))
  clear r0_1 rf0_1 r1_1 rf1_1 rl_1
  clear b2 d2
  cases b with
  | false =>
    go_wp2
    refine bodyPost_ret (v := .tuple #[.agg #[.int .i64 0, .slice none 0 0], .bool false]) (by simp [results, Tryz.results6, go_sem, r0_2, r1_2]) rfl ⟨valO_no HN.out, by go_grown⟩
  | true =>
    go_wp2_with fail
    refine (keyRight_no k _ HIN.out).mono ?_
    rintro e w3 ⟨rfl, b3⟩
    have d3 : Below w2.heap.size w2 w3 := (Below.trans (by go_grown) (b3.mono (by first | omega | (simp; done) | (simp; omega))))
    have c3 : Below w.heap.size w w3 := c2.trans (d3.mono c2.size)
    have r0_3 : w3.cell? ⟨w.heap.size, 0, none⟩ = some (.int .i64 0) := (by rw [b3.cell (by first | omega | (simp; done) | (simp; omega))]; go_cell)
    have rf0_3 : w3.frozen? ⟨w.heap.size, 0, none⟩ = false := (by rw [b3.frozen (by first | omega | (simp; done) | (simp; omega))]; (first | go_cell | (simp [World.frozen?, World.alloc]; done) | rfl))
    have r1_3 : w3.cell? ⟨w.heap.size, 1, none⟩ = some (.slice none 0 0) := (by rw [b3.cell (by first | omega | (simp; done) | (simp; omega))]; go_cell)
    have rf1_3 : w3.frozen? ⟨w.heap.size, 1, none⟩ = false := (by rw [b3.frozen (by first | omega | (simp; done) | (simp; omega))]; (first | go_cell | (simp [World.frozen?, World.alloc]; done) | rfl))
    have rl_3 : w.heap.size < w3.heap.size := (by have := b3.size; first | omega | (revert this; simp; done) | (revert this; simp; omega))
    clear r0_2 rf0_2 r1_2 rf1_2 rl_2
    clear b3 d3
    go_wp2
    refine bodyPost_ret (v := .tuple #[.agg #[.int .i64 0, .slice none 0 0], .bool false]) (by simp [results, Tryz.results6, go_sem, r0_3, r1_3]) rfl ⟨valO_no HN.out, by go_grown⟩

theorem implVRead_any (k : Int) (s : ByteArray) (w : World) (hs : s.size ≤ 1048576) (hL : Lib4 w) :
    Calls Tryz.prog 6 #[.int .i64 k, .string s] w fun e w' => ValO k s.data.toList w.heap.size w' e ∧ Below w.heap.size w w' := by
  rcases kind_ways k with h | h | h | h
  · exact implVRead_thing k s w hs h hL
  · exact implVRead_kin k s w hs (by omega) hL
  · exact implVRead_kin k s w hs (by omega) hL
  · exact implVRead_none k s w hs h hL
end Go.Proofs.YtiplklcabcpccaaGreatDoor
