/- impl.GraphDo: contract. -/
import Derived.Test.YtpdfhffmhlgcmaaAy
import Derived.Test.YtpdfhffmhlgcmaaOz
import Derived.Test.YtpdfhffmhlgcmaaPb
namespace Go.Proofs.Ytpdfhffmhlgcmaa
open Go.RowKit
attribute [local go_sem ↓] Go.wp_at_zero Go.wp_at_succ
attribute [local go_sem ↓] ldS_open stS_open ixS_open zeroR

/-- A graph behind a write. -/
def doG (L : List ValD) (k a b n : Int) : List ValD :=
  if setOk k a b n then L.set a.toNat (n, [])
  else if bindOk k a b n then (L.set (16 + a.toNat) (0, addL (L.getD (16 + a.toNat) valD0).2 b n)).set (8 + b.toNat) (0, addL (L.getD (8 + b.toNat) valD0).2 a n)
  else if partOk k a b n then (L.set (16 + a.toNat) (0, dropL (L.getD (16 + a.toNat) valD0).2 b)).set (8 + b.toNat) (0, dropL (L.getD (8 + b.toNat) valD0).2 a)
  else L
theorem doG_length (L : List ValD) (k a b n : Int) : (doG L k a b n).length = L.length := by
  unfold doG
  split
  · simp
  · split
    · simp
    · split
      · simp
      · rfl
theorem okG_true {L : List ValD} (h : okG L = true) : L.length = 24 ∧ RightTo L 24 ∧ EndsTo L 16 8 8 ∧ EndsTo L 8 16 8 := by
  unfold okG at h
  rw [Bool.and_eq_true, Bool.and_eq_true, Bool.and_eq_true] at h
  exact ⟨of_decide_eq_true h.1.1, rightG_iff.1 h.1.2, endsG_iff.1 h.2.1, endsG_iff.1 h.2.2⟩
theorem BackN.mono {w : World} {B B' g : Nat} {M : List ValD} {ds : Array Value} (h : BackN w B g M ds) (hB : B' ≤ B) : BackN w B' g M ds :=
  ⟨h.row, h.size, h.len, h.num, fun k hk => by obtain ⟨u, h1, h2, h3⟩ := h.kin k hk; exact ⟨u, h1, h2.mono hB, h3⟩, h.dis⟩
theorem BackN.other {w : World} {B g : Nat} {M : List ValD} {ds : Array Value} (h : BackN w B g M ds) {p : Addr} (hp : p.block < B) (hg : p.block ≠ g) (x : Value) : BackN (w.setCell p x) B g M ds :=
  ⟨(heap_setCell_other w p g x (fun e => hg e.symm)).trans h.row, h.size, h.len, h.num, fun k hk => by obtain ⟨u, h1, h2, h3⟩ := h.kin k hk; exact ⟨u, h1, h2.setApart hp x, h3⟩, h.dis⟩
theorem implGOk_is {L : List ValD} {c : Bool} (h : okG L = c) (va : Value) (w : World) (hr : RdG w va L) :
    Calls Try.prog 6 #[.agg #[va]] w fun e w' => e = .returned (.bool c) ∧ Below w.heap.size w w' := h ▸ implGOk_any va L w hr

set_option maxRecDepth 100000 in
set_option maxHeartbeats 1000000 in
theorem implGDo_not (va : Value) (L : List ValD) (k a b n : Int) (w : World) (h : RdG w va L) (hok : okG L = false) :
    Calls Try.prog 9 #[.agg #[va], .agg #[.int .i64 k, .int .i64 a, .int .i64 b, .int .i64 n]] w fun e w' => e = .returned (.tuple #[.agg #[.slice none 0 0], .bool false]) ∧ Below w.heap.size w w' := by
  have HR := hid h
  obtain ⟨ao, cap, hv, -⟩ := h
  subst hv
  go_enter Try.func9, Try.ntmps9
  go_wp2_with fail
  have x0_1 : (((w.alloc (.cells #[.slice ao L.length cap] 28)).alloc (.cells #[.int .i64 k, .int .i64 a, .int .i64 b, .int .i64 n] 24)).alloc (.cells #[.slice none 0 0] 28)).cell? ⟨w.heap.size, 0, none⟩ = some (.slice ao L.length cap) := by go_cell
  have xl_1 : w.heap.size < (((w.alloc (.cells #[.slice ao L.length cap] 28)).alloc (.cells #[.int .i64 k, .int .i64 a, .int .i64 b, .int .i64 n] 24)).alloc (.cells #[.slice none 0 0] 28)).heap.size := by first | (simp; done) | (simp; omega)
  have o0_1 : (((w.alloc (.cells #[.slice ao L.length cap] 28)).alloc (.cells #[.int .i64 k, .int .i64 a, .int .i64 b, .int .i64 n] 24)).alloc (.cells #[.slice none 0 0] 28)).cell? ⟨w.heap.size + 1, 0, none⟩ = some (.int .i64 k) := by go_cell
  have o1_1 : (((w.alloc (.cells #[.slice ao L.length cap] 28)).alloc (.cells #[.int .i64 k, .int .i64 a, .int .i64 b, .int .i64 n] 24)).alloc (.cells #[.slice none 0 0] 28)).cell? ⟨w.heap.size + 1, 1, none⟩ = some (.int .i64 a) := by go_cell
  have o2_1 : (((w.alloc (.cells #[.slice ao L.length cap] 28)).alloc (.cells #[.int .i64 k, .int .i64 a, .int .i64 b, .int .i64 n] 24)).alloc (.cells #[.slice none 0 0] 28)).cell? ⟨w.heap.size + 1, 2, none⟩ = some (.int .i64 b) := by go_cell
  have o3_1 : (((w.alloc (.cells #[.slice ao L.length cap] 28)).alloc (.cells #[.int .i64 k, .int .i64 a, .int .i64 b, .int .i64 n] 24)).alloc (.cells #[.slice none 0 0] 28)).cell? ⟨w.heap.size + 1, 3, none⟩ = some (.int .i64 n) := by go_cell
  have ol_1 : w.heap.size + 1 < (((w.alloc (.cells #[.slice ao L.length cap] 28)).alloc (.cells #[.int .i64 k, .int .i64 a, .int .i64 b, .int .i64 n] 24)).alloc (.cells #[.slice none 0 0] 28)).heap.size := by first | (simp; done) | (simp; omega)
  have r0_1 : (((w.alloc (.cells #[.slice ao L.length cap] 28)).alloc (.cells #[.int .i64 k, .int .i64 a, .int .i64 b, .int .i64 n] 24)).alloc (.cells #[.slice none 0 0] 28)).cell? ⟨w.heap.size + 1 + 1, 0, none⟩ = some (.slice none 0 0) := by go_cell
  have rf0_1 : (((w.alloc (.cells #[.slice ao L.length cap] 28)).alloc (.cells #[.int .i64 k, .int .i64 a, .int .i64 b, .int .i64 n] 24)).alloc (.cells #[.slice none 0 0] 28)).frozen? ⟨w.heap.size + 1 + 1, 0, none⟩ = false := by (first | go_cell | (simp [World.frozen?, World.alloc]; done) | rfl)
  have rl_1 : w.heap.size + 1 + 1 < (((w.alloc (.cells #[.slice ao L.length cap] 28)).alloc (.cells #[.int .i64 k, .int .i64 a, .int .i64 b, .int .i64 n] 24)).alloc (.cells #[.slice none 0 0] 28)).heap.size := by first | (simp; done) | (simp; omega)
  have c1 : Below w.heap.size w (((w.alloc (.cells #[.slice ao L.length cap] 28)).alloc (.cells #[.int .i64 k, .int .i64 a, .int .i64 b, .int .i64 n] 24)).alloc (.cells #[.slice none 0 0] 28)) := by go_grown
  have s1 : (((w.alloc (.cells #[.slice ao L.length cap] 28)).alloc (.cells #[.int .i64 k, .int .i64 a, .int .i64 b, .int .i64 n] 24)).alloc (.cells #[.slice none 0 0] 28)).heap.size = w.heap.size + 3 := by simp
  generalize (((w.alloc (.cells #[.slice ao L.length cap] 28)).alloc (.cells #[.int .i64 k, .int .i64 a, .int .i64 b, .int .i64 n] 24)).alloc (.cells #[.slice none 0 0] 28)) = w1 at x0_1 xl_1 o0_1 o1_1 o2_1 o3_1 ol_1 r0_1 rf0_1 rl_1 c1 s1 ⊢
  have qx0_1 := cell_regrown x0_1
  have qo0_1 := cell_regrown o0_1
  have qo1_1 := cell_regrown o1_1
  have qo2_1 := cell_regrown o2_1
  have qo3_1 := cell_regrown o3_1
  have qr0_1 := cell_regrown r0_1
  refine (implGOk_is hok _ _ (HR.out.later c1)).mono ?_
  rintro e w2 ⟨rfl, b2⟩
  have d2 : Below w1.heap.size w1 w2 := (Below.trans (by go_grown) (b2.mono (by first | omega | (simp; done) | (simp; omega))))
  have c2 : Below w.heap.size w w2 := c1.trans (d2.mono c1.size)
  have r0_2 : w2.cell? ⟨w.heap.size + 1 + 1, 0, none⟩ = some (.slice none 0 0) := (by rw [b2.cell (by first | omega | (simp; done) | (simp; omega))]; go_cell)
  have rf0_2 : w2.frozen? ⟨w.heap.size + 1 + 1, 0, none⟩ = false := (by rw [b2.frozen (by first | omega | (simp; done) | (simp; omega))]; (first | go_cell | (simp [World.frozen?, World.alloc]; done) | rfl))
  have rl_2 : w.heap.size + 1 + 1 < w2.heap.size := (by have := b2.size; first | omega | (revert this; simp; done) | (revert this; simp; omega))
  clear r0_1 rf0_1 rl_1
  clear b2 d2
  go_wp2
  have e0 : (w2.setCell ⟨w.heap.size + 1 + 1, 0, none⟩ (.slice none 0 0)).cell? ⟨w.heap.size + 1 + 1, 0, none⟩ = some (.slice none 0 0) := by go_cell
  refine bodyPost_ret (v := .tuple #[.agg #[.slice none 0 0], .bool false]) (by simp [results, Try.results9, go_sem, e0]) rfl ⟨rfl, c2.setCell (p := ⟨w.heap.size + 1 + 1, 0, none⟩) (by show w.heap.size ≤ w.heap.size + 1 + 1; omega) _⟩

set_option maxRecDepth 100000 in
set_option maxHeartbeats 4000000 in
theorem implGDo_set (va : Value) (L : List ValD) (k a b n : Int) (w : World) (h : RdG w va L) (hok : okG L = true) (hs : setOk k a b n) :
    Calls Try.prog 9 #[.agg #[va], .agg #[.int .i64 k, .int .i64 a, .int .i64 b, .int .i64 n]] w fun e w' => (∃ g ds, e = .returned (.tuple #[.agg #[.slice (some ⟨g, 0, none⟩) 24 24], .bool true]) ∧ BackN w' w.heap.size g (L.set a.toNat (n, [])) ds ∧ w.heap.size ≤ g) ∧ Below w.heap.size w w' := by
  have hmf : ∀ (fn : Fn) (first cap : Array Value) (w : World), (Instr.makeFunc fn first cap).run Try.prog w = .ok (.func fn first cap) w := fun _ _ _ _ => rfl
  have HW := fun w => writeOf_set hs w
  have hm1 := method_setKey k a b n
  have hm2 := method_setOther k a b n
  have hm3 := method_setRight k a b n
  have ha := hs.2.1
  have hsr := hid (setR_of hs)
  clear hs
  have hlen := hid (okG_true hok).1
  have hRT := hid (okG_true hok).2.1
  have HG := fun (v : Value) (W : World) (hr : RdG W v L) => implGOk_is (c := true) hok v W hr
  clear hok
  have HR := hid h
  obtain ⟨ao, cap, hv, -⟩ := h
  subst hv
  go_enter Try.func9, Try.ntmps9
  go_wp2_with fail
  have x0_1 : (((w.alloc (.cells #[.slice ao L.length cap] 28)).alloc (.cells #[.int .i64 k, .int .i64 a, .int .i64 b, .int .i64 n] 24)).alloc (.cells #[.slice none 0 0] 28)).cell? ⟨w.heap.size, 0, none⟩ = some (.slice ao L.length cap) := by go_cell
  have xl_1 : w.heap.size < (((w.alloc (.cells #[.slice ao L.length cap] 28)).alloc (.cells #[.int .i64 k, .int .i64 a, .int .i64 b, .int .i64 n] 24)).alloc (.cells #[.slice none 0 0] 28)).heap.size := by first | (simp; done) | (simp; omega)
  have o0_1 : (((w.alloc (.cells #[.slice ao L.length cap] 28)).alloc (.cells #[.int .i64 k, .int .i64 a, .int .i64 b, .int .i64 n] 24)).alloc (.cells #[.slice none 0 0] 28)).cell? ⟨w.heap.size + 1, 0, none⟩ = some (.int .i64 k) := by go_cell
  have o1_1 : (((w.alloc (.cells #[.slice ao L.length cap] 28)).alloc (.cells #[.int .i64 k, .int .i64 a, .int .i64 b, .int .i64 n] 24)).alloc (.cells #[.slice none 0 0] 28)).cell? ⟨w.heap.size + 1, 1, none⟩ = some (.int .i64 a) := by go_cell
  have o2_1 : (((w.alloc (.cells #[.slice ao L.length cap] 28)).alloc (.cells #[.int .i64 k, .int .i64 a, .int .i64 b, .int .i64 n] 24)).alloc (.cells #[.slice none 0 0] 28)).cell? ⟨w.heap.size + 1, 2, none⟩ = some (.int .i64 b) := by go_cell
  have o3_1 : (((w.alloc (.cells #[.slice ao L.length cap] 28)).alloc (.cells #[.int .i64 k, .int .i64 a, .int .i64 b, .int .i64 n] 24)).alloc (.cells #[.slice none 0 0] 28)).cell? ⟨w.heap.size + 1, 3, none⟩ = some (.int .i64 n) := by go_cell
  have ol_1 : w.heap.size + 1 < (((w.alloc (.cells #[.slice ao L.length cap] 28)).alloc (.cells #[.int .i64 k, .int .i64 a, .int .i64 b, .int .i64 n] 24)).alloc (.cells #[.slice none 0 0] 28)).heap.size := by first | (simp; done) | (simp; omega)
  have r0_1 : (((w.alloc (.cells #[.slice ao L.length cap] 28)).alloc (.cells #[.int .i64 k, .int .i64 a, .int .i64 b, .int .i64 n] 24)).alloc (.cells #[.slice none 0 0] 28)).cell? ⟨w.heap.size + 1 + 1, 0, none⟩ = some (.slice none 0 0) := by go_cell
  have rf0_1 : (((w.alloc (.cells #[.slice ao L.length cap] 28)).alloc (.cells #[.int .i64 k, .int .i64 a, .int .i64 b, .int .i64 n] 24)).alloc (.cells #[.slice none 0 0] 28)).frozen? ⟨w.heap.size + 1 + 1, 0, none⟩ = false := by (first | go_cell | (simp [World.frozen?, World.alloc]; done) | rfl)
  have rl_1 : w.heap.size + 1 + 1 < (((w.alloc (.cells #[.slice ao L.length cap] 28)).alloc (.cells #[.int .i64 k, .int .i64 a, .int .i64 b, .int .i64 n] 24)).alloc (.cells #[.slice none 0 0] 28)).heap.size := by first | (simp; done) | (simp; omega)
  have c1 : Below w.heap.size w (((w.alloc (.cells #[.slice ao L.length cap] 28)).alloc (.cells #[.int .i64 k, .int .i64 a, .int .i64 b, .int .i64 n] 24)).alloc (.cells #[.slice none 0 0] 28)) := by go_grown
  have s1 : (((w.alloc (.cells #[.slice ao L.length cap] 28)).alloc (.cells #[.int .i64 k, .int .i64 a, .int .i64 b, .int .i64 n] 24)).alloc (.cells #[.slice none 0 0] 28)).heap.size = w.heap.size + 3 := by simp
  generalize (((w.alloc (.cells #[.slice ao L.length cap] 28)).alloc (.cells #[.int .i64 k, .int .i64 a, .int .i64 b, .int .i64 n] 24)).alloc (.cells #[.slice none 0 0] 28)) = w1 at x0_1 xl_1 o0_1 o1_1 o2_1 o3_1 ol_1 r0_1 rf0_1 rl_1 c1 s1 ⊢
  have qx0_1 := cell_regrown x0_1
  have qo0_1 := cell_regrown o0_1
  have qo1_1 := cell_regrown o1_1
  have qo2_1 := cell_regrown o2_1
  have qo3_1 := cell_regrown o3_1
  have qr0_1 := cell_regrown r0_1
  refine (HG _ _ (HR.out.later c1)).mono ?_
  rintro e w2 ⟨rfl, b2⟩
  have d2 : Below w1.heap.size w1 w2 := (Below.trans (by go_grown) (b2.mono (by first | omega | (simp; done) | (simp; omega))))
  have c2 : Below w.heap.size w w2 := c1.trans (d2.mono c1.size)
  have x0_2 : w2.cell? ⟨w.heap.size, 0, none⟩ = some (.slice ao L.length cap) := (by rw [b2.cell (by first | omega | (simp; done) | (simp; omega))]; go_cell)
  have xl_2 : w.heap.size < w2.heap.size := (by have := b2.size; first | omega | (revert this; simp; done) | (revert this; simp; omega))
  have o0_2 : w2.cell? ⟨w.heap.size + 1, 0, none⟩ = some (.int .i64 k) := (by rw [b2.cell (by first | omega | (simp; done) | (simp; omega))]; go_cell)
  have o1_2 : w2.cell? ⟨w.heap.size + 1, 1, none⟩ = some (.int .i64 a) := (by rw [b2.cell (by first | omega | (simp; done) | (simp; omega))]; go_cell)
  have o2_2 : w2.cell? ⟨w.heap.size + 1, 2, none⟩ = some (.int .i64 b) := (by rw [b2.cell (by first | omega | (simp; done) | (simp; omega))]; go_cell)
  have o3_2 : w2.cell? ⟨w.heap.size + 1, 3, none⟩ = some (.int .i64 n) := (by rw [b2.cell (by first | omega | (simp; done) | (simp; omega))]; go_cell)
  have ol_2 : w.heap.size + 1 < w2.heap.size := (by have := b2.size; first | omega | (revert this; simp; done) | (revert this; simp; omega))
  have r0_2 : w2.cell? ⟨w.heap.size + 1 + 1, 0, none⟩ = some (.slice none 0 0) := (by rw [b2.cell (by first | omega | (simp; done) | (simp; omega))]; go_cell)
  have rf0_2 : w2.frozen? ⟨w.heap.size + 1 + 1, 0, none⟩ = false := (by rw [b2.frozen (by first | omega | (simp; done) | (simp; omega))]; (first | go_cell | (simp [World.frozen?, World.alloc]; done) | rfl))
  have rl_2 : w.heap.size + 1 + 1 < w2.heap.size := (by have := b2.size; first | omega | (revert this; simp; done) | (revert this; simp; omega))
  clear x0_1 xl_1 o0_1 o1_1 o2_1 o3_1 ol_1 r0_1 rf0_1 rl_1
  clear b2 d2
  go_wp2_with fail
  refine (HW _).mono ?_
  rintro e w3 ⟨rfl, b3⟩
  have d3 : Below w2.heap.size w2 w3 := (Below.trans (by go_grown) (b3.mono (by first | omega | (simp; done) | (simp; omega))))
  have c3 : Below w.heap.size w w3 := c2.trans (d3.mono c2.size)
  have x0_3 : w3.cell? ⟨w.heap.size, 0, none⟩ = some (.slice ao L.length cap) := (by rw [b3.cell (by first | omega | (simp; done) | (simp; omega))]; go_cell)
  have xl_3 : w.heap.size < w3.heap.size := (by have := b3.size; first | omega | (revert this; simp; done) | (revert this; simp; omega))
  have r0_3 : w3.cell? ⟨w.heap.size + 1 + 1, 0, none⟩ = some (.slice none 0 0) := (by rw [b3.cell (by first | omega | (simp; done) | (simp; omega))]; go_cell)
  have rf0_3 : w3.frozen? ⟨w.heap.size + 1 + 1, 0, none⟩ = false := (by rw [b3.frozen (by first | omega | (simp; done) | (simp; omega))]; (first | go_cell | (simp [World.frozen?, World.alloc]; done) | rfl))
  have rl_3 : w.heap.size + 1 + 1 < w3.heap.size := (by have := b3.size; first | omega | (revert this; simp; done) | (revert this; simp; omega))
  clear x0_2 xl_2 r0_2 rf0_2 rl_2
  clear b3 d3
  go_wp2_with fail
  have hrB := rl_3
  refine (rowsApart_any _ L _ (HR.out.later c3) hlen.out (fun k hk => by have := okL_le (hRT.out.ok hk); omega)).mono ?_
  rintro e w4 ⟨ds, rfl, hO, b4⟩
  have d4 : Below w3.heap.size w3 w4 := (Below.trans (by go_grown) (b4.mono (by first | omega | (simp; done) | (simp; omega))))
  have c4 : Below w.heap.size w w4 := c3.trans (d4.mono c3.size)
  have r0_4 : w4.cell? ⟨w.heap.size + 1 + 1, 0, none⟩ = some (.slice none 0 0) := (by rw [b4.cell (by first | omega | (simp; done) | (simp; omega))]; go_cell)
  have rf0_4 : w4.frozen? ⟨w.heap.size + 1 + 1, 0, none⟩ = false := (by rw [b4.frozen (by first | omega | (simp; done) | (simp; omega))]; (first | go_cell | (simp [World.frozen?, World.alloc]; done) | rfl))
  have rl_4 : w.heap.size + 1 + 1 < w4.heap.size := (by have := b4.size; first | omega | (revert this; simp; done) | (revert this; simp; omega))
  clear r0_3 rf0_3 rl_3
  have hO4 := hid hO
  have hBg : w3.heap.size ≤ w4.heap.size := b4.size
  have hB0 : w.heap.size ≤ w3.heap.size := c3.size
  clear b4 d4 hO
  have hs := stS_row (w := w4.alloc (.cells zeroV 43)) (g := w4.heap.size) (cs := ds) (heap_alloc_new w4 _) (by simp [zeroV]) hO4.out.size hO4.out.one
  have hB5 := hid (BackN.start hO4.out)
  have d5 := below_setRow (B := w4.heap.size) ((Below.refl _ w4).alloc (Nat.le_refl _) (.cells zeroV 43)) (g := w4.heap.size) (Nat.le_refl _) ds
  go_upto_region 5 with fail
  clear hs
  generalize ((w4.alloc (.cells zeroV 43)).setRow w4.heap.size ds) = w5 at *
  have hrg : w.heap.size + 1 + 1 < w4.heap.size := rl_4
  have r0_5 := (d5.cell (p := ⟨w.heap.size + 1 + 1, 0, none⟩) hrg).trans r0_4
  have rf0_5 := (d5.frozen (p := ⟨w.heap.size + 1 + 1, 0, none⟩) hrg).trans rf0_4
  have c5 : Below w.heap.size w w5 := c4.trans (d5.mono c4.size)
  have rl_5 : w.heap.size + 1 + 1 < w5.heap.size := by have := d5.size; omega
  have hg0 : w.heap.size ≤ w4.heap.size := c4.size
  clear r0_4 rf0_4 rl_4 d5 hO4 c4 c3
  generalize w4.heap.size = g at *
  generalize w3.heap.size = B at *
  have hJ : a.toNat < 24 := by omega
  have hJe : ((a.toNat : Nat) : Int) = a := by omega
  have CH := fun W ds hB hBw => change_setDo k a b n B g a.toNat L ds W hB hJ hBw (L.getD a.toNat valD0) rfl (by have := okL_le (hRT.out.ok hJ); omega)
  rw [hJe] at CH
  have hk0 := setKey_any k a b n
  rw [keyOf_in (by omega) (by omega) ha.1 ha.2, show (0 : Int) * 8 + a = a from by omega] at hk0
  have hr0 := setRight_any k a b n
  rw [hsr.out] at hr0
  go_region_with (first
    | (go_at_call 82; refine (hk0 _).mono ?_; rintro e w6 ⟨rfl, b6⟩; have d6 : Below w5.heap.size w5 w6 := (Below.trans (by go_grown) (b6.mono (by first | omega | (simp; done) | (simp; omega)))); have c6 : Below w.heap.size w w6 := c5.trans (d6.mono c5.size); have r0_6 : w6.cell? ⟨w.heap.size + 1 + 1, 0, none⟩ = some (.slice none 0 0) := (by rw [b6.cell (by first | omega | (simp; done) | (simp; omega))]; go_cell); have rf0_6 : w6.frozen? ⟨w.heap.size + 1 + 1, 0, none⟩ = false := (by rw [b6.frozen (by first | omega | (simp; done) | (simp; omega))]; (first | go_cell | (simp [World.frozen?, World.alloc]; done) | rfl)); have rl_6 : w.heap.size + 1 + 1 < w6.heap.size := (by have := b6.size; first | omega | (revert this; simp; done) | (revert this; simp; omega)); clear r0_5 rf0_5 rl_5; have hB6 := hid (hB5.out.later d6))
    | (go_at_call 21; refine (CH _ _ hB6.out (by have := hB6.out.lt; omega)).mono ?_; rintro e w7 ⟨rfl, ⟨ds7, hB7⟩, b7⟩))
  all_goals
    have HB7 := hid hB7
    have r0_7 := (b7.cell (p := ⟨w.heap.size + 1 + 1, 0, none⟩) hrg).trans r0_6
    have rf0_7 := (b7.frozen (p := ⟨w.heap.size + 1 + 1, 0, none⟩) hrg).trans rf0_6
    have c7 : Below w.heap.size w w7 := c6.trans (b7.mono hg0)
    have rl_7 : w.heap.size + 1 + 1 < w7.heap.size := Nat.lt_of_lt_of_le rl_6 b7.size
    clear hB7 b7 r0_6 rf0_6 rl_6 hB6 c6 b6 d6 c5 hB5
    go_upto_region 6 with fail
    go_region_with (first
      | (go_at_call 83; refine (setOther_any k a b n _).mono ?_; rintro e w8 ⟨rfl, b8⟩; have d8 : Below w7.heap.size w7 w8 := (Below.trans (by go_grown) (b8.mono (by first | omega | (simp; done) | (simp; omega)))); have c8 : Below w.heap.size w w8 := c7.trans (d8.mono c7.size); have r0_8 : w8.cell? ⟨w.heap.size + 1 + 1, 0, none⟩ = some (.slice none 0 0) := (by rw [b8.cell (by first | omega | (simp; done) | (simp; omega))]; go_cell); have rf0_8 : w8.frozen? ⟨w.heap.size + 1 + 1, 0, none⟩ = false := (by rw [b8.frozen (by first | omega | (simp; done) | (simp; omega))]; (first | go_cell | (simp [World.frozen?, World.alloc]; done) | rfl)); have rl_8 : w.heap.size + 1 + 1 < w8.heap.size := (by have := b8.size; first | omega | (revert this; simp; done) | (revert this; simp; omega)); clear r0_7 rf0_7 rl_7; have hB8 := hid (HB7.out.later d8))
      | (go_at_call 21; refine (change_no _ g (-1) _ (by omega)).mono ?_; rintro e w9 ⟨rfl, b9⟩; have HB9 := hid (hB8.out.later b9)))
    all_goals
      have r0_9 := (b9.cell (p := ⟨w.heap.size + 1 + 1, 0, none⟩) rl_8).trans r0_8
      have rf0_9 := (b9.frozen (p := ⟨w.heap.size + 1 + 1, 0, none⟩) rl_8).trans rf0_8
      have c9 : Below w.heap.size w w9 := c8.trans (b9.mono (by omega))
      have rl_9 : w.heap.size + 1 + 1 < w9.heap.size := Nat.lt_of_lt_of_le rl_8 b9.size
      clear b9 r0_8 rf0_8 rl_8 hB8 c8 b8 d8 c7 HB7
      go_upto_region 7 with fail
      go_region_with (first
        | (go_at_call 84; refine (hr0 _).mono ?_; rintro e w10 ⟨rfl, b10⟩; have d10 : Below w9.heap.size w9 w10 := (Below.trans (by go_grown) (b10.mono (by first | omega | (simp; done) | (simp; omega)))); have c10 : Below w.heap.size w w10 := c9.trans (d10.mono c9.size); have r0_10 : w10.cell? ⟨w.heap.size + 1 + 1, 0, none⟩ = some (.slice none 0 0) := (by rw [b10.cell (by first | omega | (simp; done) | (simp; omega))]; go_cell); have rf0_10 : w10.frozen? ⟨w.heap.size + 1 + 1, 0, none⟩ = false := (by rw [b10.frozen (by first | omega | (simp; done) | (simp; omega))]; (first | go_cell | (simp [World.frozen?, World.alloc]; done) | rfl)); have rl_10 : w.heap.size + 1 + 1 < w10.heap.size := (by have := b10.size; first | omega | (revert this; simp; done) | (revert this; simp; omega)); clear r0_9 rf0_9 rl_9; have hB10 := hid (HB9.out.later d10)))
      all_goals
        have hF := hid ((hB10.out.other (p := ⟨w.heap.size + 1 + 1, 0, none⟩) (by show w.heap.size + 1 + 1 < B; omega) (by show w.heap.size + 1 + 1 ≠ g; omega) (.slice (some ⟨g, 0, none⟩) 24 24)).mono hB0)
        have e0 : (w10.setCell ⟨w.heap.size + 1 + 1, 0, none⟩ (.slice (some ⟨g, 0, none⟩) 24 24)).cell? ⟨w.heap.size + 1 + 1, 0, none⟩ = some (.slice (some ⟨g, 0, none⟩) 24 24) := by go_cell
        have c11 := hid (c10.setCell (p := ⟨w.heap.size + 1 + 1, 0, none⟩) (by show w.heap.size ≤ w.heap.size + 1 + 1; omega) (.slice (some ⟨g, 0, none⟩) 24 24))
        go_wp2
        refine bodyPost_ret (v := .tuple #[.agg #[.slice (some ⟨g, 0, none⟩) 24 24], .bool true]) (by simp [results, Try.results9, go_sem, e0]) rfl ⟨⟨g, _, rfl, hF.out, hg0⟩, c11.out⟩

set_option maxRecDepth 100000 in
set_option maxHeartbeats 4000000 in
theorem implGDo_bind (va : Value) (L : List ValD) (k a b n : Int) (w : World) (h : RdG w va L) (hok : okG L = true) (hs : bindOk k a b n) :
    Calls Try.prog 9 #[.agg #[va], .agg #[.int .i64 k, .int .i64 a, .int .i64 b, .int .i64 n]] w fun e w' => (∃ g ds, e = .returned (.tuple #[.agg #[.slice (some ⟨g, 0, none⟩) 24 24], .bool true]) ∧ BackN w' w.heap.size g ((L.set (16 + a.toNat) (0, addL (L.getD (16 + a.toNat) valD0).2 b n)).set (8 + b.toNat) (0, addL (L.getD (8 + b.toNat) valD0).2 a n)) ds ∧ w.heap.size ≤ g) ∧ Below w.heap.size w w' := by
  have hmf : ∀ (fn : Fn) (first cap : Array Value) (w : World), (Instr.makeFunc fn first cap).run Try.prog w = .ok (.func fn first cap) w := fun _ _ _ _ => rfl
  have HW := fun w => writeOf_bind hs w
  have hm1 := method_bindKey k a b n
  have hm2 := method_bindOther k a b n
  have hm3 := method_bindRight k a b n
  have hm4 := method_bindDo k a b n
  have hm5 := method_bindBack k a b n
  have ha := hs.2.1
  have hb := hs.2.2.1
  have hsr := hid (bindR_of hs)
  clear hs
  have hlen := hid (okG_true hok).1
  have hRT := hid (okG_true hok).2.1
  have HG := fun (v : Value) (W : World) (hr : RdG W v L) => implGOk_is (c := true) hok v W hr
  clear hok
  have HR := hid h
  obtain ⟨ao, cap, hv, -⟩ := h
  subst hv
  go_enter Try.func9, Try.ntmps9
  go_wp2_with fail
  have x0_1 : (((w.alloc (.cells #[.slice ao L.length cap] 28)).alloc (.cells #[.int .i64 k, .int .i64 a, .int .i64 b, .int .i64 n] 24)).alloc (.cells #[.slice none 0 0] 28)).cell? ⟨w.heap.size, 0, none⟩ = some (.slice ao L.length cap) := by go_cell
  have xl_1 : w.heap.size < (((w.alloc (.cells #[.slice ao L.length cap] 28)).alloc (.cells #[.int .i64 k, .int .i64 a, .int .i64 b, .int .i64 n] 24)).alloc (.cells #[.slice none 0 0] 28)).heap.size := by first | (simp; done) | (simp; omega)
  have o0_1 : (((w.alloc (.cells #[.slice ao L.length cap] 28)).alloc (.cells #[.int .i64 k, .int .i64 a, .int .i64 b, .int .i64 n] 24)).alloc (.cells #[.slice none 0 0] 28)).cell? ⟨w.heap.size + 1, 0, none⟩ = some (.int .i64 k) := by go_cell
  have o1_1 : (((w.alloc (.cells #[.slice ao L.length cap] 28)).alloc (.cells #[.int .i64 k, .int .i64 a, .int .i64 b, .int .i64 n] 24)).alloc (.cells #[.slice none 0 0] 28)).cell? ⟨w.heap.size + 1, 1, none⟩ = some (.int .i64 a) := by go_cell
  have o2_1 : (((w.alloc (.cells #[.slice ao L.length cap] 28)).alloc (.cells #[.int .i64 k, .int .i64 a, .int .i64 b, .int .i64 n] 24)).alloc (.cells #[.slice none 0 0] 28)).cell? ⟨w.heap.size + 1, 2, none⟩ = some (.int .i64 b) := by go_cell
  have o3_1 : (((w.alloc (.cells #[.slice ao L.length cap] 28)).alloc (.cells #[.int .i64 k, .int .i64 a, .int .i64 b, .int .i64 n] 24)).alloc (.cells #[.slice none 0 0] 28)).cell? ⟨w.heap.size + 1, 3, none⟩ = some (.int .i64 n) := by go_cell
  have ol_1 : w.heap.size + 1 < (((w.alloc (.cells #[.slice ao L.length cap] 28)).alloc (.cells #[.int .i64 k, .int .i64 a, .int .i64 b, .int .i64 n] 24)).alloc (.cells #[.slice none 0 0] 28)).heap.size := by first | (simp; done) | (simp; omega)
  have r0_1 : (((w.alloc (.cells #[.slice ao L.length cap] 28)).alloc (.cells #[.int .i64 k, .int .i64 a, .int .i64 b, .int .i64 n] 24)).alloc (.cells #[.slice none 0 0] 28)).cell? ⟨w.heap.size + 1 + 1, 0, none⟩ = some (.slice none 0 0) := by go_cell
  have rf0_1 : (((w.alloc (.cells #[.slice ao L.length cap] 28)).alloc (.cells #[.int .i64 k, .int .i64 a, .int .i64 b, .int .i64 n] 24)).alloc (.cells #[.slice none 0 0] 28)).frozen? ⟨w.heap.size + 1 + 1, 0, none⟩ = false := by (first | go_cell | (simp [World.frozen?, World.alloc]; done) | rfl)
  have rl_1 : w.heap.size + 1 + 1 < (((w.alloc (.cells #[.slice ao L.length cap] 28)).alloc (.cells #[.int .i64 k, .int .i64 a, .int .i64 b, .int .i64 n] 24)).alloc (.cells #[.slice none 0 0] 28)).heap.size := by first | (simp; done) | (simp; omega)
  have c1 : Below w.heap.size w (((w.alloc (.cells #[.slice ao L.length cap] 28)).alloc (.cells #[.int .i64 k, .int .i64 a, .int .i64 b, .int .i64 n] 24)).alloc (.cells #[.slice none 0 0] 28)) := by go_grown
  have s1 : (((w.alloc (.cells #[.slice ao L.length cap] 28)).alloc (.cells #[.int .i64 k, .int .i64 a, .int .i64 b, .int .i64 n] 24)).alloc (.cells #[.slice none 0 0] 28)).heap.size = w.heap.size + 3 := by simp
  generalize (((w.alloc (.cells #[.slice ao L.length cap] 28)).alloc (.cells #[.int .i64 k, .int .i64 a, .int .i64 b, .int .i64 n] 24)).alloc (.cells #[.slice none 0 0] 28)) = w1 at x0_1 xl_1 o0_1 o1_1 o2_1 o3_1 ol_1 r0_1 rf0_1 rl_1 c1 s1 ⊢
  have qx0_1 := cell_regrown x0_1
  have qo0_1 := cell_regrown o0_1
  have qo1_1 := cell_regrown o1_1
  have qo2_1 := cell_regrown o2_1
  have qo3_1 := cell_regrown o3_1
  have qr0_1 := cell_regrown r0_1
  refine (HG _ _ (HR.out.later c1)).mono ?_
  rintro e w2 ⟨rfl, b2⟩
  have d2 : Below w1.heap.size w1 w2 := (Below.trans (by go_grown) (b2.mono (by first | omega | (simp; done) | (simp; omega))))
  have c2 : Below w.heap.size w w2 := c1.trans (d2.mono c1.size)
  have x0_2 : w2.cell? ⟨w.heap.size, 0, none⟩ = some (.slice ao L.length cap) := (by rw [b2.cell (by first | omega | (simp; done) | (simp; omega))]; go_cell)
  have xl_2 : w.heap.size < w2.heap.size := (by have := b2.size; first | omega | (revert this; simp; done) | (revert this; simp; omega))
  have o0_2 : w2.cell? ⟨w.heap.size + 1, 0, none⟩ = some (.int .i64 k) := (by rw [b2.cell (by first | omega | (simp; done) | (simp; omega))]; go_cell)
  have o1_2 : w2.cell? ⟨w.heap.size + 1, 1, none⟩ = some (.int .i64 a) := (by rw [b2.cell (by first | omega | (simp; done) | (simp; omega))]; go_cell)
  have o2_2 : w2.cell? ⟨w.heap.size + 1, 2, none⟩ = some (.int .i64 b) := (by rw [b2.cell (by first | omega | (simp; done) | (simp; omega))]; go_cell)
  have o3_2 : w2.cell? ⟨w.heap.size + 1, 3, none⟩ = some (.int .i64 n) := (by rw [b2.cell (by first | omega | (simp; done) | (simp; omega))]; go_cell)
  have ol_2 : w.heap.size + 1 < w2.heap.size := (by have := b2.size; first | omega | (revert this; simp; done) | (revert this; simp; omega))
  have r0_2 : w2.cell? ⟨w.heap.size + 1 + 1, 0, none⟩ = some (.slice none 0 0) := (by rw [b2.cell (by first | omega | (simp; done) | (simp; omega))]; go_cell)
  have rf0_2 : w2.frozen? ⟨w.heap.size + 1 + 1, 0, none⟩ = false := (by rw [b2.frozen (by first | omega | (simp; done) | (simp; omega))]; (first | go_cell | (simp [World.frozen?, World.alloc]; done) | rfl))
  have rl_2 : w.heap.size + 1 + 1 < w2.heap.size := (by have := b2.size; first | omega | (revert this; simp; done) | (revert this; simp; omega))
  clear x0_1 xl_1 o0_1 o1_1 o2_1 o3_1 ol_1 r0_1 rf0_1 rl_1
  clear b2 d2
  go_wp2_with fail
  refine (HW _).mono ?_
  rintro e w3 ⟨rfl, b3⟩
  have d3 : Below w2.heap.size w2 w3 := (Below.trans (by go_grown) (b3.mono (by first | omega | (simp; done) | (simp; omega))))
  have c3 : Below w.heap.size w w3 := c2.trans (d3.mono c2.size)
  have x0_3 : w3.cell? ⟨w.heap.size, 0, none⟩ = some (.slice ao L.length cap) := (by rw [b3.cell (by first | omega | (simp; done) | (simp; omega))]; go_cell)
  have xl_3 : w.heap.size < w3.heap.size := (by have := b3.size; first | omega | (revert this; simp; done) | (revert this; simp; omega))
  have r0_3 : w3.cell? ⟨w.heap.size + 1 + 1, 0, none⟩ = some (.slice none 0 0) := (by rw [b3.cell (by first | omega | (simp; done) | (simp; omega))]; go_cell)
  have rf0_3 : w3.frozen? ⟨w.heap.size + 1 + 1, 0, none⟩ = false := (by rw [b3.frozen (by first | omega | (simp; done) | (simp; omega))]; (first | go_cell | (simp [World.frozen?, World.alloc]; done) | rfl))
  have rl_3 : w.heap.size + 1 + 1 < w3.heap.size := (by have := b3.size; first | omega | (revert this; simp; done) | (revert this; simp; omega))
  clear x0_2 xl_2 r0_2 rf0_2 rl_2
  clear b3 d3
  go_wp2_with fail
  have hrB := rl_3
  refine (rowsApart_any _ L _ (HR.out.later c3) hlen.out (fun k hk => by have := okL_le (hRT.out.ok hk); omega)).mono ?_
  rintro e w4 ⟨ds, rfl, hO, b4⟩
  have d4 : Below w3.heap.size w3 w4 := (Below.trans (by go_grown) (b4.mono (by first | omega | (simp; done) | (simp; omega))))
  have c4 : Below w.heap.size w w4 := c3.trans (d4.mono c3.size)
  have r0_4 : w4.cell? ⟨w.heap.size + 1 + 1, 0, none⟩ = some (.slice none 0 0) := (by rw [b4.cell (by first | omega | (simp; done) | (simp; omega))]; go_cell)
  have rf0_4 : w4.frozen? ⟨w.heap.size + 1 + 1, 0, none⟩ = false := (by rw [b4.frozen (by first | omega | (simp; done) | (simp; omega))]; (first | go_cell | (simp [World.frozen?, World.alloc]; done) | rfl))
  have rl_4 : w.heap.size + 1 + 1 < w4.heap.size := (by have := b4.size; first | omega | (revert this; simp; done) | (revert this; simp; omega))
  clear r0_3 rf0_3 rl_3
  have hO4 := hid hO
  have hBg : w3.heap.size ≤ w4.heap.size := b4.size
  have hB0 : w.heap.size ≤ w3.heap.size := c3.size
  clear b4 d4 hO
  have hs := stS_row (w := w4.alloc (.cells zeroV 43)) (g := w4.heap.size) (cs := ds) (heap_alloc_new w4 _) (by simp [zeroV]) hO4.out.size hO4.out.one
  have hB5 := hid (BackN.start hO4.out)
  have d5 := below_setRow (B := w4.heap.size) ((Below.refl _ w4).alloc (Nat.le_refl _) (.cells zeroV 43)) (g := w4.heap.size) (Nat.le_refl _) ds
  go_upto_region 5 with fail
  clear hs
  generalize ((w4.alloc (.cells zeroV 43)).setRow w4.heap.size ds) = w5 at *
  have hrg : w.heap.size + 1 + 1 < w4.heap.size := rl_4
  have r0_5 := (d5.cell (p := ⟨w.heap.size + 1 + 1, 0, none⟩) hrg).trans r0_4
  have rf0_5 := (d5.frozen (p := ⟨w.heap.size + 1 + 1, 0, none⟩) hrg).trans rf0_4
  have c5 : Below w.heap.size w w5 := c4.trans (d5.mono c4.size)
  have rl_5 : w.heap.size + 1 + 1 < w5.heap.size := by have := d5.size; omega
  have hg0 : w.heap.size ≤ w4.heap.size := c4.size
  clear r0_4 rf0_4 rl_4 d5 hO4 c4 c3
  generalize w4.heap.size = g at *
  generalize w3.heap.size = B at *
  have hJ : 16 + a.toNat < 24 := by omega
  have hJe : ((16 + a.toNat : Nat) : Int) = 16 + a := by omega
  have CH := fun W ds hB hBw => change_bindDo k a b n B g (16 + a.toNat) L ds W hB hJ hBw (L.getD (16 + a.toNat) valD0) rfl (by have := okL_le (hRT.out.ok hJ); omega)
  rw [hJe] at CH
  have hI : 8 + b.toNat < 24 := by omega
  have hIe : ((8 + b.toNat : Nat) : Int) = 8 + b := by omega
  have CH2 := fun W ds hB hBw => change_bindBack k a b n B g (8 + b.toNat) (L.set (16 + a.toNat) (0, addL (L.getD (16 + a.toNat) valD0).2 b n)) ds W hB hI hBw (L.getD (8 + b.toNat) valD0) (by rw [getD_set (by rw [hlen.out]; exact hJ), if_neg (by omega)]) (by have := okL_le (hRT.out.ok hI); omega)
  rw [hIe] at CH2
  have hk0 := bondKey_any k a b n
  rw [keyOf_in (by omega) (by omega) ha.1 ha.2, show (2 : Int) * 8 + a = 16 + a from by omega] at hk0
  have ho0 := bondOther_any k a b n
  rw [keyOf_in (by omega) (by omega) hb.1 hb.2, show (1 : Int) * 8 + b = 8 + b from by omega] at ho0
  have hr0 := bindRight_any k a b n
  rw [hsr.out] at hr0
  go_region_with (first
    | (go_at_call 86; refine (hk0 _).mono ?_; rintro e w6 ⟨rfl, b6⟩; have d6 : Below w5.heap.size w5 w6 := (Below.trans (by go_grown) (b6.mono (by first | omega | (simp; done) | (simp; omega)))); have c6 : Below w.heap.size w w6 := c5.trans (d6.mono c5.size); have r0_6 : w6.cell? ⟨w.heap.size + 1 + 1, 0, none⟩ = some (.slice none 0 0) := (by rw [b6.cell (by first | omega | (simp; done) | (simp; omega))]; go_cell); have rf0_6 : w6.frozen? ⟨w.heap.size + 1 + 1, 0, none⟩ = false := (by rw [b6.frozen (by first | omega | (simp; done) | (simp; omega))]; (first | go_cell | (simp [World.frozen?, World.alloc]; done) | rfl)); have rl_6 : w.heap.size + 1 + 1 < w6.heap.size := (by have := b6.size; first | omega | (revert this; simp; done) | (revert this; simp; omega)); clear r0_5 rf0_5 rl_5; have hB6 := hid (hB5.out.later d6))
    | (go_at_call 21; refine (CH _ _ hB6.out (by have := hB6.out.lt; omega)).mono ?_; rintro e w7 ⟨rfl, ⟨ds7, hB7⟩, b7⟩))
  all_goals
    have HB7 := hid hB7
    have r0_7 := (b7.cell (p := ⟨w.heap.size + 1 + 1, 0, none⟩) hrg).trans r0_6
    have rf0_7 := (b7.frozen (p := ⟨w.heap.size + 1 + 1, 0, none⟩) hrg).trans rf0_6
    have c7 : Below w.heap.size w w7 := c6.trans (b7.mono hg0)
    have rl_7 : w.heap.size + 1 + 1 < w7.heap.size := Nat.lt_of_lt_of_le rl_6 b7.size
    clear hB7 b7 r0_6 rf0_6 rl_6 hB6 c6 b6 d6 c5 hB5
    go_upto_region 6 with fail
    go_region_with (first
      | (go_at_call 87; refine (ho0 _).mono ?_; rintro e w8 ⟨rfl, b8⟩; have d8 : Below w7.heap.size w7 w8 := (Below.trans (by go_grown) (b8.mono (by first | omega | (simp; done) | (simp; omega)))); have c8 : Below w.heap.size w w8 := c7.trans (d8.mono c7.size); have r0_8 : w8.cell? ⟨w.heap.size + 1 + 1, 0, none⟩ = some (.slice none 0 0) := (by rw [b8.cell (by first | omega | (simp; done) | (simp; omega))]; go_cell); have rf0_8 : w8.frozen? ⟨w.heap.size + 1 + 1, 0, none⟩ = false := (by rw [b8.frozen (by first | omega | (simp; done) | (simp; omega))]; (first | go_cell | (simp [World.frozen?, World.alloc]; done) | rfl)); have rl_8 : w.heap.size + 1 + 1 < w8.heap.size := (by have := b8.size; first | omega | (revert this; simp; done) | (revert this; simp; omega)); clear r0_7 rf0_7 rl_7; have hB8 := hid (HB7.out.later d8))
      | (go_at_call 21; refine (CH2 _ _ hB8.out (by have := hB8.out.lt; omega)).mono ?_; rintro e w9 ⟨rfl, ⟨ds9, hB9⟩, b9⟩; have HB9 := hid hB9; clear hB9))
    all_goals
      have r0_9 := (b9.cell (p := ⟨w.heap.size + 1 + 1, 0, none⟩) hrg).trans r0_8
      have rf0_9 := (b9.frozen (p := ⟨w.heap.size + 1 + 1, 0, none⟩) hrg).trans rf0_8
      have c9 : Below w.heap.size w w9 := c8.trans (b9.mono (by omega))
      have rl_9 : w.heap.size + 1 + 1 < w9.heap.size := Nat.lt_of_lt_of_le rl_8 b9.size
      clear b9 r0_8 rf0_8 rl_8 hB8 c8 b8 d8 c7 HB7
      go_upto_region 7 with fail
      go_region_with (first
        | (go_at_call 90; refine (hr0 _).mono ?_; rintro e w10 ⟨rfl, b10⟩; have d10 : Below w9.heap.size w9 w10 := (Below.trans (by go_grown) (b10.mono (by first | omega | (simp; done) | (simp; omega)))); have c10 : Below w.heap.size w w10 := c9.trans (d10.mono c9.size); have r0_10 : w10.cell? ⟨w.heap.size + 1 + 1, 0, none⟩ = some (.slice none 0 0) := (by rw [b10.cell (by first | omega | (simp; done) | (simp; omega))]; go_cell); have rf0_10 : w10.frozen? ⟨w.heap.size + 1 + 1, 0, none⟩ = false := (by rw [b10.frozen (by first | omega | (simp; done) | (simp; omega))]; (first | go_cell | (simp [World.frozen?, World.alloc]; done) | rfl)); have rl_10 : w.heap.size + 1 + 1 < w10.heap.size := (by have := b10.size; first | omega | (revert this; simp; done) | (revert this; simp; omega)); clear r0_9 rf0_9 rl_9; have hB10 := hid (HB9.out.later d10)))
      all_goals
        have hF := hid ((hB10.out.other (p := ⟨w.heap.size + 1 + 1, 0, none⟩) (by show w.heap.size + 1 + 1 < B; omega) (by show w.heap.size + 1 + 1 ≠ g; omega) (.slice (some ⟨g, 0, none⟩) 24 24)).mono hB0)
        have e0 : (w10.setCell ⟨w.heap.size + 1 + 1, 0, none⟩ (.slice (some ⟨g, 0, none⟩) 24 24)).cell? ⟨w.heap.size + 1 + 1, 0, none⟩ = some (.slice (some ⟨g, 0, none⟩) 24 24) := by go_cell
        have c11 := hid (c10.setCell (p := ⟨w.heap.size + 1 + 1, 0, none⟩) (by show w.heap.size ≤ w.heap.size + 1 + 1; omega) (.slice (some ⟨g, 0, none⟩) 24 24))
        go_wp2
        refine bodyPost_ret (v := .tuple #[.agg #[.slice (some ⟨g, 0, none⟩) 24 24], .bool true]) (by simp [results, Try.results9, go_sem, e0]) rfl ⟨⟨g, _, rfl, hF.out, hg0⟩, c11.out⟩

set_option maxRecDepth 100000 in
set_option maxHeartbeats 4000000 in
theorem implGDo_part (va : Value) (L : List ValD) (k a b n : Int) (w : World) (h : RdG w va L) (hok : okG L = true) (hs : partOk k a b n) :
    Calls Try.prog 9 #[.agg #[va], .agg #[.int .i64 k, .int .i64 a, .int .i64 b, .int .i64 n]] w fun e w' => (∃ g ds, e = .returned (.tuple #[.agg #[.slice (some ⟨g, 0, none⟩) 24 24], .bool true]) ∧ BackN w' w.heap.size g ((L.set (16 + a.toNat) (0, dropL (L.getD (16 + a.toNat) valD0).2 b)).set (8 + b.toNat) (0, dropL (L.getD (8 + b.toNat) valD0).2 a)) ds ∧ w.heap.size ≤ g) ∧ Below w.heap.size w w' := by
  have hmf : ∀ (fn : Fn) (first cap : Array Value) (w : World), (Instr.makeFunc fn first cap).run Try.prog w = .ok (.func fn first cap) w := fun _ _ _ _ => rfl
  have HW := fun w => writeOf_part hs w
  have hm1 := method_partKey k a b n
  have hm2 := method_partOther k a b n
  have hm3 := method_partRight k a b n
  have hm4 := method_partDo k a b n
  have hm5 := method_partBack k a b n
  have ha := hs.2.1
  have hb := hs.2.2.1
  have hsr := hid (partR_of hs)
  clear hs
  have hlen := hid (okG_true hok).1
  have hRT := hid (okG_true hok).2.1
  have HG := fun (v : Value) (W : World) (hr : RdG W v L) => implGOk_is (c := true) hok v W hr
  clear hok
  have HR := hid h
  obtain ⟨ao, cap, hv, -⟩ := h
  subst hv
  go_enter Try.func9, Try.ntmps9
  go_wp2_with fail
  have x0_1 : (((w.alloc (.cells #[.slice ao L.length cap] 28)).alloc (.cells #[.int .i64 k, .int .i64 a, .int .i64 b, .int .i64 n] 24)).alloc (.cells #[.slice none 0 0] 28)).cell? ⟨w.heap.size, 0, none⟩ = some (.slice ao L.length cap) := by go_cell
  have xl_1 : w.heap.size < (((w.alloc (.cells #[.slice ao L.length cap] 28)).alloc (.cells #[.int .i64 k, .int .i64 a, .int .i64 b, .int .i64 n] 24)).alloc (.cells #[.slice none 0 0] 28)).heap.size := by first | (simp; done) | (simp; omega)
  have o0_1 : (((w.alloc (.cells #[.slice ao L.length cap] 28)).alloc (.cells #[.int .i64 k, .int .i64 a, .int .i64 b, .int .i64 n] 24)).alloc (.cells #[.slice none 0 0] 28)).cell? ⟨w.heap.size + 1, 0, none⟩ = some (.int .i64 k) := by go_cell
  have o1_1 : (((w.alloc (.cells #[.slice ao L.length cap] 28)).alloc (.cells #[.int .i64 k, .int .i64 a, .int .i64 b, .int .i64 n] 24)).alloc (.cells #[.slice none 0 0] 28)).cell? ⟨w.heap.size + 1, 1, none⟩ = some (.int .i64 a) := by go_cell
  have o2_1 : (((w.alloc (.cells #[.slice ao L.length cap] 28)).alloc (.cells #[.int .i64 k, .int .i64 a, .int .i64 b, .int .i64 n] 24)).alloc (.cells #[.slice none 0 0] 28)).cell? ⟨w.heap.size + 1, 2, none⟩ = some (.int .i64 b) := by go_cell
  have o3_1 : (((w.alloc (.cells #[.slice ao L.length cap] 28)).alloc (.cells #[.int .i64 k, .int .i64 a, .int .i64 b, .int .i64 n] 24)).alloc (.cells #[.slice none 0 0] 28)).cell? ⟨w.heap.size + 1, 3, none⟩ = some (.int .i64 n) := by go_cell
  have ol_1 : w.heap.size + 1 < (((w.alloc (.cells #[.slice ao L.length cap] 28)).alloc (.cells #[.int .i64 k, .int .i64 a, .int .i64 b, .int .i64 n] 24)).alloc (.cells #[.slice none 0 0] 28)).heap.size := by first | (simp; done) | (simp; omega)
  have r0_1 : (((w.alloc (.cells #[.slice ao L.length cap] 28)).alloc (.cells #[.int .i64 k, .int .i64 a, .int .i64 b, .int .i64 n] 24)).alloc (.cells #[.slice none 0 0] 28)).cell? ⟨w.heap.size + 1 + 1, 0, none⟩ = some (.slice none 0 0) := by go_cell
  have rf0_1 : (((w.alloc (.cells #[.slice ao L.length cap] 28)).alloc (.cells #[.int .i64 k, .int .i64 a, .int .i64 b, .int .i64 n] 24)).alloc (.cells #[.slice none 0 0] 28)).frozen? ⟨w.heap.size + 1 + 1, 0, none⟩ = false := by (first | go_cell | (simp [World.frozen?, World.alloc]; done) | rfl)
  have rl_1 : w.heap.size + 1 + 1 < (((w.alloc (.cells #[.slice ao L.length cap] 28)).alloc (.cells #[.int .i64 k, .int .i64 a, .int .i64 b, .int .i64 n] 24)).alloc (.cells #[.slice none 0 0] 28)).heap.size := by first | (simp; done) | (simp; omega)
  have c1 : Below w.heap.size w (((w.alloc (.cells #[.slice ao L.length cap] 28)).alloc (.cells #[.int .i64 k, .int .i64 a, .int .i64 b, .int .i64 n] 24)).alloc (.cells #[.slice none 0 0] 28)) := by go_grown
  have s1 : (((w.alloc (.cells #[.slice ao L.length cap] 28)).alloc (.cells #[.int .i64 k, .int .i64 a, .int .i64 b, .int .i64 n] 24)).alloc (.cells #[.slice none 0 0] 28)).heap.size = w.heap.size + 3 := by simp
  generalize (((w.alloc (.cells #[.slice ao L.length cap] 28)).alloc (.cells #[.int .i64 k, .int .i64 a, .int .i64 b, .int .i64 n] 24)).alloc (.cells #[.slice none 0 0] 28)) = w1 at x0_1 xl_1 o0_1 o1_1 o2_1 o3_1 ol_1 r0_1 rf0_1 rl_1 c1 s1 ⊢
  have qx0_1 := cell_regrown x0_1
  have qo0_1 := cell_regrown o0_1
  have qo1_1 := cell_regrown o1_1
  have qo2_1 := cell_regrown o2_1
  have qo3_1 := cell_regrown o3_1
  have qr0_1 := cell_regrown r0_1
  refine (HG _ _ (HR.out.later c1)).mono ?_
  rintro e w2 ⟨rfl, b2⟩
  have d2 : Below w1.heap.size w1 w2 := (Below.trans (by go_grown) (b2.mono (by first | omega | (simp; done) | (simp; omega))))
  have c2 : Below w.heap.size w w2 := c1.trans (d2.mono c1.size)
  have x0_2 : w2.cell? ⟨w.heap.size, 0, none⟩ = some (.slice ao L.length cap) := (by rw [b2.cell (by first | omega | (simp; done) | (simp; omega))]; go_cell)
  have xl_2 : w.heap.size < w2.heap.size := (by have := b2.size; first | omega | (revert this; simp; done) | (revert this; simp; omega))
  have o0_2 : w2.cell? ⟨w.heap.size + 1, 0, none⟩ = some (.int .i64 k) := (by rw [b2.cell (by first | omega | (simp; done) | (simp; omega))]; go_cell)
  have o1_2 : w2.cell? ⟨w.heap.size + 1, 1, none⟩ = some (.int .i64 a) := (by rw [b2.cell (by first | omega | (simp; done) | (simp; omega))]; go_cell)
  have o2_2 : w2.cell? ⟨w.heap.size + 1, 2, none⟩ = some (.int .i64 b) := (by rw [b2.cell (by first | omega | (simp; done) | (simp; omega))]; go_cell)
  have o3_2 : w2.cell? ⟨w.heap.size + 1, 3, none⟩ = some (.int .i64 n) := (by rw [b2.cell (by first | omega | (simp; done) | (simp; omega))]; go_cell)
  have ol_2 : w.heap.size + 1 < w2.heap.size := (by have := b2.size; first | omega | (revert this; simp; done) | (revert this; simp; omega))
  have r0_2 : w2.cell? ⟨w.heap.size + 1 + 1, 0, none⟩ = some (.slice none 0 0) := (by rw [b2.cell (by first | omega | (simp; done) | (simp; omega))]; go_cell)
  have rf0_2 : w2.frozen? ⟨w.heap.size + 1 + 1, 0, none⟩ = false := (by rw [b2.frozen (by first | omega | (simp; done) | (simp; omega))]; (first | go_cell | (simp [World.frozen?, World.alloc]; done) | rfl))
  have rl_2 : w.heap.size + 1 + 1 < w2.heap.size := (by have := b2.size; first | omega | (revert this; simp; done) | (revert this; simp; omega))
  clear x0_1 xl_1 o0_1 o1_1 o2_1 o3_1 ol_1 r0_1 rf0_1 rl_1
  clear b2 d2
  go_wp2_with fail
  refine (HW _).mono ?_
  rintro e w3 ⟨rfl, b3⟩
  have d3 : Below w2.heap.size w2 w3 := (Below.trans (by go_grown) (b3.mono (by first | omega | (simp; done) | (simp; omega))))
  have c3 : Below w.heap.size w w3 := c2.trans (d3.mono c2.size)
  have x0_3 : w3.cell? ⟨w.heap.size, 0, none⟩ = some (.slice ao L.length cap) := (by rw [b3.cell (by first | omega | (simp; done) | (simp; omega))]; go_cell)
  have xl_3 : w.heap.size < w3.heap.size := (by have := b3.size; first | omega | (revert this; simp; done) | (revert this; simp; omega))
  have r0_3 : w3.cell? ⟨w.heap.size + 1 + 1, 0, none⟩ = some (.slice none 0 0) := (by rw [b3.cell (by first | omega | (simp; done) | (simp; omega))]; go_cell)
  have rf0_3 : w3.frozen? ⟨w.heap.size + 1 + 1, 0, none⟩ = false := (by rw [b3.frozen (by first | omega | (simp; done) | (simp; omega))]; (first | go_cell | (simp [World.frozen?, World.alloc]; done) | rfl))
  have rl_3 : w.heap.size + 1 + 1 < w3.heap.size := (by have := b3.size; first | omega | (revert this; simp; done) | (revert this; simp; omega))
  clear x0_2 xl_2 r0_2 rf0_2 rl_2
  clear b3 d3
  go_wp2_with fail
  have hrB := rl_3
  refine (rowsApart_any _ L _ (HR.out.later c3) hlen.out (fun k hk => by have := okL_le (hRT.out.ok hk); omega)).mono ?_
  rintro e w4 ⟨ds, rfl, hO, b4⟩
  have d4 : Below w3.heap.size w3 w4 := (Below.trans (by go_grown) (b4.mono (by first | omega | (simp; done) | (simp; omega))))
  have c4 : Below w.heap.size w w4 := c3.trans (d4.mono c3.size)
  have r0_4 : w4.cell? ⟨w.heap.size + 1 + 1, 0, none⟩ = some (.slice none 0 0) := (by rw [b4.cell (by first | omega | (simp; done) | (simp; omega))]; go_cell)
  have rf0_4 : w4.frozen? ⟨w.heap.size + 1 + 1, 0, none⟩ = false := (by rw [b4.frozen (by first | omega | (simp; done) | (simp; omega))]; (first | go_cell | (simp [World.frozen?, World.alloc]; done) | rfl))
  have rl_4 : w.heap.size + 1 + 1 < w4.heap.size := (by have := b4.size; first | omega | (revert this; simp; done) | (revert this; simp; omega))
  clear r0_3 rf0_3 rl_3
  have hO4 := hid hO
  have hBg : w3.heap.size ≤ w4.heap.size := b4.size
  have hB0 : w.heap.size ≤ w3.heap.size := c3.size
  clear b4 d4 hO
  have hs := stS_row (w := w4.alloc (.cells zeroV 43)) (g := w4.heap.size) (cs := ds) (heap_alloc_new w4 _) (by simp [zeroV]) hO4.out.size hO4.out.one
  have hB5 := hid (BackN.start hO4.out)
  have d5 := below_setRow (B := w4.heap.size) ((Below.refl _ w4).alloc (Nat.le_refl _) (.cells zeroV 43)) (g := w4.heap.size) (Nat.le_refl _) ds
  go_upto_region 5 with fail
  clear hs
  generalize ((w4.alloc (.cells zeroV 43)).setRow w4.heap.size ds) = w5 at *
  have hrg : w.heap.size + 1 + 1 < w4.heap.size := rl_4
  have r0_5 := (d5.cell (p := ⟨w.heap.size + 1 + 1, 0, none⟩) hrg).trans r0_4
  have rf0_5 := (d5.frozen (p := ⟨w.heap.size + 1 + 1, 0, none⟩) hrg).trans rf0_4
  have c5 : Below w.heap.size w w5 := c4.trans (d5.mono c4.size)
  have rl_5 : w.heap.size + 1 + 1 < w5.heap.size := by have := d5.size; omega
  have hg0 : w.heap.size ≤ w4.heap.size := c4.size
  clear r0_4 rf0_4 rl_4 d5 hO4 c4 c3
  generalize w4.heap.size = g at *
  generalize w3.heap.size = B at *
  have hJ : 16 + a.toNat < 24 := by omega
  have hJe : ((16 + a.toNat : Nat) : Int) = 16 + a := by omega
  have CH := fun W ds hB hBw => change_partDo k a b n B g (16 + a.toNat) L ds W hB hJ hBw (L.getD (16 + a.toNat) valD0) rfl (by have := okL_le (hRT.out.ok hJ); omega)
  rw [hJe] at CH
  have hI : 8 + b.toNat < 24 := by omega
  have hIe : ((8 + b.toNat : Nat) : Int) = 8 + b := by omega
  have CH2 := fun W ds hB hBw => change_partBack k a b n B g (8 + b.toNat) (L.set (16 + a.toNat) (0, dropL (L.getD (16 + a.toNat) valD0).2 b)) ds W hB hI hBw (L.getD (8 + b.toNat) valD0) (by rw [getD_set (by rw [hlen.out]; exact hJ), if_neg (by omega)]) (by have := okL_le (hRT.out.ok hI); omega)
  rw [hIe] at CH2
  have hk0 := bondKey_any k a b n
  rw [keyOf_in (by omega) (by omega) ha.1 ha.2, show (2 : Int) * 8 + a = 16 + a from by omega] at hk0
  have ho0 := bondOther_any k a b n
  rw [keyOf_in (by omega) (by omega) hb.1 hb.2, show (1 : Int) * 8 + b = 8 + b from by omega] at ho0
  have hr0 := partRight_any k a b n
  rw [hsr.out] at hr0
  go_region_with (first
    | (go_at_call 86; refine (hk0 _).mono ?_; rintro e w6 ⟨rfl, b6⟩; have d6 : Below w5.heap.size w5 w6 := (Below.trans (by go_grown) (b6.mono (by first | omega | (simp; done) | (simp; omega)))); have c6 : Below w.heap.size w w6 := c5.trans (d6.mono c5.size); have r0_6 : w6.cell? ⟨w.heap.size + 1 + 1, 0, none⟩ = some (.slice none 0 0) := (by rw [b6.cell (by first | omega | (simp; done) | (simp; omega))]; go_cell); have rf0_6 : w6.frozen? ⟨w.heap.size + 1 + 1, 0, none⟩ = false := (by rw [b6.frozen (by first | omega | (simp; done) | (simp; omega))]; (first | go_cell | (simp [World.frozen?, World.alloc]; done) | rfl)); have rl_6 : w.heap.size + 1 + 1 < w6.heap.size := (by have := b6.size; first | omega | (revert this; simp; done) | (revert this; simp; omega)); clear r0_5 rf0_5 rl_5; have hB6 := hid (hB5.out.later d6))
    | (go_at_call 21; refine (CH _ _ hB6.out (by have := hB6.out.lt; omega)).mono ?_; rintro e w7 ⟨rfl, ⟨ds7, hB7⟩, b7⟩))
  all_goals
    have HB7 := hid hB7
    have r0_7 := (b7.cell (p := ⟨w.heap.size + 1 + 1, 0, none⟩) hrg).trans r0_6
    have rf0_7 := (b7.frozen (p := ⟨w.heap.size + 1 + 1, 0, none⟩) hrg).trans rf0_6
    have c7 : Below w.heap.size w w7 := c6.trans (b7.mono hg0)
    have rl_7 : w.heap.size + 1 + 1 < w7.heap.size := Nat.lt_of_lt_of_le rl_6 b7.size
    clear hB7 b7 r0_6 rf0_6 rl_6 hB6 c6 b6 d6 c5 hB5
    go_upto_region 6 with fail
    go_region_with (first
      | (go_at_call 87; refine (ho0 _).mono ?_; rintro e w8 ⟨rfl, b8⟩; have d8 : Below w7.heap.size w7 w8 := (Below.trans (by go_grown) (b8.mono (by first | omega | (simp; done) | (simp; omega)))); have c8 : Below w.heap.size w w8 := c7.trans (d8.mono c7.size); have r0_8 : w8.cell? ⟨w.heap.size + 1 + 1, 0, none⟩ = some (.slice none 0 0) := (by rw [b8.cell (by first | omega | (simp; done) | (simp; omega))]; go_cell); have rf0_8 : w8.frozen? ⟨w.heap.size + 1 + 1, 0, none⟩ = false := (by rw [b8.frozen (by first | omega | (simp; done) | (simp; omega))]; (first | go_cell | (simp [World.frozen?, World.alloc]; done) | rfl)); have rl_8 : w.heap.size + 1 + 1 < w8.heap.size := (by have := b8.size; first | omega | (revert this; simp; done) | (revert this; simp; omega)); clear r0_7 rf0_7 rl_7; have hB8 := hid (HB7.out.later d8))
      | (go_at_call 21; refine (CH2 _ _ hB8.out (by have := hB8.out.lt; omega)).mono ?_; rintro e w9 ⟨rfl, ⟨ds9, hB9⟩, b9⟩; have HB9 := hid hB9; clear hB9))
    all_goals
      have r0_9 := (b9.cell (p := ⟨w.heap.size + 1 + 1, 0, none⟩) hrg).trans r0_8
      have rf0_9 := (b9.frozen (p := ⟨w.heap.size + 1 + 1, 0, none⟩) hrg).trans rf0_8
      have c9 : Below w.heap.size w w9 := c8.trans (b9.mono (by omega))
      have rl_9 : w.heap.size + 1 + 1 < w9.heap.size := Nat.lt_of_lt_of_le rl_8 b9.size
      clear b9 r0_8 rf0_8 rl_8 hB8 c8 b8 d8 c7 HB7
      go_upto_region 7 with fail
      go_region_with (first
        | (go_at_call 93; refine (hr0 _).mono ?_; rintro e w10 ⟨rfl, b10⟩; have d10 : Below w9.heap.size w9 w10 := (Below.trans (by go_grown) (b10.mono (by first | omega | (simp; done) | (simp; omega)))); have c10 : Below w.heap.size w w10 := c9.trans (d10.mono c9.size); have r0_10 : w10.cell? ⟨w.heap.size + 1 + 1, 0, none⟩ = some (.slice none 0 0) := (by rw [b10.cell (by first | omega | (simp; done) | (simp; omega))]; go_cell); have rf0_10 : w10.frozen? ⟨w.heap.size + 1 + 1, 0, none⟩ = false := (by rw [b10.frozen (by first | omega | (simp; done) | (simp; omega))]; (first | go_cell | (simp [World.frozen?, World.alloc]; done) | rfl)); have rl_10 : w.heap.size + 1 + 1 < w10.heap.size := (by have := b10.size; first | omega | (revert this; simp; done) | (revert this; simp; omega)); clear r0_9 rf0_9 rl_9; have hB10 := hid (HB9.out.later d10)))
      all_goals
        have hF := hid ((hB10.out.other (p := ⟨w.heap.size + 1 + 1, 0, none⟩) (by show w.heap.size + 1 + 1 < B; omega) (by show w.heap.size + 1 + 1 ≠ g; omega) (.slice (some ⟨g, 0, none⟩) 24 24)).mono hB0)
        have e0 : (w10.setCell ⟨w.heap.size + 1 + 1, 0, none⟩ (.slice (some ⟨g, 0, none⟩) 24 24)).cell? ⟨w.heap.size + 1 + 1, 0, none⟩ = some (.slice (some ⟨g, 0, none⟩) 24 24) := by go_cell
        have c11 := hid (c10.setCell (p := ⟨w.heap.size + 1 + 1, 0, none⟩) (by show w.heap.size ≤ w.heap.size + 1 + 1; omega) (.slice (some ⟨g, 0, none⟩) 24 24))
        go_wp2
        refine bodyPost_ret (v := .tuple #[.agg #[.slice (some ⟨g, 0, none⟩) 24 24], .bool true]) (by simp [results, Try.results9, go_sem, e0]) rfl ⟨⟨g, _, rfl, hF.out, hg0⟩, c11.out⟩
end Go.Proofs.Ytpdfhffmhlgcmaa
