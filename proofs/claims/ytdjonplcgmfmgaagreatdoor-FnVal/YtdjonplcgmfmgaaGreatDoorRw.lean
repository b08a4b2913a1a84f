/- impl.readEdge: contract. -/
import Derived.Test.YtdjonplcgmfmgaaGreatDoorTa
import Derived.Test.YtdjonplcgmfmgaaGreatDoorRp
namespace Go.Proofs.YtdjonplcgmfmgaaGreatDoor
open Go.RowKit Go.Shelf

theorem index_sep {c : UInt8} (b : List UInt8) : ∀ {a : List UInt8}, c ∉ a → Lib.index (a ++ c :: b) [c] = (a.length : Int)
  | [], _ => by
    rw [List.nil_append, Lib.index, if_pos (by simp [List.isPrefixOf])]
    rfl
  | x :: a, h => by
    rw [List.mem_cons, not_or] at h
    have ih := index_sep b h.2
    rw [List.cons_append, Lib.index, if_neg (by simp [List.isPrefixOf, h.1]), ih, if_neg (by rw [beq_iff_eq]; omega), List.length_cons]
    omega
theorem cut_sep {c : UInt8} {a : List UInt8} (b : List UInt8) (h : c ∉ a) : Lib.cut (a ++ c :: b) [c] = (a, b, true) := by
  rw [Lib.cut, index_sep b h, if_pos (by omega), Int.toNat_natCast]
  simp
theorem cut_edge {x : Int × Int} (h : PosE x) : Lib.cut (edgeT x) [64] = (Lib.itoa x.1, Lib.itoa x.2, true) := cut_sep _ (itoa_free h.1 (Or.inr (by decide)))
theorem cut_le (s sep : List UInt8) : (Lib.cut s sep).1.length ≤ s.length ∧ (Lib.cut s sep).2.1.length ≤ s.length := by
  unfold Lib.cut
  split
  · simp; omega
  · simp

/-- The variable that the library's search reads. -/
def MaxVar (w : World) : Prop := ∃ m : Int, w.cell? ⟨1, 0, none⟩ = some (.int .i64 m)
theorem MaxVar.below {w w' : World} (h : MaxVar w) (hb : Below w.heap.size w w') : MaxVar w' := by
  obtain ⟨m, hm⟩ := h
  refine ⟨m, ?_⟩
  rw [hb.cell (p := ⟨1, 0, none⟩)]
  · exact hm
  · apply Classical.byContradiction
    intro hn
    have hnone : w.heap[1]? = none := Array.getElem?_eq_none (by simpa using hn)
    simp [World.cell?, hnone] at hm
theorem var_kept {w w' : World} {n : String} {cs : Array Value} (h : w.var? Tryz.prog n = some cs) (hb : Below w.heap.size w w') : w'.var? Tryz.prog n = some cs := by
  cases hg : Tryz.prog.globalNamed n with
  | none => simp [World.var?, hg] at h
  | some g =>
    have hlt : g < w.heap.size := by
      apply Classical.byContradiction
      intro hn
      have hnone : w.heap[g]? = none := Array.getElem?_eq_none (by omega)
      simp [World.var?, hg, hnone] at h
    exact var?_below hb hg hlt h
theorem ErrVars.below {w w' : World} (h : ErrVars w) (hb : Below w.heap.size w w') : ErrVars w' := by
  obtain ⟨⟨a, b, h1⟩, ⟨c, d, h2⟩⟩ := h
  exact ⟨⟨a, b, var_kept h1 hb⟩, ⟨c, d, var_kept h2 hb⟩⟩

/-- What readEdge answers. -/
def EdgeP (l : List UInt8) (e : Ending) : Prop := ∃ (a b : Int) (ok : Bool), e = .returned (.tuple #[.agg #[.int .i64 a, .int .i64 b], .bool ok]) ∧ (-9223372036854775808 ≤ a ∧ a ≤ 9223372036854775807) ∧ (-9223372036854775808 ≤ b ∧ b ≤ 9223372036854775807) ∧ ∀ x, PosE x → Small x → l = edgeT x → a = x.1 ∧ b = x.2 ∧ ok = true

set_option maxRecDepth 10000 in
set_option maxHeartbeats 1000000 in
theorem readEdge_any (s : ByteArray) (w : World) (hs : s.size ≤ 1048576) (hv : ErrVars w) (hM : MaxVar w) :
    Calls Tryz.prog 64 #[.string s] w fun e w' => EdgeP s.data.toList e ∧ Below w.heap.size w w' := by
  have hle := cut_le s.data.toList [64]
  have hlen : s.data.toList.length = s.size := rfl
  have HC : Hid (∀ x, PosE x → s.data.toList = edgeT x → (Lib.cut s.data.toList [64]) = (Lib.itoa x.1, Lib.itoa x.2, true)) := hidT (fun x hx he => by rw [he]; exact cut_edge hx)
  have b0 : Below w.heap.size w (w.alloc (.cells #[.int .i64 0, .int .i64 0] 53)) := (Below.refl _ w).alloc (Nat.le_refl _) _
  obtain ⟨m, hm⟩ := hM.below b0
  have HV := hid hv
  clear hv hM b0
  go_enter Tryz.func64, Tryz.ntmps64
  go_wp2_with fail
  refine (Tryz.strings_Cut s ⟨#[64]⟩ m _ (by omega) hm).mono ?_
  rintro e w1 ⟨rfl, hw⟩
  have b1 : Below (w.alloc (.cells #[.int .i64 0, .int .i64 0] 53)).heap.size (w.alloc (.cells #[.int .i64 0, .int .i64 0] 53)) w1 := by
    obtain ⟨n, rfl⟩ := hw
    exact below_drewN (Below.refl _ _) n
  clear hw hm
  rw [show (⟨#[64]⟩ : ByteArray).data.toList = [64] from rfl]
  obtain ⟨⟨la, lb, par⟩, hcut⟩ : ∃ q, Lib.cut s.data.toList [64] = q := ⟨_, rfl⟩
  rw [hcut] at hle HC ⊢
  clear hcut
  simp only at hle
  have HL := hid hle
  clear hle
  have c1 : Below w.heap.size w w1 := (Below.trans (by go_grown) (b1.mono (by first | omega | (simp; done) | (simp; omega))))
  have a0_1 : w1.cell? ⟨w.heap.size, 0, none⟩ = some (.int .i64 0) := (by rw [b1.cell (by first | omega | (simp; done) | (simp; omega))]; go_cell)
  have af0_1 : w1.frozen? ⟨w.heap.size, 0, none⟩ = false := (by rw [b1.frozen (by first | omega | (simp; done) | (simp; omega))]; (first | go_cell | (simp [World.frozen?, World.alloc]; done) | rfl))
  have a1_1 : w1.cell? ⟨w.heap.size, 1, none⟩ = some (.int .i64 0) := (by rw [b1.cell (by first | omega | (simp; done) | (simp; omega))]; go_cell)
  have af1_1 : w1.frozen? ⟨w.heap.size, 1, none⟩ = false := (by rw [b1.frozen (by first | omega | (simp; done) | (simp; omega))]; (first | go_cell | (simp [World.frozen?, World.alloc]; done) | rfl))
  have al_1 : w.heap.size < w1.heap.size := (by have := b1.size; first | omega | (revert this; simp; done) | (revert this; simp; omega))
  go_wp2_with fail
  refine (atoi_any ⟨la.toArray⟩ _ (by have := HL.out; have e : (⟨la.toArray⟩ : ByteArray).size = la.length := rfl; omega) (HV.out.below c1)).mono ?_
  rintro e w2 ⟨⟨n1, v1, rfl, hv1, p0, p1, hx1⟩, b2⟩
  have HX1 := hid hx1
  clear hx1
  have d2 : Below w1.heap.size w1 w2 := (Below.trans (by go_grown) (b2.mono (by first | omega | (simp; done) | (simp; omega))))
  have c2 : Below w.heap.size w w2 := c1.trans (d2.mono c1.size)
  have a0_2 : w2.cell? ⟨w.heap.size, 0, none⟩ = some (.int .i64 0) := (by rw [b2.cell (by first | omega | (simp; done) | (simp; omega))]; go_cell)
  have af0_2 : w2.frozen? ⟨w.heap.size, 0, none⟩ = false := (by rw [b2.frozen (by first | omega | (simp; done) | (simp; omega))]; (first | go_cell | (simp [World.frozen?, World.alloc]; done) | rfl))
  have a1_2 : w2.cell? ⟨w.heap.size, 1, none⟩ = some (.int .i64 0) := (by rw [b2.cell (by first | omega | (simp; done) | (simp; omega))]; go_cell)
  have af1_2 : w2.frozen? ⟨w.heap.size, 1, none⟩ = false := (by rw [b2.frozen (by first | omega | (simp; done) | (simp; omega))]; (first | go_cell | (simp [World.frozen?, World.alloc]; done) | rfl))
  have al_2 : w.heap.size < w2.heap.size := (by have := b2.size; first | omega | (revert this; simp; done) | (revert this; simp; omega))
  clear a0_1 af0_1 a1_1 af1_1 al_1
  go_wp2_with fail
  refine (atoi_any ⟨lb.toArray⟩ _ (by have := HL.out; have e : (⟨lb.toArray⟩ : ByteArray).size = lb.length := rfl; omega) (HV.out.below c2)).mono ?_
  rintro e w3 ⟨⟨n2, v2, rfl, hv2, q0, q1, hx2⟩, b3⟩
  have HX2 := hid hx2
  clear hx2
  have d3 : Below w2.heap.size w2 w3 := (Below.trans (by go_grown) (b3.mono (by first | omega | (simp; done) | (simp; omega))))
  have c3 : Below w.heap.size w w3 := c2.trans (d3.mono c2.size)
  have a0_3 : w3.cell? ⟨w.heap.size, 0, none⟩ = some (.int .i64 0) := (by rw [b3.cell (by first | omega | (simp; done) | (simp; omega))]; go_cell)
  have af0_3 : w3.frozen? ⟨w.heap.size, 0, none⟩ = false := (by rw [b3.frozen (by first | omega | (simp; done) | (simp; omega))]; (first | go_cell | (simp [World.frozen?, World.alloc]; done) | rfl))
  have a1_3 : w3.cell? ⟨w.heap.size, 1, none⟩ = some (.int .i64 0) := (by rw [b3.cell (by first | omega | (simp; done) | (simp; omega))]; go_cell)
  have af1_3 : w3.frozen? ⟨w.heap.size, 1, none⟩ = false := (by rw [b3.frozen (by first | omega | (simp; done) | (simp; omega))]; (first | go_cell | (simp [World.frozen?, World.alloc]; done) | rfl))
  have al_3 : w.heap.size < w3.heap.size := (by have := b3.size; first | omega | (revert this; simp; done) | (revert this; simp; omega))
  clear a0_2 af0_2 a1_2 af1_2 al_2
  have HE : Hid (∀ x, PosE x → Small x → s.data.toList = edgeT x → par = true ∧ (n1 = x.1 ∧ v1 = .nilIface) ∧ (n2 = x.2 ∧ v2 = .nilIface)) := hidT (fun x hx ⟨s0, s1, s2, s3⟩ he => by
    have h := HC.out x hx he
    simp only [Prod.mk.injEq] at h
    exact ⟨h.2.2, HX1.out x.1 s0 s1 h.1, HX2.out x.2 s2 s3 h.2.1⟩)
  clear HX1 HX2 HC HL HV
  cases par with
  | false =>
    go_wp2
    all_goals
      refine bodyPost_ret (v := .tuple #[.agg #[.int .i64 0, .int .i64 0], .bool false]) (by simp [results, Tryz.results64, go_sem, a0_3, a1_3]) rfl ?_
      exact ⟨⟨0, 0, false, rfl, by decide, by decide, fun x hx hsm he => by cases (HE.out x hx hsm he).1⟩, by go_grown⟩
  | true =>
    rcases hv1 with rfl | ⟨t1, a1, rfl⟩
    · rcases hv2 with rfl | ⟨t2, a2, rfl⟩
      · go_wp2
        all_goals
          refine bodyPost_ret (v := .tuple #[.agg #[.int .i64 n1, .int .i64 n2], .bool true]) (by simp [results, Tryz.results64, go_sem, a0_3, a1_3]) rfl ?_
          exact ⟨⟨n1, n2, true, rfl, ⟨p0, p1⟩, ⟨q0, q1⟩, fun x hx hsm he => ⟨(HE.out x hx hsm he).2.1.1, (HE.out x hx hsm he).2.2.1, rfl⟩⟩, by go_grown⟩
      · go_wp2
        all_goals
          refine bodyPost_ret (v := .tuple #[.agg #[.int .i64 0, .int .i64 0], .bool false]) (by simp [results, Tryz.results64, go_sem, a0_3, a1_3]) rfl ?_
          exact ⟨⟨0, 0, false, rfl, by decide, by decide, fun x hx hsm he => by cases (HE.out x hx hsm he).2.2.2⟩, by go_grown⟩
    · go_wp2
      all_goals
        refine bodyPost_ret (v := .tuple #[.agg #[.int .i64 0, .int .i64 0], .bool false]) (by simp [results, Tryz.results64, go_sem, a0_3, a1_3]) rfl ?_
        exact ⟨⟨0, 0, false, rfl, by decide, by decide, fun x hx hsm he => by cases (HE.out x hx hsm he).2.1.2⟩, by go_grown⟩
end Go.Proofs.YtdjonplcgmfmgaaGreatDoor
