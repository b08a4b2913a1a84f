/- Both GraphDo's answers as readings: what the laws of graphs use. Written by a program (gfg.py). -/
import Derived.Test.YtkmhnjgncnoddaaGreatBa
import Derived.Test.YtkmhnjgncnoddaaGreatBe
import Derived.Test.YtkmhnjgncnoddaaGreatGs
import Derived.Test.YtkmhnjgncnoddaaGreatGr
namespace Go.Proofs.YtkmhnjgncnoddaaGreat
open Go.RowKit

theorem op_two {k a b n : Int} (h : opOk k a b n = true) : setOk k a b n ∨ (k ≠ 1 ∧ BondW k a b n) := by
  rcases op_ways k a b n with ⟨hs, _⟩ | ⟨hs, _⟩ | ⟨hs, _⟩ | ⟨_, _, _, e, _⟩
  · exact .inl hs
  · have hk : k ≠ 1 := by have := hs.1; omega
    exact .inr ⟨hk, bondW h hk⟩
  · have hk : k ≠ 1 := by have := hs.1; omega
    exact .inr ⟨hk, bondW h hk⟩
  · rw [h] at e; cases e
theorem implGDo_rd (va : Value) (L : List ValD) (k a b n : Int) (w : World) (h : RdG w va L) (hok : okG L = true) {c : Bool} (hc : opOk k a b n = c) :
    Calls Tryz.prog 8 #[.agg #[va], .agg #[.int .i64 k, .int .i64 a, .int .i64 b, .int .i64 n]] w fun e w' => (∃ g, e = .returned (.tuple #[.agg #[.slice (some ⟨g, 0, none⟩) 24 24], .bool c]) ∧ RdG w' (.slice (some ⟨g, 0, none⟩) 24 24) (doG L k a b n)) ∧ Below w.heap.size w w' :=
  hc ▸ (implGDo_any va L k a b n w h hok).mono fun _ _ ⟨⟨g, _, he, hB, _⟩, hb⟩ => ⟨⟨g, he, hB.rdG 24⟩, hb⟩
theorem specGDo_rd (va : Value) (L : List ValD) (k a b n : Int) (w : World) (h : RdG w va L) (hok : okG L = true) {c : Bool} (hc : opOk k a b n = c) :
    Calls Tryz.prog 9 #[.agg #[va], .agg #[.int .i64 k, .int .i64 a, .int .i64 b, .int .i64 n]] w fun e w' => (∃ g cp, e = .returned (.tuple #[.agg #[.slice (some ⟨g, 0, none⟩) 24 cp], .bool c]) ∧ RdG w' (.slice (some ⟨g, 0, none⟩) 24 cp) (doG L k a b n)) ∧ Below w.heap.size w w' :=
  hc ▸ (specGDo_any va L k a b n w h hok).mono fun _ _ ⟨⟨v, xs, he, hR⟩, hb⟩ => by
    obtain ⟨g, cp, hv⟩ := ownsRow_succ hR.1
    subst hv
    exact ⟨⟨g, cp, he, hR.rdG (by rw [doG_length]; exact (okG_true hok).1)⟩, hb⟩
theorem gsame_is {va vb : Value} {la lb : List ValD} {w : World} (ha : RdG w va la) (hb : RdG w vb lb) (he : la = lb) :
    Calls Tryz.prog 10 #[.agg #[va], .agg #[vb]] w fun e w' => e = .returned (.bool true) ∧ Below w.heap.size w w' := by
  have := implGSame_any va vb la lb w ha hb
  rw [he, eqG_refl] at this
  exact this

theorem doG_not {L : List ValD} {k a b n : Int} (h : opOk k a b n = false) : doG L k a b n = L := by
  rcases op_ways k a b n with ⟨_, e, _⟩ | ⟨_, e, _⟩ | ⟨_, e, _⟩ | ⟨h1, h2, h3, _⟩
  · rw [h] at e; cases e
  · rw [h] at e; cases e
  · rw [h] at e; cases e
  · rw [doG, if_neg h1, if_neg h2, if_neg h3]
theorem RdG.at24 {w : World} {g cap j : Nat} {M : List ValD} (h : RdG w (.slice (some ⟨g, 0, none⟩) 24 cap) M) (hj : j < 24) :
    ∃ u, w.cell? ⟨g, j * 2, none⟩ = some (.int .i64 (M.getD j valD0).1) ∧ w.cell? ⟨g, j * 2 + 1, none⟩ = some u ∧ Rd w u (M.getD j valD0).2 := by
  obtain ⟨ao, cp, hv, _, hc⟩ := h
  injection hv with h1 h2 h3
  subst h1
  obtain ⟨b, off, hb, _, hcc⟩ := hc (by omega)
  cases hb
  obtain ⟨c0, u, c1, hu⟩ := hcc j (by omega)
  rw [Nat.zero_add] at c0 c1
  exact ⟨u, c0, c1, hu⟩
theorem isame_is {x y : ValD} {u v : Value} {w : World} (hu : Rd w u x.2) (hv : Rd w v y.2) (e : x = y) :
    Calls Tryz.prog 15 #[.agg #[.int .i64 x.1, u], .agg #[.int .i64 y.1, v]] w fun e w' => e = .returned (.bool true) ∧ Below w.heap.size w w' := by
  have := isame_two x y u v w hu hv
  rw [eqD_iff.2 e] at this
  exact this
end Go.Proofs.YtkmhnjgncnoddaaGreat
