/- Rows of numbers that are owned. -/
import Derived.Test.YtanfmgigpiljpaaGrA
namespace Go.Proofs.Ytanfmgigpiljpaa
open Go.RowKit

/-- A row of numbers that is owned. -/
def ints (ns : List Int) : List Value := ns.map (Value.int .i64)
theorem ints_length (ns : List Int) : (ints ns).length = ns.length := by simp [ints]
def OwnI (w : World) (B : Nat) (v : Value) (ns : List Int) : Prop := w.ownsRow B 3 1 v ns.length (ints ns)
theorem OwnI.block {w : World} {B : Nat} {v : Value} {ns : List Int} (h : OwnI w B v ns) : ∀ k, v.ownBlock = some k → B ≤ k ∧ k < w.heap.size := World.ownsRow.lt h
theorem OwnI.agree {w w' : World} {B : Nat} {v : Value} {ns : List Int} (h : OwnI w B v ns) (hs : ∀ k, v.ownBlock = some k → w'.heap[k]? = w.heap[k]?) : OwnI w' B v ns := row_agree h hs
theorem OwnI.later {w w' : World} {B : Nat} {v : Value} {ns : List Int} (h : OwnI w B v ns) (hb : Below w.heap.size w w') : OwnI w' B v ns := h.agree fun k hk => hb.block k (h.block k hk).2
/-- The numbers as elements. -/
def kdI (ns : List Int) : List KD := ns.map fun n => ([n], [])
theorem kdI_length (ns : List Int) : (kdI ns).length = ns.length := by simp [kdI]
theorem kdI_get (ns : List Int) (i : Nat) (h : i < ns.length) : (kdI ns).getD i kd0 = ([ns.getD i 0], []) := by simp [kdI, h]
theorem OwnI.ownM {w : World} {B : Nat} {v : Value} {ns : List Int} (h : OwnI w B v ns) : OwnM 3 1 1 false w (Span B w.heap.size) v (kdI ns) := by
  refine ⟨ints ns, fun _ => .bool false, by rw [kdI_length]; exact row_mono0 h, fun g hg => h.block g hg, ?_⟩
  rw [kdI_length]
  refine ⟨fun i hi => by rw [kdI_get ns i hi]; rfl, fun i hi j hj => ?_, (fun q => by cases q), fun _ i hi => by rw [kdI_get ns i hi], (fun q => by cases q)⟩
  obtain rfl : j = 0 := by omega
  rw [kdI_get ns i hi]
  simp [ints, hi]
theorem kdI_inj {a b : List Int} (h : kdI a = kdI b) : a = b := by
  have := congrArg (List.map fun x : KD => x.1.getD 0 0) h
  simpa [kdI, Function.comp_def] using this

theorem OwnI.at {w : World} {B n c : Nat} {o : Option Addr} {ns : List Int} (h : OwnI w B (.slice o n c) ns) (k : Nat) (hk : k < ns.length) : ∃ g, o = some ⟨g, 0, none⟩ ∧ w.cell? ⟨g, k, none⟩ = some (.int .i64 (ns.getD k 0)) ∧ g < w.heap.size := by
  have h0 : w.ownsRow B 3 1 (.slice o n c) ns.length (ints ns) := h
  rcases h0.2 with ⟨_, hn⟩ | ⟨g, cap, cur, hv, hb, hg, _⟩
  · omega
  · injection hv with e1 e2 e3
    subst e1 e2
    refine ⟨g, rfl, ?_, (Array.getElem?_eq_some_iff.1 hg).1⟩
    rw [World.ownsRow.cellAt h0 k (by omega)]
    simp [ints, hk]
theorem Try.infoInt_T : (Try.prog.info? 3).map (fun i => (i.zero, i.size, i.bytes)) = some (some (.int .i64 0), 1, 8) := by kernel_rfl
end Go.Proofs.Ytanfmgigpiljpaa
