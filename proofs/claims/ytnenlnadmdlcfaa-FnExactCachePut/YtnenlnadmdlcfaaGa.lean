/- impl.gatherEdges over an iterator that keeps its word: contract. -/
import Derived.Test.YtnenlnadmdlcfaaIt
import Derived.Test.YtnenlnadmdlcfaaTo
namespace Go.Proofs.Ytnenlnadmdlcfaa
open Go.RowKit Go.Shelf
attribute [local go_sem] Oper.semAt_some

theorem cells_two_new (w : World) (a b : Value) (t : TypeId) : ∀ j u, [a, b][j]? = some u → (w.alloc (.cells #[a, b] t)).cell? ((⟨w.heap.size, 0, none⟩ : Addr).add j) = some u := by
  intro j u h
  match j, h with
  | 0, h => simp at h; subst h; simp [Addr.add, go_sem]
  | 1, h => simp at h; subst h; simp [Addr.add, go_sem]
  | j + 2, h => simp at h

/-- A pair lies in a block. -/
def PairAt (W : World) (B : Nat) (x : Int × Int) : Prop := W.heap[B]? = some (.cells #[.int .i64 x.1, .int .i64 x.2] 62 (0, 0))
theorem PairAt.new (W : World) (x : Int × Int) : PairAt (W.alloc (.cells #[.int .i64 x.1, .int .i64 x.2] 62)) W.heap.size x := World.alloc_heap_new W _
theorem PairAt.c0 {W : World} {B : Nat} {x : Int × Int} (h : PairAt W B x) : W.cell? ⟨B, 0, none⟩ = some (.int .i64 x.1) := by simp [World.cell?, show W.heap[B]? = _ from h]
theorem PairAt.c1 {W : World} {B : Nat} {x : Int × Int} (h : PairAt W B x) : W.cell? ⟨B, 1, none⟩ = some (.int .i64 x.2) := by simp [World.cell?, show W.heap[B]? = _ from h]
theorem PairAt.ownFrom (B0 B : Nat) (x : Int × Int) : OwnFrom B0 (fun (_ : Unit) W => PairAt W B x) := by
  intro _ W W' row hs hg hr
  have hlt : B < W.heap.size := (Array.getElem?_eq_some_iff.1 hs).1
  refine (hg.block B hlt (fun e => ?_)).trans hs
  obtain ⟨_, o, ho, hc⟩ := hr B e.symm
  rw [show W.heap[B]? = _ from hs] at ho
  cases ho
  cases hc

theorem rowbox_ownFrom (B0 n0 B : Nat) (xs : List (Int × Int)) : OwnFrom B0 (fun (_ : Unit) W => ∃ v, Boxed W B 27 v ∧ W.ownsRow n0 62 2 v xs.length (ecells xs)) := by
  intro _ A A' row hs hg hr
  obtain ⟨v, h1, h2⟩ := hs
  obtain ⟨v', h1', h2', _⟩ := holdsRow_own n0 B 27 62 2 (fun pre => pre.length) ecells (fun _ _ => True) xs A A' row ⟨v, h1, h2, trivial⟩ hg (fun r e => (hr r e).2)
  exact ⟨v', h1', h2'⟩

end Go.Proofs.Ytnenlnadmdlcfaa
