/-
  No cell of these rows narrows 'for every input' (looked for: loops, veiled, ifaces, maps, wideKeys, modest, calm, conditions, laid).
  DERIVED. THE GIVEN ROWS OF THIS SEAT. 4 by the template 'for every input the law returns true; each argument reads behind the call as it read before'; 0 by the template 'total and deterministic' (their statements: YtdcendbfkjmfjaaTotals.lean).
  GIVEN WITH THE SEED: the statements are not yours to turn. If you find one false, say at which input.
  Laid BY PROGRAM, IN A SANDBOX (cutbox-rows.mjs): the forced cells as the released guide's own fill.sh prints them over the translation 2edc415fd1bc344e… (all of the seat's roots in one cut). By AI agents, Wed Nov 11 2026. No macro, syntax, notation, axiom, sorry.
-/
import Derived.Test.YtdcendbfkjmfjaaChecked
import GoSem.Claim
import GoSem.ClaimJoined
import GoSem.ClaimMapViews
import Derived.JoinedTies
import Derived.KernelRfl
namespace Go.Proofs.Ytdcendbfkjmfjaa
/- THE CELL 'sum', in the pinned program and in every row, IS THE sha256 OF THE DUMP (.gsa) THAT YtdcendbfkjmfjaaProg.lean LOADS. Nothing in Lean hashes anything: it is a label: what it is worth is what the hold of that sum in a sandbox is worth. -/
noncomputable def Try.pinned : Pinned := { name := "ytdcendbfkjmfjaa", sum := "2edc415fd1bc344e38279ff1099fa54c7c0e1479e32123a47cf4d69bb1f11363", checked := Try.checked }
namespace Rows
def none {H : Type} : Left H := { results := [], args := [] }

/-- 'laws.FnEdge': WHATEVER THE INPUT: true; the input reads as it did. -/
def fnEdgeSpec : ChangeSpec := { name := "fnEdge", fn := fun _ => fun
  | [d] => { results := [.lit (.bool true)], args := [d] }
  | _ => none }
def fnEdgeRow : OpenClaim := { program := "ytdcendbfkjmfjaa", sum := "2edc415fd1bc344e38279ff1099fa54c7c0e1479e32123a47cf4d69bb1f11363", func := "loop.example/kith/laws.FnEdge", spec := "fnEdge", inPlace := ["slices.overlaps[loop.example/kith/impl.Edge]"], unfollowed := true, recurses := true, apart := false }
def FnEdgeSaid : Prop := fnEdgeRow.holds Try.pinned (OpenSpec.ofChange fnEdgeSpec)

/-- ITS FALSE NEIGHBOUR: 'it returns false'. Refute it at one input. -/
def fnEdgeWrong : ChangeSpec := { name := "fnEdge", fn := fun _ => fun
  | [d] => { results := [.lit (.bool false)], args := [d] }
  | _ => none }
def FnEdgeWrongFalsely : Prop := fnEdgeRow.holds Try.pinned (OpenSpec.ofChange fnEdgeWrong)

/-- 'laws.FnEdgeOrder': WHATEVER THE INPUT: true; the input reads as it did. -/
def fnEdgeOrderSpec : ChangeSpec := { name := "fnEdgeOrder", fn := fun _ => fun
  | [d1, d2] => { results := [.lit (.bool true)], args := [d1, d2] }
  | _ => none }
def fnEdgeOrderRow : OpenClaim := { program := "ytdcendbfkjmfjaa", sum := "2edc415fd1bc344e38279ff1099fa54c7c0e1479e32123a47cf4d69bb1f11363", func := "loop.example/kith/laws.FnEdgeOrder", spec := "fnEdgeOrder", inPlace := ["slices.overlaps[loop.example/kith/impl.Edge]"], unfollowed := true, recurses := true, apart := false }
def FnEdgeOrderSaid : Prop := fnEdgeOrderRow.holds Try.pinned (OpenSpec.ofChange fnEdgeOrderSpec)

/-- ITS FALSE NEIGHBOUR: 'it returns false'. Refute it at one input. -/
def fnEdgeOrderWrong : ChangeSpec := { name := "fnEdgeOrder", fn := fun _ => fun
  | [d1, d2] => { results := [.lit (.bool false)], args := [d1, d2] }
  | _ => none }
def FnEdgeOrderWrongFalsely : Prop := fnEdgeOrderRow.holds Try.pinned (OpenSpec.ofChange fnEdgeOrderWrong)

/-- 'laws.FnEdgeHas': WHATEVER THE INPUT: true; the input reads as it did. -/
def fnEdgeHasSpec : ChangeSpec := { name := "fnEdgeHas", fn := fun _ => fun
  | [d] => { results := [.lit (.bool true)], args := [d] }
  | _ => none }
def fnEdgeHasRow : OpenClaim := { program := "ytdcendbfkjmfjaa", sum := "2edc415fd1bc344e38279ff1099fa54c7c0e1479e32123a47cf4d69bb1f11363", func := "loop.example/kith/laws.FnEdgeHas", spec := "fnEdgeHas", unfollowed := true, recurses := true, apart := false }
def FnEdgeHasSaid : Prop := fnEdgeHasRow.holds Try.pinned (OpenSpec.ofChange fnEdgeHasSpec)

/-- ITS FALSE NEIGHBOUR: 'it returns false'. Refute it at one input. -/
def fnEdgeHasWrong : ChangeSpec := { name := "fnEdgeHas", fn := fun _ => fun
  | [d] => { results := [.lit (.bool false)], args := [d] }
  | _ => none }
def FnEdgeHasWrongFalsely : Prop := fnEdgeHasRow.holds Try.pinned (OpenSpec.ofChange fnEdgeHasWrong)

/-- 'laws.FnKey': WHATEVER THE INPUT: true; the input reads as it did. -/
def fnKeySpec : ChangeSpec := { name := "fnKey", fn := fun _ => fun
  | [d] => { results := [.lit (.bool true)], args := [d] }
  | _ => none }
def fnKeyRow : OpenClaim := { program := "ytdcendbfkjmfjaa", sum := "2edc415fd1bc344e38279ff1099fa54c7c0e1479e32123a47cf4d69bb1f11363", func := "loop.example/kith/laws.FnKey", spec := "fnKey", apart := false }
def FnKeySaid : Prop := fnKeyRow.holds Try.pinned (OpenSpec.ofChange fnKeySpec)

/-- ITS FALSE NEIGHBOUR: 'it returns false'. Refute it at one input. -/
def fnKeyWrong : ChangeSpec := { name := "fnKey", fn := fun _ => fun
  | [d] => { results := [.lit (.bool false)], args := [d] }
  | _ => none }
def FnKeyWrongFalsely : Prop := fnKeyRow.holds Try.pinned (OpenSpec.ofChange fnKeyWrong)

/- THE SECOND FORM. 'bulk': how many values and letters a reading holds, each counted each time it is reached (what is shared counts as often as it is met; a slice's spare places count too). A statement '..UptoSaid' is the law's where the arguments, and the package variables that the reading takes, are together of bulk at most 1048576: NARROWER than '..Said'. Prove '..Said' where nothing that the law and all that it calls make is longer than what came in: it says more and counts as full. Else prove '..UptoSaid'. A law counts once. -/
mutual
def uptoBulk {H : Type} : DataW H → Nat
  | .lit (.string bytes) => bytes.length + 1
  | .lit _ => 1
  | .nil => 1
  | .ptr d => uptoBulk d + 1
  | .slice elems spare => uptoBulkAll elems + uptoBulkAll spare + 1
  | .agg parts => uptoBulkAll parts + 1
  | .iface _ d => uptoBulk d + 1
  | .map entries => uptoBulkEntries entries + 1
  | .held _ => 1
def uptoBulkAll {H : Type} : List (DataW H) → Nat
  | [] => 0
  | d :: r => uptoBulk d + uptoBulkAll r
def uptoBulkEntries {H : Type} : List (Lit × DataW H) → Nat
  | [] => 0
  | x :: r => uptoBulkEntry x + uptoBulkEntries r
def uptoBulkEntry {H : Type} : Lit × DataW H → Nat
  | (.string bytes, d) => bytes.length + uptoBulk d + 1
  | (_, d) => uptoBulk d + 1
 end
def uptoSmall : (H : Type) → List (DataW H) → Bool := fun _ ds => decide (uptoBulkAll ds ≤ 1048576)
def OpenSpec.upto (s : _root_.Go.ChangeSpec) : _root_.Go.OpenSpec := { _root_.Go.OpenSpec.ofChange s with cond := some uptoSmall }

/-- 'laws.FnEdge', WHERE WHAT IT READS IS OF BULK AT MOST 1048576: true; the input reads as it did. -/
def fnEdgeUptoRow : OpenClaim := { program := "ytdcendbfkjmfjaa", sum := "2edc415fd1bc344e38279ff1099fa54c7c0e1479e32123a47cf4d69bb1f11363", func := "loop.example/kith/laws.FnEdge", spec := "fnEdge", inPlace := ["slices.overlaps[loop.example/kith/impl.Edge]"], unfollowed := true, recurses := true, apart := false, narrowed := true }
def FnEdgeUptoSaid : Prop := fnEdgeUptoRow.holds Try.pinned (OpenSpec.upto fnEdgeSpec)

/-- 'laws.FnEdgeOrder', WHERE WHAT IT READS IS OF BULK AT MOST 1048576: true; the input reads as it did. -/
def fnEdgeOrderUptoRow : OpenClaim := { program := "ytdcendbfkjmfjaa", sum := "2edc415fd1bc344e38279ff1099fa54c7c0e1479e32123a47cf4d69bb1f11363", func := "loop.example/kith/laws.FnEdgeOrder", spec := "fnEdgeOrder", inPlace := ["slices.overlaps[loop.example/kith/impl.Edge]"], unfollowed := true, recurses := true, apart := false, narrowed := true }
def FnEdgeOrderUptoSaid : Prop := fnEdgeOrderUptoRow.holds Try.pinned (OpenSpec.upto fnEdgeOrderSpec)

/-- 'laws.FnEdgeHas', WHERE WHAT IT READS IS OF BULK AT MOST 1048576: true; the input reads as it did. -/
def fnEdgeHasUptoRow : OpenClaim := { program := "ytdcendbfkjmfjaa", sum := "2edc415fd1bc344e38279ff1099fa54c7c0e1479e32123a47cf4d69bb1f11363", func := "loop.example/kith/laws.FnEdgeHas", spec := "fnEdgeHas", unfollowed := true, recurses := true, apart := false, narrowed := true }
def FnEdgeHasUptoSaid : Prop := fnEdgeHasUptoRow.holds Try.pinned (OpenSpec.upto fnEdgeHasSpec)

/-- 'laws.FnKey', WHERE WHAT IT READS IS OF BULK AT MOST 1048576: true; the input reads as it did. -/
def fnKeyUptoRow : OpenClaim := { program := "ytdcendbfkjmfjaa", sum := "2edc415fd1bc344e38279ff1099fa54c7c0e1479e32123a47cf4d69bb1f11363", func := "loop.example/kith/laws.FnKey", spec := "fnKey", apart := false, narrowed := true }
def FnKeyUptoSaid : Prop := fnKeyUptoRow.holds Try.pinned (OpenSpec.upto fnKeySpec)

end Rows
end Go.Proofs.Ytdcendbfkjmfjaa
