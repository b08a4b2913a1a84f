/-
  No cell of these rows narrows 'for every input' (looked for: loops, veiled, ifaces, maps, wideKeys, modest, calm, conditions, laid).
  DERIVED. THE GIVEN ROWS OF THIS SEAT. 2 by the template 'for every input the law returns true; each argument reads behind the call as it read before'; 0 by the template 'total and deterministic' (their statements: YtkmhnjgncnoddaaTotals.lean).
  GIVEN WITH THE SEED: the statements are not yours to turn. If you find one false, say at which input.
  Laid BY PROGRAM, IN A SANDBOX (cutbox-rows.mjs): the forced cells as the released guide's own fill.sh prints them over the translation 98c44c55b1012ed2… (all of the seat's roots in one cut). By AI agents, Wed Nov 11 2026. No macro, syntax, notation, axiom, sorry.
-/
import Derived.Test.YtkmhnjgncnoddaaChecked
import GoSem.Claim
import GoSem.ClaimJoined
import GoSem.ClaimMapViews
import Derived.JoinedTies
import Derived.KernelRfl
namespace Go.Proofs.Ytkmhnjgncnoddaa
/- THE CELL 'sum', in the pinned program and in every row, IS THE sha256 OF THE DUMP (.gsa) THAT YtkmhnjgncnoddaaProg.lean LOADS. Nothing in Lean hashes anything: it is a label: what it is worth is what the hold of that sum in a sandbox is worth. -/
noncomputable def Try.pinned : Pinned := { name := "ytkmhnjgncnoddaa", sum := "98c44c55b1012ed29866ed6982b506983acc0c60745189445c4c8d4ddbbd2b6c", checked := Try.checked }
namespace Rows
def none {H : Type} : Left H := { results := [], args := [] }

/-- 'laws.FnGraphOrder': WHATEVER THE INPUT: true; the input reads as it did. -/
def fnGraphOrderSpec : ChangeSpec := { name := "fnGraphOrder", fn := fun _ => fun
  | [d1, d2] => { results := [.lit (.bool true)], args := [d1, d2] }
  | _ => none }
def fnGraphOrderRow : OpenClaim := { program := "ytkmhnjgncnoddaa", sum := "98c44c55b1012ed29866ed6982b506983acc0c60745189445c4c8d4ddbbd2b6c", func := "loop.example/kith/laws.FnGraphOrder", spec := "fnGraphOrder", inPlace := ["slices.overlaps[loop.example/kith/impl.Edge]"], unfollowed := true, recurses := true, apart := false }
def FnGraphOrderSaid : Prop := fnGraphOrderRow.holds Try.pinned (OpenSpec.ofChange fnGraphOrderSpec)

/-- ITS FALSE NEIGHBOUR: 'it returns false'. Refute it at one input. -/
def fnGraphOrderWrong : ChangeSpec := { name := "fnGraphOrder", fn := fun _ => fun
  | [d1, d2] => { results := [.lit (.bool false)], args := [d1, d2] }
  | _ => none }
def FnGraphOrderWrongFalsely : Prop := fnGraphOrderRow.holds Try.pinned (OpenSpec.ofChange fnGraphOrderWrong)

/-- 'laws.FnExactShardSame': WHATEVER THE INPUT: true; the input reads as it did. -/
def fnExactShardSameSpec : ChangeSpec := { name := "fnExactShardSame", fn := fun _ => fun
  | [d1, d2] => { results := [.lit (.bool true)], args := [d1, d2] }
  | _ => none }
def fnExactShardSameRow : OpenClaim := { program := "ytkmhnjgncnoddaa", sum := "98c44c55b1012ed29866ed6982b506983acc0c60745189445c4c8d4ddbbd2b6c", func := "loop.example/kith/laws.FnExactShardSame", spec := "fnExactShardSame", unfollowed := true, recurses := true, apart := false }
def FnExactShardSameSaid : Prop := fnExactShardSameRow.holds Try.pinned (OpenSpec.ofChange fnExactShardSameSpec)

/-- ITS FALSE NEIGHBOUR: 'it returns false'. Refute it at one input. -/
def fnExactShardSameWrong : ChangeSpec := { name := "fnExactShardSame", fn := fun _ => fun
  | [d1, d2] => { results := [.lit (.bool false)], args := [d1, d2] }
  | _ => none }
def FnExactShardSameWrongFalsely : Prop := fnExactShardSameRow.holds Try.pinned (OpenSpec.ofChange fnExactShardSameWrong)

/- THE SECOND FORM. 'bulk': how many values and letters a reading holds, each counted each time it is reached (what is shared counts as often as it is met; a slice's spare places count too). A statement '..UptoSaid' is the law's where the arguments, and the package variables that the reading takes, are together of bulk at most 1048576: NARROWER than '..Said'. Prove '..Said' where nothing that the law and all that it calls make is longer than what came in: it says more and counts as full. Else prove '..UptoSaid'. A law counts once. -/
mutual
def uptoBulk {H : Type} : DataW H → Nat
  | .lit (.string bytes) => bytes.length + 1
  | .lit _ => 1
  | .nil => 1
  | .ptr d => uptoBulk d + 1
  | .slice elems spare => uptoBulkAll elems + uptoBulkAll spare + 1
  | .agg parts => uptoBulkAll parts + 1
  | .iface _ d => uptoBulk d + 1
  | .map entries => uptoBulkEntries entries + 1
  | .held _ => 1
def uptoBulkAll {H : Type} : List (DataW H) → Nat
  | [] => 0
  | d :: r => uptoBulk d + uptoBulkAll r
def uptoBulkEntries {H : Type} : List (Lit × DataW H) → Nat
  | [] => 0
  | x :: r => uptoBulkEntry x + uptoBulkEntries r
def uptoBulkEntry {H : Type} : Lit × DataW H → Nat
  | (.string bytes, d) => bytes.length + uptoBulk d + 1
  | (_, d) => uptoBulk d + 1
 end
def uptoSmall : (H : Type) → List (DataW H) → Bool := fun _ ds => decide (uptoBulkAll ds ≤ 1048576)
def OpenSpec.upto (s : _root_.Go.ChangeSpec) : _root_.Go.OpenSpec := { _root_.Go.OpenSpec.ofChange s with cond := some uptoSmall }

/-- 'laws.FnGraphOrder', WHERE WHAT IT READS IS OF BULK AT MOST 1048576: true; the input reads as it did. -/
def fnGraphOrderUptoRow : OpenClaim := { program := "ytkmhnjgncnoddaa", sum := "98c44c55b1012ed29866ed6982b506983acc0c60745189445c4c8d4ddbbd2b6c", func := "loop.example/kith/laws.FnGraphOrder", spec := "fnGraphOrder", inPlace := ["slices.overlaps[loop.example/kith/impl.Edge]"], unfollowed := true, recurses := true, apart := false, narrowed := true }
def FnGraphOrderUptoSaid : Prop := fnGraphOrderUptoRow.holds Try.pinned (OpenSpec.upto fnGraphOrderSpec)

/-- 'laws.FnExactShardSame', WHERE WHAT IT READS IS OF BULK AT MOST 1048576: true; the input reads as it did. -/
def fnExactShardSameUptoRow : OpenClaim := { program := "ytkmhnjgncnoddaa", sum := "98c44c55b1012ed29866ed6982b506983acc0c60745189445c4c8d4ddbbd2b6c", func := "loop.example/kith/laws.FnExactShardSame", spec := "fnExactShardSame", unfollowed := true, recurses := true, apart := false, narrowed := true }
def FnExactShardSameUptoSaid : Prop := fnExactShardSameUptoRow.holds Try.pinned (OpenSpec.upto fnExactShardSameSpec)

end Rows
end Go.Proofs.Ytkmhnjgncnoddaa
