/-
  No cell of these rows narrows 'for every input' (looked for: loops, veiled, ifaces, maps, wideKeys, modest, calm, conditions, laid).
  DERIVED. THE GIVEN ROWS OF THIS SEAT. 4 by the template 'for every input the law returns true; each argument reads behind the call as it read before'; 0 by the template 'total and deterministic' (their statements: YtkmhnjgncnoddaaGreatTotals.lean).
  GIVEN WITH THE SEED: the statements are not yours to turn. If you find one false, say at which input.
  Laid BY PROGRAM, IN A SANDBOX (cutbox-rows.mjs): the forced cells as the released guide's own fill.sh prints them over the translation dfac46d8d6367ff7… (all of the seat's roots in one cut). By AI agents, Wed Nov 11 2026. No macro, syntax, notation, axiom, sorry.
-/
import Derived.Test.YtkmhnjgncnoddaaGreatChecked
import GoSem.Claim
import GoSem.ClaimJoined
import GoSem.ClaimMapViews
import Derived.JoinedTies
import Derived.KernelRfl
namespace Go.Proofs.YtkmhnjgncnoddaaGreat
/- THE CELL 'sum', in the pinned program and in every row, IS THE sha256 OF THE DUMP (.gsa) THAT YtkmhnjgncnoddaaGreatProg.lean LOADS. Nothing in Lean hashes anything: it is a label: what it is worth is what the hold of that sum in a sandbox is worth. -/
noncomputable def Tryz.pinned : Pinned := { name := "ytkmhnjgncnoddaagreat", sum := "dfac46d8d6367ff75b838e2ef1a2531671e0303590591897d1f159b241cc41c0", checked := Tryz.checked }
namespace Rows
def none {H : Type} : Left H := { results := [], args := [] }

/-- 'laws.FnGraph': WHATEVER THE INPUT: true; the input reads as it did. -/
def fnGraphSpec : ChangeSpec := { name := "fnGraph", fn := fun _ => fun
  | [d] => { results := [.lit (.bool true)], args := [d] }
  | _ => none }
def fnGraphRow : OpenClaim := { program := "ytkmhnjgncnoddaagreat", sum := "dfac46d8d6367ff75b838e2ef1a2531671e0303590591897d1f159b241cc41c0", func := "loop.example/kith/laws.FnGraph", spec := "fnGraph", inPlace := ["slices.overlaps[loop.example/kith/impl.Edge]"], unfollowed := true, recurses := true, plainKeys := false, apart := false }
def FnGraphSaid : Prop := fnGraphRow.holds Tryz.pinned (OpenSpec.ofChange fnGraphSpec)

/-- ITS FALSE NEIGHBOUR: 'it returns false'. Refute it at one input. -/
def fnGraphWrong : ChangeSpec := { name := "fnGraph", fn := fun _ => fun
  | [d] => { results := [.lit (.bool false)], args := [d] }
  | _ => none }
def FnGraphWrongFalsely : Prop := fnGraphRow.holds Tryz.pinned (OpenSpec.ofChange fnGraphWrong)

/-- 'laws.FnExactGraphDo': WHATEVER THE INPUT: true; the input reads as it did. -/
def fnExactGraphDoSpec : ChangeSpec := { name := "fnExactGraphDo", fn := fun _ => fun
  | [d1, d2] => { results := [.lit (.bool true)], args := [d1, d2] }
  | _ => none }
def fnExactGraphDoRow : OpenClaim := { program := "ytkmhnjgncnoddaagreat", sum := "dfac46d8d6367ff75b838e2ef1a2531671e0303590591897d1f159b241cc41c0", func := "loop.example/kith/laws.FnExactGraphDo", spec := "fnExactGraphDo", inPlace := ["slices.overlaps[loop.example/kith/impl.Edge]"], unfollowed := true, recurses := true, plainKeys := false, apart := false }
def FnExactGraphDoSaid : Prop := fnExactGraphDoRow.holds Tryz.pinned (OpenSpec.ofChange fnExactGraphDoSpec)

/-- ITS FALSE NEIGHBOUR: 'it returns false'. Refute it at one input. -/
def fnExactGraphDoWrong : ChangeSpec := { name := "fnExactGraphDo", fn := fun _ => fun
  | [d1, d2] => { results := [.lit (.bool false)], args := [d1, d2] }
  | _ => none }
def FnExactGraphDoWrongFalsely : Prop := fnExactGraphDoRow.holds Tryz.pinned (OpenSpec.ofChange fnExactGraphDoWrong)

/-- 'laws.FnExactShardOk': WHATEVER THE INPUT: true; the input reads as it did. -/
def fnExactShardOkSpec : ChangeSpec := { name := "fnExactShardOk", fn := fun _ => fun
  | [d] => { results := [.lit (.bool true)], args := [d] }
  | _ => none }
def fnExactShardOkRow : OpenClaim := { program := "ytkmhnjgncnoddaagreat", sum := "dfac46d8d6367ff75b838e2ef1a2531671e0303590591897d1f159b241cc41c0", func := "loop.example/kith/laws.FnExactShardOk", spec := "fnExactShardOk", unfollowed := true, recurses := true, plainKeys := false, apart := false }
def FnExactShardOkSaid : Prop := fnExactShardOkRow.holds Tryz.pinned (OpenSpec.ofChange fnExactShardOkSpec)

/-- ITS FALSE NEIGHBOUR: 'it returns false'. Refute it at one input. -/
def fnExactShardOkWrong : ChangeSpec := { name := "fnExactShardOk", fn := fun _ => fun
  | [d] => { results := [.lit (.bool false)], args := [d] }
  | _ => none }
def FnExactShardOkWrongFalsely : Prop := fnExactShardOkRow.holds Tryz.pinned (OpenSpec.ofChange fnExactShardOkWrong)

/-- 'laws.FnExactShardFence': WHATEVER THE INPUT: true; the input reads as it did. -/
def fnExactShardFenceSpec : ChangeSpec := { name := "fnExactShardFence", fn := fun _ => fun
  | [d1, d2] => { results := [.lit (.bool true)], args := [d1, d2] }
  | _ => none }
def fnExactShardFenceRow : OpenClaim := { program := "ytkmhnjgncnoddaagreat", sum := "dfac46d8d6367ff75b838e2ef1a2531671e0303590591897d1f159b241cc41c0", func := "loop.example/kith/laws.FnExactShardFence", spec := "fnExactShardFence", unfollowed := true, recurses := true, plainKeys := false, apart := false }
def FnExactShardFenceSaid : Prop := fnExactShardFenceRow.holds Tryz.pinned (OpenSpec.ofChange fnExactShardFenceSpec)

/-- ITS FALSE NEIGHBOUR: 'it returns false'. Refute it at one input. -/
def fnExactShardFenceWrong : ChangeSpec := { name := "fnExactShardFence", fn := fun _ => fun
  | [d1, d2] => { results := [.lit (.bool false)], args := [d1, d2] }
  | _ => none }
def FnExactShardFenceWrongFalsely : Prop := fnExactShardFenceRow.holds Tryz.pinned (OpenSpec.ofChange fnExactShardFenceWrong)

/- THE SECOND FORM. 'bulk': how many values and letters a reading holds, each counted each time it is reached (what is shared counts as often as it is met; a slice's spare places count too). A statement '..UptoSaid' is the law's where the arguments, and the package variables that the reading takes, are together of bulk at most 1048576: NARROWER than '..Said'. Prove '..Said' where nothing that the law and all that it calls make is longer than what came in: it says more and counts as full. Else prove '..UptoSaid'. A law counts once. -/
mutual
def uptoBulk {H : Type} : DataW H → Nat
  | .lit (.string bytes) => bytes.length + 1
  | .lit _ => 1
  | .nil => 1
  | .ptr d => uptoBulk d + 1
  | .slice elems spare => uptoBulkAll elems + uptoBulkAll spare + 1
  | .agg parts => uptoBulkAll parts + 1
  | .iface _ d => uptoBulk d + 1
  | .map entries => uptoBulkEntries entries + 1
  | .held _ => 1
def uptoBulkAll {H : Type} : List (DataW H) → Nat
  | [] => 0
  | d :: r => uptoBulk d + uptoBulkAll r
def uptoBulkEntries {H : Type} : List (Lit × DataW H) → Nat
  | [] => 0
  | x :: r => uptoBulkEntry x + uptoBulkEntries r
def uptoBulkEntry {H : Type} : Lit × DataW H → Nat
  | (.string bytes, d) => bytes.length + uptoBulk d + 1
  | (_, d) => uptoBulk d + 1
 end
def uptoSmall : (H : Type) → List (DataW H) → Bool := fun _ ds => decide (uptoBulkAll ds ≤ 1048576)
def OpenSpec.upto (s : _root_.Go.ChangeSpec) : _root_.Go.OpenSpec := { _root_.Go.OpenSpec.ofChange s with cond := some uptoSmall }

/-- 'laws.FnGraph', WHERE WHAT IT READS IS OF BULK AT MOST 1048576: true; the input reads as it did. -/
def fnGraphUptoRow : OpenClaim := { program := "ytkmhnjgncnoddaagreat", sum := "dfac46d8d6367ff75b838e2ef1a2531671e0303590591897d1f159b241cc41c0", func := "loop.example/kith/laws.FnGraph", spec := "fnGraph", inPlace := ["slices.overlaps[loop.example/kith/impl.Edge]"], unfollowed := true, recurses := true, plainKeys := false, apart := false, narrowed := true }
def FnGraphUptoSaid : Prop := fnGraphUptoRow.holds Tryz.pinned (OpenSpec.upto fnGraphSpec)

/-- 'laws.FnExactGraphDo', WHERE WHAT IT READS IS OF BULK AT MOST 1048576: true; the input reads as it did. -/
def fnExactGraphDoUptoRow : OpenClaim := { program := "ytkmhnjgncnoddaagreat", sum := "dfac46d8d6367ff75b838e2ef1a2531671e0303590591897d1f159b241cc41c0", func := "loop.example/kith/laws.FnExactGraphDo", spec := "fnExactGraphDo", inPlace := ["slices.overlaps[loop.example/kith/impl.Edge]"], unfollowed := true, recurses := true, plainKeys := false, apart := false, narrowed := true }
def FnExactGraphDoUptoSaid : Prop := fnExactGraphDoUptoRow.holds Tryz.pinned (OpenSpec.upto fnExactGraphDoSpec)

/-- 'laws.FnExactShardOk', WHERE WHAT IT READS IS OF BULK AT MOST 1048576: true; the input reads as it did. -/
def fnExactShardOkUptoRow : OpenClaim := { program := "ytkmhnjgncnoddaagreat", sum := "dfac46d8d6367ff75b838e2ef1a2531671e0303590591897d1f159b241cc41c0", func := "loop.example/kith/laws.FnExactShardOk", spec := "fnExactShardOk", unfollowed := true, recurses := true, plainKeys := false, apart := false, narrowed := true }
def FnExactShardOkUptoSaid : Prop := fnExactShardOkUptoRow.holds Tryz.pinned (OpenSpec.upto fnExactShardOkSpec)

/-- 'laws.FnExactShardFence', WHERE WHAT IT READS IS OF BULK AT MOST 1048576: true; the input reads as it did. -/
def fnExactShardFenceUptoRow : OpenClaim := { program := "ytkmhnjgncnoddaagreat", sum := "dfac46d8d6367ff75b838e2ef1a2531671e0303590591897d1f159b241cc41c0", func := "loop.example/kith/laws.FnExactShardFence", spec := "fnExactShardFence", unfollowed := true, recurses := true, plainKeys := false, apart := false, narrowed := true }
def FnExactShardFenceUptoSaid : Prop := fnExactShardFenceUptoRow.holds Tryz.pinned (OpenSpec.upto fnExactShardFenceSpec)

end Rows
end Go.Proofs.YtkmhnjgncnoddaaGreat
