/-
  No cell of these rows narrows 'for every input' (looked for: loops, veiled, ifaces, maps, wideKeys, modest, calm, conditions, laid).
  DERIVED. THE GIVEN ROWS OF THIS SEAT. 3 by the template 'for every input the law returns true; each argument reads behind the call as it read before'; 0 by the template 'total and deterministic' (their statements: YtdcendbfkjmfjabTotals.lean).
  GIVEN WITH THE SEED: the statements are not yours to turn. If you find one false, say at which input.
  Laid BY PROGRAM, IN A SANDBOX (cutbox-rows.mjs): the forced cells as the released guide's own fill.sh prints them over the translation 830301fe89f042dc… (all of the seat's roots in one cut). By AI agents, Wed Nov 11 2026. No macro, syntax, notation, axiom, sorry.
-/
import Derived.Test.YtdcendbfkjmfjabChecked
import GoSem.Claim
import GoSem.ClaimJoined
import GoSem.ClaimMapViews
import Derived.JoinedTies
import Derived.KernelRfl
namespace Go.Proofs.Ytdcendbfkjmfjab
/- THE CELL 'sum', in the pinned program and in every row, IS THE sha256 OF THE DUMP (.gsa) THAT YtdcendbfkjmfjabProg.lean LOADS. Nothing in Lean hashes anything: it is a label: what it is worth is what the hold of that sum in a sandbox is worth. -/
noncomputable def Try.pinned : Pinned := { name := "ytdcendbfkjmfjab", sum := "830301fe89f042dca2645ec1adbd9e44ef1129bdef313cd3994d772f1023644f", checked := Try.checked }
namespace Rows
def none {H : Type} : Left H := { results := [], args := [] }

/-- 'laws.FnKeyAll': WHATEVER THE INPUT: true; the input reads as it did. -/
def fnKeyAllSpec : ChangeSpec := { name := "fnKeyAll", fn := fun _ => fun
  | [d] => { results := [.lit (.bool true)], args := [d] }
  | _ => none }
def fnKeyAllRow : OpenClaim := { program := "ytdcendbfkjmfjab", sum := "830301fe89f042dca2645ec1adbd9e44ef1129bdef313cd3994d772f1023644f", func := "loop.example/kith/laws.FnKeyAll", spec := "fnKeyAll", apart := false }
def FnKeyAllSaid : Prop := fnKeyAllRow.holds Try.pinned (OpenSpec.ofChange fnKeyAllSpec)

/-- ITS FALSE NEIGHBOUR: 'it returns false'. Refute it at one input. -/
def fnKeyAllWrong : ChangeSpec := { name := "fnKeyAll", fn := fun _ => fun
  | [d] => { results := [.lit (.bool false)], args := [d] }
  | _ => none }
def FnKeyAllWrongFalsely : Prop := fnKeyAllRow.holds Try.pinned (OpenSpec.ofChange fnKeyAllWrong)

/-- 'laws.FnExactKeyMake': WHATEVER THE INPUT: true; the input reads as it did. -/
def fnExactKeyMakeSpec : ChangeSpec := { name := "fnExactKeyMake", fn := fun _ => fun
  | [d1, d2] => { results := [.lit (.bool true)], args := [d1, d2] }
  | _ => none }
def fnExactKeyMakeRow : OpenClaim := { program := "ytdcendbfkjmfjab", sum := "830301fe89f042dca2645ec1adbd9e44ef1129bdef313cd3994d772f1023644f", func := "loop.example/kith/laws.FnExactKeyMake", spec := "fnExactKeyMake", apart := false }
def FnExactKeyMakeSaid : Prop := fnExactKeyMakeRow.holds Try.pinned (OpenSpec.ofChange fnExactKeyMakeSpec)

/-- ITS FALSE NEIGHBOUR: 'it returns false'. Refute it at one input. -/
def fnExactKeyMakeWrong : ChangeSpec := { name := "fnExactKeyMake", fn := fun _ => fun
  | [d1, d2] => { results := [.lit (.bool false)], args := [d1, d2] }
  | _ => none }
def FnExactKeyMakeWrongFalsely : Prop := fnExactKeyMakeRow.holds Try.pinned (OpenSpec.ofChange fnExactKeyMakeWrong)

/-- 'laws.FnExactKeyKind': WHATEVER THE INPUT: true; the input reads as it did. -/
def fnExactKeyKindSpec : ChangeSpec := { name := "fnExactKeyKind", fn := fun _ => fun
  | [d] => { results := [.lit (.bool true)], args := [d] }
  | _ => none }
def fnExactKeyKindRow : OpenClaim := { program := "ytdcendbfkjmfjab", sum := "830301fe89f042dca2645ec1adbd9e44ef1129bdef313cd3994d772f1023644f", func := "loop.example/kith/laws.FnExactKeyKind", spec := "fnExactKeyKind", apart := false }
def FnExactKeyKindSaid : Prop := fnExactKeyKindRow.holds Try.pinned (OpenSpec.ofChange fnExactKeyKindSpec)

/-- ITS FALSE NEIGHBOUR: 'it returns false'. Refute it at one input. -/
def fnExactKeyKindWrong : ChangeSpec := { name := "fnExactKeyKind", fn := fun _ => fun
  | [d] => { results := [.lit (.bool false)], args := [d] }
  | _ => none }
def FnExactKeyKindWrongFalsely : Prop := fnExactKeyKindRow.holds Try.pinned (OpenSpec.ofChange fnExactKeyKindWrong)

/- THE SECOND FORM. 'bulk': how many values and letters a reading holds, each counted each time it is reached (what is shared counts as often as it is met; a slice's spare places count too). A statement '..UptoSaid' is the law's where the arguments, and the package variables that the reading takes, are together of bulk at most 1048576: NARROWER than '..Said'. Prove '..Said' where nothing that the law and all that it calls make is longer than what came in: it says more and counts as full. Else prove '..UptoSaid'. A law counts once. -/
mutual
def uptoBulk {H : Type} : DataW H → Nat
  | .lit (.string bytes) => bytes.length + 1
  | .lit _ => 1
  | .nil => 1
  | .ptr d => uptoBulk d + 1
  | .slice elems spare => uptoBulkAll elems + uptoBulkAll spare + 1
  | .agg parts => uptoBulkAll parts + 1
  | .iface _ d => uptoBulk d + 1
  | .map entries => uptoBulkEntries entries + 1
  | .held _ => 1
def uptoBulkAll {H : Type} : List (DataW H) → Nat
  | [] => 0
  | d :: r => uptoBulk d + uptoBulkAll r
def uptoBulkEntries {H : Type} : List (Lit × DataW H) → Nat
  | [] => 0
  | x :: r => uptoBulkEntry x + uptoBulkEntries r
def uptoBulkEntry {H : Type} : Lit × DataW H → Nat
  | (.string bytes, d) => bytes.length + uptoBulk d + 1
  | (_, d) => uptoBulk d + 1
 end
def uptoSmall : (H : Type) → List (DataW H) → Bool := fun _ ds => decide (uptoBulkAll ds ≤ 1048576)
def OpenSpec.upto (s : _root_.Go.ChangeSpec) : _root_.Go.OpenSpec := { _root_.Go.OpenSpec.ofChange s with cond := some uptoSmall }

/-- 'laws.FnKeyAll', WHERE WHAT IT READS IS OF BULK AT MOST 1048576: true; the input reads as it did. -/
def fnKeyAllUptoRow : OpenClaim := { program := "ytdcendbfkjmfjab", sum := "830301fe89f042dca2645ec1adbd9e44ef1129bdef313cd3994d772f1023644f", func := "loop.example/kith/laws.FnKeyAll", spec := "fnKeyAll", apart := false, narrowed := true }
def FnKeyAllUptoSaid : Prop := fnKeyAllUptoRow.holds Try.pinned (OpenSpec.upto fnKeyAllSpec)

/-- 'laws.FnExactKeyMake', WHERE WHAT IT READS IS OF BULK AT MOST 1048576: true; the input reads as it did. -/
def fnExactKeyMakeUptoRow : OpenClaim := { program := "ytdcendbfkjmfjab", sum := "830301fe89f042dca2645ec1adbd9e44ef1129bdef313cd3994d772f1023644f", func := "loop.example/kith/laws.FnExactKeyMake", spec := "fnExactKeyMake", apart := false, narrowed := true }
def FnExactKeyMakeUptoSaid : Prop := fnExactKeyMakeUptoRow.holds Try.pinned (OpenSpec.upto fnExactKeyMakeSpec)

/-- 'laws.FnExactKeyKind', WHERE WHAT IT READS IS OF BULK AT MOST 1048576: true; the input reads as it did. -/
def fnExactKeyKindUptoRow : OpenClaim := { program := "ytdcendbfkjmfjab", sum := "830301fe89f042dca2645ec1adbd9e44ef1129bdef313cd3994d772f1023644f", func := "loop.example/kith/laws.FnExactKeyKind", spec := "fnExactKeyKind", apart := false, narrowed := true }
def FnExactKeyKindUptoSaid : Prop := fnExactKeyKindUptoRow.holds Try.pinned (OpenSpec.upto fnExactKeyKindSpec)

end Rows
end Go.Proofs.Ytdcendbfkjmfjab
