/-
  No cell of these rows narrows 'for every input' (looked for: loops, veiled, ifaces, maps, wideKeys, modest, calm, conditions, laid).
  DERIVED. THE GIVEN ROWS OF THIS SEAT. 5 by the template 'for every input the law returns true; each argument reads behind the call as it read before'; 0 by the template 'total and deterministic' (their statements: YtddpoheoecafjaaGreatTotals.lean).
  GIVEN WITH THE SEED: the statements are not yours to turn. If you find one false, say at which input.
  Laid BY PROGRAM, IN A SANDBOX (cutbox-rows.mjs): the forced cells as the released guide's own fill.sh prints them over the translation a9cd570e9046f912… (all of the seat's roots in one cut). By AI agents, Wed Nov 11 2026. No macro, syntax, notation, axiom, sorry.
-/
import Derived.Test.YtddpoheoecafjaaGreatChecked
import GoSem.Claim
import GoSem.ClaimJoined
import GoSem.ClaimMapViews
import Derived.JoinedTies
import Derived.KernelRfl
namespace Go.Proofs.YtddpoheoecafjaaGreat
/- THE CELL 'sum', in the pinned program and in every row, IS THE sha256 OF THE DUMP (.gsa) THAT YtddpoheoecafjaaGreatProg.lean LOADS. Nothing in Lean hashes anything: it is a label: what it is worth is what the hold of that sum in a sandbox is worth. -/
noncomputable def Tryz.pinned : Pinned := { name := "ytddpoheoecafjaagreat", sum := "a9cd570e9046f9127c8027d4173204d9295727a042ce0726779596560daeffbb", checked := Tryz.checked }
namespace Rows
def none {H : Type} : Left H := { results := [], args := [] }

/-- 'laws.FnExactTierOk': WHATEVER THE INPUT: true; the input reads as it did. -/
def fnExactTierOkSpec : ChangeSpec := { name := "fnExactTierOk", fn := fun _ => fun
  | [d] => { results := [.lit (.bool true)], args := [d] }
  | _ => none }
def fnExactTierOkRow : OpenClaim := { program := "ytddpoheoecafjaagreat", sum := "a9cd570e9046f9127c8027d4173204d9295727a042ce0726779596560daeffbb", func := "loop.example/kith/laws.FnExactTierOk", spec := "fnExactTierOk", unfollowed := true, recurses := true, apart := false }
def FnExactTierOkSaid : Prop := fnExactTierOkRow.holds Tryz.pinned (OpenSpec.ofChange fnExactTierOkSpec)

/-- ITS FALSE NEIGHBOUR: 'it returns false'. Refute it at one input. -/
def fnExactTierOkWrong : ChangeSpec := { name := "fnExactTierOk", fn := fun _ => fun
  | [d] => { results := [.lit (.bool false)], args := [d] }
  | _ => none }
def FnExactTierOkWrongFalsely : Prop := fnExactTierOkRow.holds Tryz.pinned (OpenSpec.ofChange fnExactTierOkWrong)

/-- 'laws.FnExactTierRead': WHATEVER THE INPUT: true; the input reads as it did. -/
def fnExactTierReadSpec : ChangeSpec := { name := "fnExactTierRead", fn := fun _ => fun
  | [d1, d2] => { results := [.lit (.bool true)], args := [d1, d2] }
  | _ => none }
def fnExactTierReadRow : OpenClaim := { program := "ytddpoheoecafjaagreat", sum := "a9cd570e9046f9127c8027d4173204d9295727a042ce0726779596560daeffbb", func := "loop.example/kith/laws.FnExactTierRead", spec := "fnExactTierRead", unfollowed := true, recurses := true, apart := false }
def FnExactTierReadSaid : Prop := fnExactTierReadRow.holds Tryz.pinned (OpenSpec.ofChange fnExactTierReadSpec)

/-- ITS FALSE NEIGHBOUR: 'it returns false'. Refute it at one input. -/
def fnExactTierReadWrong : ChangeSpec := { name := "fnExactTierRead", fn := fun _ => fun
  | [d1, d2] => { results := [.lit (.bool false)], args := [d1, d2] }
  | _ => none }
def FnExactTierReadWrongFalsely : Prop := fnExactTierReadRow.holds Tryz.pinned (OpenSpec.ofChange fnExactTierReadWrong)

/-- 'laws.FnExactTierWrite': WHATEVER THE INPUT: true; the input reads as it did. -/
def fnExactTierWriteSpec : ChangeSpec := { name := "fnExactTierWrite", fn := fun _ => fun
  | [d1, d2] => { results := [.lit (.bool true)], args := [d1, d2] }
  | _ => none }
def fnExactTierWriteRow : OpenClaim := { program := "ytddpoheoecafjaagreat", sum := "a9cd570e9046f9127c8027d4173204d9295727a042ce0726779596560daeffbb", func := "loop.example/kith/laws.FnExactTierWrite", spec := "fnExactTierWrite", unfollowed := true, recurses := true, apart := false }
def FnExactTierWriteSaid : Prop := fnExactTierWriteRow.holds Tryz.pinned (OpenSpec.ofChange fnExactTierWriteSpec)

/-- ITS FALSE NEIGHBOUR: 'it returns false'. Refute it at one input. -/
def fnExactTierWriteWrong : ChangeSpec := { name := "fnExactTierWrite", fn := fun _ => fun
  | [d1, d2] => { results := [.lit (.bool false)], args := [d1, d2] }
  | _ => none }
def FnExactTierWriteWrongFalsely : Prop := fnExactTierWriteRow.holds Tryz.pinned (OpenSpec.ofChange fnExactTierWriteWrong)

/-- 'laws.FnExactTierRetry': WHATEVER THE INPUT: true; the input reads as it did. -/
def fnExactTierRetrySpec : ChangeSpec := { name := "fnExactTierRetry", fn := fun _ => fun
  | [d] => { results := [.lit (.bool true)], args := [d] }
  | _ => none }
def fnExactTierRetryRow : OpenClaim := { program := "ytddpoheoecafjaagreat", sum := "a9cd570e9046f9127c8027d4173204d9295727a042ce0726779596560daeffbb", func := "loop.example/kith/laws.FnExactTierRetry", spec := "fnExactTierRetry", unfollowed := true, recurses := true, apart := false }
def FnExactTierRetrySaid : Prop := fnExactTierRetryRow.holds Tryz.pinned (OpenSpec.ofChange fnExactTierRetrySpec)

/-- ITS FALSE NEIGHBOUR: 'it returns false'. Refute it at one input. -/
def fnExactTierRetryWrong : ChangeSpec := { name := "fnExactTierRetry", fn := fun _ => fun
  | [d] => { results := [.lit (.bool false)], args := [d] }
  | _ => none }
def FnExactTierRetryWrongFalsely : Prop := fnExactTierRetryRow.holds Tryz.pinned (OpenSpec.ofChange fnExactTierRetryWrong)

/-- 'laws.FnExactTierFall': WHATEVER THE INPUT: true; the input reads as it did. -/
def fnExactTierFallSpec : ChangeSpec := { name := "fnExactTierFall", fn := fun _ => fun
  | [d] => { results := [.lit (.bool true)], args := [d] }
  | _ => none }
def fnExactTierFallRow : OpenClaim := { program := "ytddpoheoecafjaagreat", sum := "a9cd570e9046f9127c8027d4173204d9295727a042ce0726779596560daeffbb", func := "loop.example/kith/laws.FnExactTierFall", spec := "fnExactTierFall", unfollowed := true, recurses := true, apart := false }
def FnExactTierFallSaid : Prop := fnExactTierFallRow.holds Tryz.pinned (OpenSpec.ofChange fnExactTierFallSpec)

/-- ITS FALSE NEIGHBOUR: 'it returns false'. Refute it at one input. -/
def fnExactTierFallWrong : ChangeSpec := { name := "fnExactTierFall", fn := fun _ => fun
  | [d] => { results := [.lit (.bool false)], args := [d] }
  | _ => none }
def FnExactTierFallWrongFalsely : Prop := fnExactTierFallRow.holds Tryz.pinned (OpenSpec.ofChange fnExactTierFallWrong)

/- THE SECOND FORM. 'bulk': how many values and letters a reading holds, each counted each time it is reached (what is shared counts as often as it is met; a slice's spare places count too). A statement '..UptoSaid' is the law's where the arguments, and the package variables that the reading takes, are together of bulk at most 1048576: NARROWER than '..Said'. Prove '..Said' where nothing that the law and all that it calls make is longer than what came in: it says more and counts as full. Else prove '..UptoSaid'. A law counts once. -/
mutual
def uptoBulk {H : Type} : DataW H → Nat
  | .lit (.string bytes) => bytes.length + 1
  | .lit _ => 1
  | .nil => 1
  | .ptr d => uptoBulk d + 1
  | .slice elems spare => uptoBulkAll elems + uptoBulkAll spare + 1
  | .agg parts => uptoBulkAll parts + 1
  | .iface _ d => uptoBulk d + 1
  | .map entries => uptoBulkEntries entries + 1
  | .held _ => 1
def uptoBulkAll {H : Type} : List (DataW H) → Nat
  | [] => 0
  | d :: r => uptoBulk d + uptoBulkAll r
def uptoBulkEntries {H : Type} : List (Lit × DataW H) → Nat
  | [] => 0
  | x :: r => uptoBulkEntry x + uptoBulkEntries r
def uptoBulkEntry {H : Type} : Lit × DataW H → Nat
  | (.string bytes, d) => bytes.length + uptoBulk d + 1
  | (_, d) => uptoBulk d + 1
 end
def uptoSmall : (H : Type) → List (DataW H) → Bool := fun _ ds => decide (uptoBulkAll ds ≤ 1048576)
def OpenSpec.upto (s : _root_.Go.ChangeSpec) : _root_.Go.OpenSpec := { _root_.Go.OpenSpec.ofChange s with cond := some uptoSmall }

/-- 'laws.FnExactTierOk', WHERE WHAT IT READS IS OF BULK AT MOST 1048576: true; the input reads as it did. -/
def fnExactTierOkUptoRow : OpenClaim := { program := "ytddpoheoecafjaagreat", sum := "a9cd570e9046f9127c8027d4173204d9295727a042ce0726779596560daeffbb", func := "loop.example/kith/laws.FnExactTierOk", spec := "fnExactTierOk", unfollowed := true, recurses := true, apart := false, narrowed := true }
def FnExactTierOkUptoSaid : Prop := fnExactTierOkUptoRow.holds Tryz.pinned (OpenSpec.upto fnExactTierOkSpec)

/-- 'laws.FnExactTierRead', WHERE WHAT IT READS IS OF BULK AT MOST 1048576: true; the input reads as it did. -/
def fnExactTierReadUptoRow : OpenClaim := { program := "ytddpoheoecafjaagreat", sum := "a9cd570e9046f9127c8027d4173204d9295727a042ce0726779596560daeffbb", func := "loop.example/kith/laws.FnExactTierRead", spec := "fnExactTierRead", unfollowed := true, recurses := true, apart := false, narrowed := true }
def FnExactTierReadUptoSaid : Prop := fnExactTierReadUptoRow.holds Tryz.pinned (OpenSpec.upto fnExactTierReadSpec)

/-- 'laws.FnExactTierWrite', WHERE WHAT IT READS IS OF BULK AT MOST 1048576: true; the input reads as it did. -/
def fnExactTierWriteUptoRow : OpenClaim := { program := "ytddpoheoecafjaagreat", sum := "a9cd570e9046f9127c8027d4173204d9295727a042ce0726779596560daeffbb", func := "loop.example/kith/laws.FnExactTierWrite", spec := "fnExactTierWrite", unfollowed := true, recurses := true, apart := false, narrowed := true }
def FnExactTierWriteUptoSaid : Prop := fnExactTierWriteUptoRow.holds Tryz.pinned (OpenSpec.upto fnExactTierWriteSpec)

/-- 'laws.FnExactTierRetry', WHERE WHAT IT READS IS OF BULK AT MOST 1048576: true; the input reads as it did. -/
def fnExactTierRetryUptoRow : OpenClaim := { program := "ytddpoheoecafjaagreat", sum := "a9cd570e9046f9127c8027d4173204d9295727a042ce0726779596560daeffbb", func := "loop.example/kith/laws.FnExactTierRetry", spec := "fnExactTierRetry", unfollowed := true, recurses := true, apart := false, narrowed := true }
def FnExactTierRetryUptoSaid : Prop := fnExactTierRetryUptoRow.holds Tryz.pinned (OpenSpec.upto fnExactTierRetrySpec)

/-- 'laws.FnExactTierFall', WHERE WHAT IT READS IS OF BULK AT MOST 1048576: true; the input reads as it did. -/
def fnExactTierFallUptoRow : OpenClaim := { program := "ytddpoheoecafjaagreat", sum := "a9cd570e9046f9127c8027d4173204d9295727a042ce0726779596560daeffbb", func := "loop.example/kith/laws.FnExactTierFall", spec := "fnExactTierFall", unfollowed := true, recurses := true, apart := false, narrowed := true }
def FnExactTierFallUptoSaid : Prop := fnExactTierFallUptoRow.holds Tryz.pinned (OpenSpec.upto fnExactTierFallSpec)

end Rows
end Go.Proofs.YtddpoheoecafjaaGreat
