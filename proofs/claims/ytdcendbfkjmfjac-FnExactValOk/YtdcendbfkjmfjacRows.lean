/-
  No cell of these rows narrows 'for every input' (looked for: loops, veiled, ifaces, maps, wideKeys, modest, calm, conditions, laid).
  DERIVED. THE GIVEN ROWS OF THIS SEAT. 4 by the template 'for every input the law returns true; each argument reads behind the call as it read before'; 0 by the template 'total and deterministic' (their statements: YtdcendbfkjmfjacTotals.lean).
  GIVEN WITH THE SEED: the statements are not yours to turn. If you find one false, say at which input.
  Laid BY PROGRAM, IN A SANDBOX (cutbox-rows.mjs): the forced cells as the released guide's own fill.sh prints them over the translation 3e38a5cf3fdaf0c5… (all of the seat's roots in one cut). By AI agents, Wed Nov 11 2026. No macro, syntax, notation, axiom, sorry.
-/
import Derived.Test.YtdcendbfkjmfjacChecked
import GoSem.Claim
import GoSem.ClaimJoined
import GoSem.ClaimMapViews
import Derived.JoinedTies
import Derived.KernelRfl
namespace Go.Proofs.Ytdcendbfkjmfjac
/- THE CELL 'sum', in the pinned program and in every row, IS THE sha256 OF THE DUMP (.gsa) THAT YtdcendbfkjmfjacProg.lean LOADS. Nothing in Lean hashes anything: it is a label: what it is worth is what the hold of that sum in a sandbox is worth. -/
noncomputable def Try.pinned : Pinned := { name := "ytdcendbfkjmfjac", sum := "3e38a5cf3fdaf0c59856eae604c969f48bca18af3793d702c95f51c52548a29f", checked := Try.checked }
namespace Rows
def none {H : Type} : Left H := { results := [], args := [] }

/-- 'laws.FnExactKeyWho': WHATEVER THE INPUT: true; the input reads as it did. -/
def fnExactKeyWhoSpec : ChangeSpec := { name := "fnExactKeyWho", fn := fun _ => fun
  | [d] => { results := [.lit (.bool true)], args := [d] }
  | _ => none }
def fnExactKeyWhoRow : OpenClaim := { program := "ytdcendbfkjmfjac", sum := "3e38a5cf3fdaf0c59856eae604c969f48bca18af3793d702c95f51c52548a29f", func := "loop.example/kith/laws.FnExactKeyWho", spec := "fnExactKeyWho", apart := false }
def FnExactKeyWhoSaid : Prop := fnExactKeyWhoRow.holds Try.pinned (OpenSpec.ofChange fnExactKeyWhoSpec)

/-- ITS FALSE NEIGHBOUR: 'it returns false'. Refute it at one input. -/
def fnExactKeyWhoWrong : ChangeSpec := { name := "fnExactKeyWho", fn := fun _ => fun
  | [d] => { results := [.lit (.bool false)], args := [d] }
  | _ => none }
def FnExactKeyWhoWrongFalsely : Prop := fnExactKeyWhoRow.holds Try.pinned (OpenSpec.ofChange fnExactKeyWhoWrong)

/-- 'laws.FnExactKeyShard': WHATEVER THE INPUT: true; the input reads as it did. -/
def fnExactKeyShardSpec : ChangeSpec := { name := "fnExactKeyShard", fn := fun _ => fun
  | [d] => { results := [.lit (.bool true)], args := [d] }
  | _ => none }
def fnExactKeyShardRow : OpenClaim := { program := "ytdcendbfkjmfjac", sum := "3e38a5cf3fdaf0c59856eae604c969f48bca18af3793d702c95f51c52548a29f", func := "loop.example/kith/laws.FnExactKeyShard", spec := "fnExactKeyShard", apart := false }
def FnExactKeyShardSaid : Prop := fnExactKeyShardRow.holds Try.pinned (OpenSpec.ofChange fnExactKeyShardSpec)

/-- ITS FALSE NEIGHBOUR: 'it returns false'. Refute it at one input. -/
def fnExactKeyShardWrong : ChangeSpec := { name := "fnExactKeyShard", fn := fun _ => fun
  | [d] => { results := [.lit (.bool false)], args := [d] }
  | _ => none }
def FnExactKeyShardWrongFalsely : Prop := fnExactKeyShardRow.holds Try.pinned (OpenSpec.ofChange fnExactKeyShardWrong)

/-- 'laws.FnExactValOk': WHATEVER THE INPUT: true; the input reads as it did. -/
def fnExactValOkSpec : ChangeSpec := { name := "fnExactValOk", fn := fun _ => fun
  | [d1, d2] => { results := [.lit (.bool true)], args := [d1, d2] }
  | _ => none }
def fnExactValOkRow : OpenClaim := { program := "ytdcendbfkjmfjac", sum := "3e38a5cf3fdaf0c59856eae604c969f48bca18af3793d702c95f51c52548a29f", func := "loop.example/kith/laws.FnExactValOk", spec := "fnExactValOk", unfollowed := true, recurses := true, apart := false }
def FnExactValOkSaid : Prop := fnExactValOkRow.holds Try.pinned (OpenSpec.ofChange fnExactValOkSpec)

/-- ITS FALSE NEIGHBOUR: 'it returns false'. Refute it at one input. -/
def fnExactValOkWrong : ChangeSpec := { name := "fnExactValOk", fn := fun _ => fun
  | [d1, d2] => { results := [.lit (.bool false)], args := [d1, d2] }
  | _ => none }
def FnExactValOkWrongFalsely : Prop := fnExactValOkRow.holds Try.pinned (OpenSpec.ofChange fnExactValOkWrong)

/-- 'laws.FnExactValSame': WHATEVER THE INPUT: true; the input reads as it did. -/
def fnExactValSameSpec : ChangeSpec := { name := "fnExactValSame", fn := fun _ => fun
  | [d1, d2] => { results := [.lit (.bool true)], args := [d1, d2] }
  | _ => none }
def fnExactValSameRow : OpenClaim := { program := "ytdcendbfkjmfjac", sum := "3e38a5cf3fdaf0c59856eae604c969f48bca18af3793d702c95f51c52548a29f", func := "loop.example/kith/laws.FnExactValSame", spec := "fnExactValSame", apart := false }
def FnExactValSameSaid : Prop := fnExactValSameRow.holds Try.pinned (OpenSpec.ofChange fnExactValSameSpec)

/-- ITS FALSE NEIGHBOUR: 'it returns false'. Refute it at one input. -/
def fnExactValSameWrong : ChangeSpec := { name := "fnExactValSame", fn := fun _ => fun
  | [d1, d2] => { results := [.lit (.bool false)], args := [d1, d2] }
  | _ => none }
def FnExactValSameWrongFalsely : Prop := fnExactValSameRow.holds Try.pinned (OpenSpec.ofChange fnExactValSameWrong)

/- THE SECOND FORM. 'bulk': how many values and letters a reading holds, each counted each time it is reached (what is shared counts as often as it is met; a slice's spare places count too). A statement '..UptoSaid' is the law's where the arguments, and the package variables that the reading takes, are together of bulk at most 1048576: NARROWER than '..Said'. Prove '..Said' where nothing that the law and all that it calls make is longer than what came in: it says more and counts as full. Else prove '..UptoSaid'. A law counts once. -/
mutual
def uptoBulk {H : Type} : DataW H → Nat
  | .lit (.string bytes) => bytes.length + 1
  | .lit _ => 1
  | .nil => 1
  | .ptr d => uptoBulk d + 1
  | .slice elems spare => uptoBulkAll elems + uptoBulkAll spare + 1
  | .agg parts => uptoBulkAll parts + 1
  | .iface _ d => uptoBulk d + 1
  | .map entries => uptoBulkEntries entries + 1
  | .held _ => 1
def uptoBulkAll {H : Type} : List (DataW H) → Nat
  | [] => 0
  | d :: r => uptoBulk d + uptoBulkAll r
def uptoBulkEntries {H : Type} : List (Lit × DataW H) → Nat
  | [] => 0
  | x :: r => uptoBulkEntry x + uptoBulkEntries r
def uptoBulkEntry {H : Type} : Lit × DataW H → Nat
  | (.string bytes, d) => bytes.length + uptoBulk d + 1
  | (_, d) => uptoBulk d + 1
 end
def uptoSmall : (H : Type) → List (DataW H) → Bool := fun _ ds => decide (uptoBulkAll ds ≤ 1048576)
def OpenSpec.upto (s : _root_.Go.ChangeSpec) : _root_.Go.OpenSpec := { _root_.Go.OpenSpec.ofChange s with cond := some uptoSmall }

/-- 'laws.FnExactKeyWho', WHERE WHAT IT READS IS OF BULK AT MOST 1048576: true; the input reads as it did. -/
def fnExactKeyWhoUptoRow : OpenClaim := { program := "ytdcendbfkjmfjac", sum := "3e38a5cf3fdaf0c59856eae604c969f48bca18af3793d702c95f51c52548a29f", func := "loop.example/kith/laws.FnExactKeyWho", spec := "fnExactKeyWho", apart := false, narrowed := true }
def FnExactKeyWhoUptoSaid : Prop := fnExactKeyWhoUptoRow.holds Try.pinned (OpenSpec.upto fnExactKeyWhoSpec)

/-- 'laws.FnExactKeyShard', WHERE WHAT IT READS IS OF BULK AT MOST 1048576: true; the input reads as it did. -/
def fnExactKeyShardUptoRow : OpenClaim := { program := "ytdcendbfkjmfjac", sum := "3e38a5cf3fdaf0c59856eae604c969f48bca18af3793d702c95f51c52548a29f", func := "loop.example/kith/laws.FnExactKeyShard", spec := "fnExactKeyShard", apart := false, narrowed := true }
def FnExactKeyShardUptoSaid : Prop := fnExactKeyShardUptoRow.holds Try.pinned (OpenSpec.upto fnExactKeyShardSpec)

/-- 'laws.FnExactValOk', WHERE WHAT IT READS IS OF BULK AT MOST 1048576: true; the input reads as it did. -/
def fnExactValOkUptoRow : OpenClaim := { program := "ytdcendbfkjmfjac", sum := "3e38a5cf3fdaf0c59856eae604c969f48bca18af3793d702c95f51c52548a29f", func := "loop.example/kith/laws.FnExactValOk", spec := "fnExactValOk", unfollowed := true, recurses := true, apart := false, narrowed := true }
def FnExactValOkUptoSaid : Prop := fnExactValOkUptoRow.holds Try.pinned (OpenSpec.upto fnExactValOkSpec)

/-- 'laws.FnExactValSame', WHERE WHAT IT READS IS OF BULK AT MOST 1048576: true; the input reads as it did. -/
def fnExactValSameUptoRow : OpenClaim := { program := "ytdcendbfkjmfjac", sum := "3e38a5cf3fdaf0c59856eae604c969f48bca18af3793d702c95f51c52548a29f", func := "loop.example/kith/laws.FnExactValSame", spec := "fnExactValSame", apart := false, narrowed := true }
def FnExactValSameUptoSaid : Prop := fnExactValSameUptoRow.holds Try.pinned (OpenSpec.upto fnExactValSameSpec)

end Rows
end Go.Proofs.Ytdcendbfkjmfjac
