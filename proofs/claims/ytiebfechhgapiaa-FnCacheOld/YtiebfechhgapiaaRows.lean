/-
  No cell of these rows narrows 'for every input' (looked for: loops, veiled, ifaces, maps, wideKeys, modest, calm, conditions, laid).
  DERIVED. THE GIVEN ROWS OF THIS SEAT. 5 by the template 'for every input the law returns true; each argument reads behind the call as it read before'; 0 by the template 'total and deterministic' (their statements: YtiebfechhgapiaaTotals.lean).
  GIVEN WITH THE SEED: the statements are not yours to turn. If you find one false, say at which input.
  Laid BY PROGRAM, IN A SANDBOX (cutbox-rows.mjs): the forced cells as the released guide's own fill.sh prints them over the translation 6fbf7a07bf52e7e9… (all of the seat's roots in one cut). By AI agents, Wed Nov 11 2026. No macro, syntax, notation, axiom, sorry.
-/
import Derived.Test.YtiebfechhgapiaaChecked
import GoSem.Claim
import GoSem.ClaimJoined
import GoSem.ClaimMapViews
import Derived.JoinedTies
import Derived.KernelRfl
namespace Go.Proofs.Ytiebfechhgapiaa
/- THE CELL 'sum', in the pinned program and in every row, IS THE sha256 OF THE DUMP (.gsa) THAT YtiebfechhgapiaaProg.lean LOADS. Nothing in Lean hashes anything: it is a label: what it is worth is what the hold of that sum in a sandbox is worth. -/
noncomputable def Try.pinned : Pinned := { name := "ytiebfechhgapiaa", sum := "6fbf7a07bf52e7e94837d3708feef5de8164bd4cb79a30132f120ee1eca7ef00", checked := Try.checked }
namespace Rows
def none {H : Type} : Left H := { results := [], args := [] }

/-- 'laws.FnCacheGet': WHATEVER THE INPUT: true; the input reads as it did. -/
def fnCacheGetSpec : ChangeSpec := { name := "fnCacheGet", fn := fun _ => fun
  | [d] => { results := [.lit (.bool true)], args := [d] }
  | _ => none }
def fnCacheGetRow : OpenClaim := { program := "ytiebfechhgapiaa", sum := "6fbf7a07bf52e7e94837d3708feef5de8164bd4cb79a30132f120ee1eca7ef00", func := "loop.example/kith/laws.FnCacheGet", spec := "fnCacheGet", unfollowed := true, recurses := true, apart := false }
def FnCacheGetSaid : Prop := fnCacheGetRow.holds Try.pinned (OpenSpec.ofChange fnCacheGetSpec)

/-- ITS FALSE NEIGHBOUR: 'it returns false'. Refute it at one input. -/
def fnCacheGetWrong : ChangeSpec := { name := "fnCacheGet", fn := fun _ => fun
  | [d] => { results := [.lit (.bool false)], args := [d] }
  | _ => none }
def FnCacheGetWrongFalsely : Prop := fnCacheGetRow.holds Try.pinned (OpenSpec.ofChange fnCacheGetWrong)

/-- 'laws.FnCacheTwice': WHATEVER THE INPUT: true; the input reads as it did. -/
def fnCacheTwiceSpec : ChangeSpec := { name := "fnCacheTwice", fn := fun _ => fun
  | [d] => { results := [.lit (.bool true)], args := [d] }
  | _ => none }
def fnCacheTwiceRow : OpenClaim := { program := "ytiebfechhgapiaa", sum := "6fbf7a07bf52e7e94837d3708feef5de8164bd4cb79a30132f120ee1eca7ef00", func := "loop.example/kith/laws.FnCacheTwice", spec := "fnCacheTwice", unfollowed := true, recurses := true, apart := false }
def FnCacheTwiceSaid : Prop := fnCacheTwiceRow.holds Try.pinned (OpenSpec.ofChange fnCacheTwiceSpec)

/-- ITS FALSE NEIGHBOUR: 'it returns false'. Refute it at one input. -/
def fnCacheTwiceWrong : ChangeSpec := { name := "fnCacheTwice", fn := fun _ => fun
  | [d] => { results := [.lit (.bool false)], args := [d] }
  | _ => none }
def FnCacheTwiceWrongFalsely : Prop := fnCacheTwiceRow.holds Try.pinned (OpenSpec.ofChange fnCacheTwiceWrong)

/-- 'laws.FnCacheOld': WHATEVER THE INPUT: true; the input reads as it did. -/
def fnCacheOldSpec : ChangeSpec := { name := "fnCacheOld", fn := fun _ => fun
  | [d] => { results := [.lit (.bool true)], args := [d] }
  | _ => none }
def fnCacheOldRow : OpenClaim := { program := "ytiebfechhgapiaa", sum := "6fbf7a07bf52e7e94837d3708feef5de8164bd4cb79a30132f120ee1eca7ef00", func := "loop.example/kith/laws.FnCacheOld", spec := "fnCacheOld", unfollowed := true, recurses := true, apart := false }
def FnCacheOldSaid : Prop := fnCacheOldRow.holds Try.pinned (OpenSpec.ofChange fnCacheOldSpec)

/-- ITS FALSE NEIGHBOUR: 'it returns false'. Refute it at one input. -/
def fnCacheOldWrong : ChangeSpec := { name := "fnCacheOld", fn := fun _ => fun
  | [d] => { results := [.lit (.bool false)], args := [d] }
  | _ => none }
def FnCacheOldWrongFalsely : Prop := fnCacheOldRow.holds Try.pinned (OpenSpec.ofChange fnCacheOldWrong)

/-- 'laws.FnCacheCrowd': WHATEVER THE INPUT: true; the input reads as it did. -/
def fnCacheCrowdSpec : ChangeSpec := { name := "fnCacheCrowd", fn := fun _ => fun
  | [d1, d2] => { results := [.lit (.bool true)], args := [d1, d2] }
  | _ => none }
def fnCacheCrowdRow : OpenClaim := { program := "ytiebfechhgapiaa", sum := "6fbf7a07bf52e7e94837d3708feef5de8164bd4cb79a30132f120ee1eca7ef00", func := "loop.example/kith/laws.FnCacheCrowd", spec := "fnCacheCrowd", unfollowed := true, recurses := true, apart := false }
def FnCacheCrowdSaid : Prop := fnCacheCrowdRow.holds Try.pinned (OpenSpec.ofChange fnCacheCrowdSpec)

/-- ITS FALSE NEIGHBOUR: 'it returns false'. Refute it at one input. -/
def fnCacheCrowdWrong : ChangeSpec := { name := "fnCacheCrowd", fn := fun _ => fun
  | [d1, d2] => { results := [.lit (.bool false)], args := [d1, d2] }
  | _ => none }
def FnCacheCrowdWrongFalsely : Prop := fnCacheCrowdRow.holds Try.pinned (OpenSpec.ofChange fnCacheCrowdWrong)

/-- 'laws.FnCache': WHATEVER THE INPUT: true; the input reads as it did. -/
def fnCacheSpec : ChangeSpec := { name := "fnCache", fn := fun _ => fun
  | [d1, d2] => { results := [.lit (.bool true)], args := [d1, d2] }
  | _ => none }
def fnCacheRow : OpenClaim := { program := "ytiebfechhgapiaa", sum := "6fbf7a07bf52e7e94837d3708feef5de8164bd4cb79a30132f120ee1eca7ef00", func := "loop.example/kith/laws.FnCache", spec := "fnCache", unfollowed := true, recurses := true, apart := false }
def FnCacheSaid : Prop := fnCacheRow.holds Try.pinned (OpenSpec.ofChange fnCacheSpec)

/-- ITS FALSE NEIGHBOUR: 'it returns false'. Refute it at one input. -/
def fnCacheWrong : ChangeSpec := { name := "fnCache", fn := fun _ => fun
  | [d1, d2] => { results := [.lit (.bool false)], args := [d1, d2] }
  | _ => none }
def FnCacheWrongFalsely : Prop := fnCacheRow.holds Try.pinned (OpenSpec.ofChange fnCacheWrong)

/- THE SECOND FORM. 'bulk': how many values and letters a reading holds, each counted each time it is reached (what is shared counts as often as it is met; a slice's spare places count too). A statement '..UptoSaid' is the law's where the arguments, and the package variables that the reading takes, are together of bulk at most 1048576: NARROWER than '..Said'. Prove '..Said' where nothing that the law and all that it calls make is longer than what came in: it says more and counts as full. Else prove '..UptoSaid'. A law counts once. -/
mutual
def uptoBulk {H : Type} : DataW H → Nat
  | .lit (.string bytes) => bytes.length + 1
  | .lit _ => 1
  | .nil => 1
  | .ptr d => uptoBulk d + 1
  | .slice elems spare => uptoBulkAll elems + uptoBulkAll spare + 1
  | .agg parts => uptoBulkAll parts + 1
  | .iface _ d => uptoBulk d + 1
  | .map entries => uptoBulkEntries entries + 1
  | .held _ => 1
def uptoBulkAll {H : Type} : List (DataW H) → Nat
  | [] => 0
  | d :: r => uptoBulk d + uptoBulkAll r
def uptoBulkEntries {H : Type} : List (Lit × DataW H) → Nat
  | [] => 0
  | x :: r => uptoBulkEntry x + uptoBulkEntries r
def uptoBulkEntry {H : Type} : Lit × DataW H → Nat
  | (.string bytes, d) => bytes.length + uptoBulk d + 1
  | (_, d) => uptoBulk d + 1
 end
def uptoSmall : (H : Type) → List (DataW H) → Bool := fun _ ds => decide (uptoBulkAll ds ≤ 1048576)
def OpenSpec.upto (s : _root_.Go.ChangeSpec) : _root_.Go.OpenSpec := { _root_.Go.OpenSpec.ofChange s with cond := some uptoSmall }

/-- 'laws.FnCacheGet', WHERE WHAT IT READS IS OF BULK AT MOST 1048576: true; the input reads as it did. -/
def fnCacheGetUptoRow : OpenClaim := { program := "ytiebfechhgapiaa", sum := "6fbf7a07bf52e7e94837d3708feef5de8164bd4cb79a30132f120ee1eca7ef00", func := "loop.example/kith/laws.FnCacheGet", spec := "fnCacheGet", unfollowed := true, recurses := true, apart := false, narrowed := true }
def FnCacheGetUptoSaid : Prop := fnCacheGetUptoRow.holds Try.pinned (OpenSpec.upto fnCacheGetSpec)

/-- 'laws.FnCacheTwice', WHERE WHAT IT READS IS OF BULK AT MOST 1048576: true; the input reads as it did. -/
def fnCacheTwiceUptoRow : OpenClaim := { program := "ytiebfechhgapiaa", sum := "6fbf7a07bf52e7e94837d3708feef5de8164bd4cb79a30132f120ee1eca7ef00", func := "loop.example/kith/laws.FnCacheTwice", spec := "fnCacheTwice", unfollowed := true, recurses := true, apart := false, narrowed := true }
def FnCacheTwiceUptoSaid : Prop := fnCacheTwiceUptoRow.holds Try.pinned (OpenSpec.upto fnCacheTwiceSpec)

/-- 'laws.FnCacheOld', WHERE WHAT IT READS IS OF BULK AT MOST 1048576: true; the input reads as it did. -/
def fnCacheOldUptoRow : OpenClaim := { program := "ytiebfechhgapiaa", sum := "6fbf7a07bf52e7e94837d3708feef5de8164bd4cb79a30132f120ee1eca7ef00", func := "loop.example/kith/laws.FnCacheOld", spec := "fnCacheOld", unfollowed := true, recurses := true, apart := false, narrowed := true }
def FnCacheOldUptoSaid : Prop := fnCacheOldUptoRow.holds Try.pinned (OpenSpec.upto fnCacheOldSpec)

/-- 'laws.FnCacheCrowd', WHERE WHAT IT READS IS OF BULK AT MOST 1048576: true; the input reads as it did. -/
def fnCacheCrowdUptoRow : OpenClaim := { program := "ytiebfechhgapiaa", sum := "6fbf7a07bf52e7e94837d3708feef5de8164bd4cb79a30132f120ee1eca7ef00", func := "loop.example/kith/laws.FnCacheCrowd", spec := "fnCacheCrowd", unfollowed := true, recurses := true, apart := false, narrowed := true }
def FnCacheCrowdUptoSaid : Prop := fnCacheCrowdUptoRow.holds Try.pinned (OpenSpec.upto fnCacheCrowdSpec)

/-- 'laws.FnCache', WHERE WHAT IT READS IS OF BULK AT MOST 1048576: true; the input reads as it did. -/
def fnCacheUptoRow : OpenClaim := { program := "ytiebfechhgapiaa", sum := "6fbf7a07bf52e7e94837d3708feef5de8164bd4cb79a30132f120ee1eca7ef00", func := "loop.example/kith/laws.FnCache", spec := "fnCache", unfollowed := true, recurses := true, apart := false, narrowed := true }
def FnCacheUptoSaid : Prop := fnCacheUptoRow.holds Try.pinned (OpenSpec.upto fnCacheSpec)

end Rows
end Go.Proofs.Ytiebfechhgapiaa
