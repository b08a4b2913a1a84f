/-
  No cell of these rows narrows 'for every input' (looked for: loops, veiled, ifaces, maps, wideKeys, modest, calm, conditions, laid).
  DERIVED. THE GIVEN ROWS OF THIS SEAT. 5 by the template 'for every input the law returns true; each argument reads behind the call as it read before'; 0 by the template 'total and deterministic' (their statements: YtelhldpidgahoabTotals.lean).
  GIVEN WITH THE SEED: the statements are not yours to turn. If you find one false, say at which input.
  Laid BY PROGRAM, IN A SANDBOX (cutbox-rows.mjs): the forced cells as the released guide's own fill.sh prints them over the translation 35fb0158899d04c5… (all of the seat's roots in one cut). By AI agents, Wed Nov 11 2026. No macro, syntax, notation, axiom, sorry.
-/
import Derived.Test.YtelhldpidgahoabChecked
import GoSem.Claim
import GoSem.ClaimJoined
import GoSem.ClaimMapViews
import Derived.JoinedTies
import Derived.KernelRfl
namespace Go.Proofs.Ytelhldpidgahoab
/- THE CELL 'sum', in the pinned program and in every row, IS THE sha256 OF THE DUMP (.gsa) THAT YtelhldpidgahoabProg.lean LOADS. Nothing in Lean hashes anything: it is a label: what it is worth is what the hold of that sum in a sandbox is worth. -/
noncomputable def Try.pinned : Pinned := { name := "ytelhldpidgahoab", sum := "35fb0158899d04c542a145550d2df416ccfcb26637547a242ce01f61b744ffd8", checked := Try.checked }
namespace Rows
def none {H : Type} : Left H := { results := [], args := [] }

/-- 'laws.FnExactEdgeAdd': WHATEVER THE INPUT: true; the input reads as it did. -/
def fnExactEdgeAddSpec : ChangeSpec := { name := "fnExactEdgeAdd", fn := fun _ => fun
  | [d1, d2, d3] => { results := [.lit (.bool true)], args := [d1, d2, d3] }
  | _ => none }
def fnExactEdgeAddRow : OpenClaim := { program := "ytelhldpidgahoab", sum := "35fb0158899d04c542a145550d2df416ccfcb26637547a242ce01f61b744ffd8", func := "loop.example/kith/laws.FnExactEdgeAdd", spec := "fnExactEdgeAdd", inPlace := ["slices.overlaps[loop.example/kith/impl.Edge]"], unfollowed := true, recurses := true, apart := false }
def FnExactEdgeAddSaid : Prop := fnExactEdgeAddRow.holds Try.pinned (OpenSpec.ofChange fnExactEdgeAddSpec)

/-- ITS FALSE NEIGHBOUR: 'it returns false'. Refute it at one input. -/
def fnExactEdgeAddWrong : ChangeSpec := { name := "fnExactEdgeAdd", fn := fun _ => fun
  | [d1, d2, d3] => { results := [.lit (.bool false)], args := [d1, d2, d3] }
  | _ => none }
def FnExactEdgeAddWrongFalsely : Prop := fnExactEdgeAddRow.holds Try.pinned (OpenSpec.ofChange fnExactEdgeAddWrong)

/-- 'laws.FnExactEdgeDrop': WHATEVER THE INPUT: true; the input reads as it did. -/
def fnExactEdgeDropSpec : ChangeSpec := { name := "fnExactEdgeDrop", fn := fun _ => fun
  | [d1, d2] => { results := [.lit (.bool true)], args := [d1, d2] }
  | _ => none }
def fnExactEdgeDropRow : OpenClaim := { program := "ytelhldpidgahoab", sum := "35fb0158899d04c542a145550d2df416ccfcb26637547a242ce01f61b744ffd8", func := "loop.example/kith/laws.FnExactEdgeDrop", spec := "fnExactEdgeDrop", unfollowed := true, recurses := true, apart := false }
def FnExactEdgeDropSaid : Prop := fnExactEdgeDropRow.holds Try.pinned (OpenSpec.ofChange fnExactEdgeDropSpec)

/-- ITS FALSE NEIGHBOUR: 'it returns false'. Refute it at one input. -/
def fnExactEdgeDropWrong : ChangeSpec := { name := "fnExactEdgeDrop", fn := fun _ => fun
  | [d1, d2] => { results := [.lit (.bool false)], args := [d1, d2] }
  | _ => none }
def FnExactEdgeDropWrongFalsely : Prop := fnExactEdgeDropRow.holds Try.pinned (OpenSpec.ofChange fnExactEdgeDropWrong)

/-- 'laws.FnExactEdgeHas': WHATEVER THE INPUT: true; the input reads as it did. -/
def fnExactEdgeHasSpec : ChangeSpec := { name := "fnExactEdgeHas", fn := fun _ => fun
  | [d1, d2] => { results := [.lit (.bool true)], args := [d1, d2] }
  | _ => none }
def fnExactEdgeHasRow : OpenClaim := { program := "ytelhldpidgahoab", sum := "35fb0158899d04c542a145550d2df416ccfcb26637547a242ce01f61b744ffd8", func := "loop.example/kith/laws.FnExactEdgeHas", spec := "fnExactEdgeHas", apart := false }
def FnExactEdgeHasSaid : Prop := fnExactEdgeHasRow.holds Try.pinned (OpenSpec.ofChange fnExactEdgeHasSpec)

/-- ITS FALSE NEIGHBOUR: 'it returns false'. Refute it at one input. -/
def fnExactEdgeHasWrong : ChangeSpec := { name := "fnExactEdgeHas", fn := fun _ => fun
  | [d1, d2] => { results := [.lit (.bool false)], args := [d1, d2] }
  | _ => none }
def FnExactEdgeHasWrongFalsely : Prop := fnExactEdgeHasRow.holds Try.pinned (OpenSpec.ofChange fnExactEdgeHasWrong)

/-- 'laws.FnExactEdgeRange': WHATEVER THE INPUT: true; the input reads as it did. -/
def fnExactEdgeRangeSpec : ChangeSpec := { name := "fnExactEdgeRange", fn := fun _ => fun
  | [d1, d2, d3] => { results := [.lit (.bool true)], args := [d1, d2, d3] }
  | _ => none }
def fnExactEdgeRangeRow : OpenClaim := { program := "ytelhldpidgahoab", sum := "35fb0158899d04c542a145550d2df416ccfcb26637547a242ce01f61b744ffd8", func := "loop.example/kith/laws.FnExactEdgeRange", spec := "fnExactEdgeRange", unfollowed := true, recurses := true, apart := false }
def FnExactEdgeRangeSaid : Prop := fnExactEdgeRangeRow.holds Try.pinned (OpenSpec.ofChange fnExactEdgeRangeSpec)

/-- ITS FALSE NEIGHBOUR: 'it returns false'. Refute it at one input. -/
def fnExactEdgeRangeWrong : ChangeSpec := { name := "fnExactEdgeRange", fn := fun _ => fun
  | [d1, d2, d3] => { results := [.lit (.bool false)], args := [d1, d2, d3] }
  | _ => none }
def FnExactEdgeRangeWrongFalsely : Prop := fnExactEdgeRangeRow.holds Try.pinned (OpenSpec.ofChange fnExactEdgeRangeWrong)

/-- 'laws.FnExactEdgeTime': WHATEVER THE INPUT: true; the input reads as it did. -/
def fnExactEdgeTimeSpec : ChangeSpec := { name := "fnExactEdgeTime", fn := fun _ => fun
  | [d1, d2, d3] => { results := [.lit (.bool true)], args := [d1, d2, d3] }
  | _ => none }
def fnExactEdgeTimeRow : OpenClaim := { program := "ytelhldpidgahoab", sum := "35fb0158899d04c542a145550d2df416ccfcb26637547a242ce01f61b744ffd8", func := "loop.example/kith/laws.FnExactEdgeTime", spec := "fnExactEdgeTime", unfollowed := true, recurses := true, apart := false }
def FnExactEdgeTimeSaid : Prop := fnExactEdgeTimeRow.holds Try.pinned (OpenSpec.ofChange fnExactEdgeTimeSpec)

/-- ITS FALSE NEIGHBOUR: 'it returns false'. Refute it at one input. -/
def fnExactEdgeTimeWrong : ChangeSpec := { name := "fnExactEdgeTime", fn := fun _ => fun
  | [d1, d2, d3] => { results := [.lit (.bool false)], args := [d1, d2, d3] }
  | _ => none }
def FnExactEdgeTimeWrongFalsely : Prop := fnExactEdgeTimeRow.holds Try.pinned (OpenSpec.ofChange fnExactEdgeTimeWrong)

/- THE SECOND FORM. 'bulk': how many values and letters a reading holds, each counted each time it is reached (what is shared counts as often as it is met; a slice's spare places count too). A statement '..UptoSaid' is the law's where the arguments, and the package variables that the reading takes, are together of bulk at most 1048576: NARROWER than '..Said'. Prove '..Said' where nothing that the law and all that it calls make is longer than what came in: it says more and counts as full. Else prove '..UptoSaid'. A law counts once. -/
mutual
def uptoBulk {H : Type} : DataW H → Nat
  | .lit (.string bytes) => bytes.length + 1
  | .lit _ => 1
  | .nil => 1
  | .ptr d => uptoBulk d + 1
  | .slice elems spare => uptoBulkAll elems + uptoBulkAll spare + 1
  | .agg parts => uptoBulkAll parts + 1
  | .iface _ d => uptoBulk d + 1
  | .map entries => uptoBulkEntries entries + 1
  | .held _ => 1
def uptoBulkAll {H : Type} : List (DataW H) → Nat
  | [] => 0
  | d :: r => uptoBulk d + uptoBulkAll r
def uptoBulkEntries {H : Type} : List (Lit × DataW H) → Nat
  | [] => 0
  | x :: r => uptoBulkEntry x + uptoBulkEntries r
def uptoBulkEntry {H : Type} : Lit × DataW H → Nat
  | (.string bytes, d) => bytes.length + uptoBulk d + 1
  | (_, d) => uptoBulk d + 1
 end
def uptoSmall : (H : Type) → List (DataW H) → Bool := fun _ ds => decide (uptoBulkAll ds ≤ 1048576)
def OpenSpec.upto (s : _root_.Go.ChangeSpec) : _root_.Go.OpenSpec := { _root_.Go.OpenSpec.ofChange s with cond := some uptoSmall }

/-- 'laws.FnExactEdgeAdd', WHERE WHAT IT READS IS OF BULK AT MOST 1048576: true; the input reads as it did. -/
def fnExactEdgeAddUptoRow : OpenClaim := { program := "ytelhldpidgahoab", sum := "35fb0158899d04c542a145550d2df416ccfcb26637547a242ce01f61b744ffd8", func := "loop.example/kith/laws.FnExactEdgeAdd", spec := "fnExactEdgeAdd", inPlace := ["slices.overlaps[loop.example/kith/impl.Edge]"], unfollowed := true, recurses := true, apart := false, narrowed := true }
def FnExactEdgeAddUptoSaid : Prop := fnExactEdgeAddUptoRow.holds Try.pinned (OpenSpec.upto fnExactEdgeAddSpec)

/-- 'laws.FnExactEdgeDrop', WHERE WHAT IT READS IS OF BULK AT MOST 1048576: true; the input reads as it did. -/
def fnExactEdgeDropUptoRow : OpenClaim := { program := "ytelhldpidgahoab", sum := "35fb0158899d04c542a145550d2df416ccfcb26637547a242ce01f61b744ffd8", func := "loop.example/kith/laws.FnExactEdgeDrop", spec := "fnExactEdgeDrop", unfollowed := true, recurses := true, apart := false, narrowed := true }
def FnExactEdgeDropUptoSaid : Prop := fnExactEdgeDropUptoRow.holds Try.pinned (OpenSpec.upto fnExactEdgeDropSpec)

/-- 'laws.FnExactEdgeHas', WHERE WHAT IT READS IS OF BULK AT MOST 1048576: true; the input reads as it did. -/
def fnExactEdgeHasUptoRow : OpenClaim := { program := "ytelhldpidgahoab", sum := "35fb0158899d04c542a145550d2df416ccfcb26637547a242ce01f61b744ffd8", func := "loop.example/kith/laws.FnExactEdgeHas", spec := "fnExactEdgeHas", apart := false, narrowed := true }
def FnExactEdgeHasUptoSaid : Prop := fnExactEdgeHasUptoRow.holds Try.pinned (OpenSpec.upto fnExactEdgeHasSpec)

/-- 'laws.FnExactEdgeRange', WHERE WHAT IT READS IS OF BULK AT MOST 1048576: true; the input reads as it did. -/
def fnExactEdgeRangeUptoRow : OpenClaim := { program := "ytelhldpidgahoab", sum := "35fb0158899d04c542a145550d2df416ccfcb26637547a242ce01f61b744ffd8", func := "loop.example/kith/laws.FnExactEdgeRange", spec := "fnExactEdgeRange", unfollowed := true, recurses := true, apart := false, narrowed := true }
def FnExactEdgeRangeUptoSaid : Prop := fnExactEdgeRangeUptoRow.holds Try.pinned (OpenSpec.upto fnExactEdgeRangeSpec)

/-- 'laws.FnExactEdgeTime', WHERE WHAT IT READS IS OF BULK AT MOST 1048576: true; the input reads as it did. -/
def fnExactEdgeTimeUptoRow : OpenClaim := { program := "ytelhldpidgahoab", sum := "35fb0158899d04c542a145550d2df416ccfcb26637547a242ce01f61b744ffd8", func := "loop.example/kith/laws.FnExactEdgeTime", spec := "fnExactEdgeTime", unfollowed := true, recurses := true, apart := false, narrowed := true }
def FnExactEdgeTimeUptoSaid : Prop := fnExactEdgeTimeUptoRow.holds Try.pinned (OpenSpec.upto fnExactEdgeTimeSpec)

end Rows
end Go.Proofs.Ytelhldpidgahoab
