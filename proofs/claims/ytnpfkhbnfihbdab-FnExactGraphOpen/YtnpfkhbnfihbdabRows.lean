/-
  No cell of these rows narrows 'for every input' (looked for: loops, veiled, ifaces, maps, wideKeys, modest, calm, conditions, laid).
  DERIVED. THE GIVEN ROWS OF THIS SEAT. 6 by the template 'for every input the law returns true; each argument reads behind the call as it read before'; 0 by the template 'total and deterministic' (their statements: YtnpfkhbnfihbdabTotals.lean).
  GIVEN WITH THE SEED: the statements are not yours to turn. If you find one false, say at which input.
  Laid BY PROGRAM, IN A SANDBOX (cutbox-rows.mjs): the forced cells as the released guide's own fill.sh prints them over the translation c986738d361e94b7… (all of the seat's roots in one cut). By AI agents, Wed Nov 11 2026. No macro, syntax, notation, axiom, sorry.
-/
import Derived.Test.YtnpfkhbnfihbdabChecked
import GoSem.Claim
import GoSem.ClaimJoined
import GoSem.ClaimMapViews
import Derived.JoinedTies
import Derived.KernelRfl
namespace Go.Proofs.Ytnpfkhbnfihbdab
/- THE CELL 'sum', in the pinned program and in every row, IS THE sha256 OF THE DUMP (.gsa) THAT YtnpfkhbnfihbdabProg.lean LOADS. Nothing in Lean hashes anything: it is a label: what it is worth is what the hold of that sum in a sandbox is worth. -/
noncomputable def Try.pinned : Pinned := { name := "ytnpfkhbnfihbdab", sum := "c986738d361e94b73920f3c65f46c3414dfddd01f08b9dbb385b5d7e34353234", checked := Try.checked }
namespace Rows
def none {H : Type} : Left H := { results := [], args := [] }

/-- 'laws.FnExactOpOther': WHATEVER THE INPUT: true; the input reads as it did. -/
def fnExactOpOtherSpec : ChangeSpec := { name := "fnExactOpOther", fn := fun _ => fun
  | [d] => { results := [.lit (.bool true)], args := [d] }
  | _ => none }
def fnExactOpOtherRow : OpenClaim := { program := "ytnpfkhbnfihbdab", sum := "c986738d361e94b73920f3c65f46c3414dfddd01f08b9dbb385b5d7e34353234", func := "loop.example/kith/laws.FnExactOpOther", spec := "fnExactOpOther", unfollowed := true, recurses := true, apart := false }
def FnExactOpOtherSaid : Prop := fnExactOpOtherRow.holds Try.pinned (OpenSpec.ofChange fnExactOpOtherSpec)

/-- ITS FALSE NEIGHBOUR: 'it returns false'. Refute it at one input. -/
def fnExactOpOtherWrong : ChangeSpec := { name := "fnExactOpOther", fn := fun _ => fun
  | [d] => { results := [.lit (.bool false)], args := [d] }
  | _ => none }
def FnExactOpOtherWrongFalsely : Prop := fnExactOpOtherRow.holds Try.pinned (OpenSpec.ofChange fnExactOpOtherWrong)

/-- 'laws.FnExactOpDo': WHATEVER THE INPUT: true; the input reads as it did. -/
def fnExactOpDoSpec : ChangeSpec := { name := "fnExactOpDo", fn := fun _ => fun
  | [d1, d2] => { results := [.lit (.bool true)], args := [d1, d2] }
  | _ => none }
def fnExactOpDoRow : OpenClaim := { program := "ytnpfkhbnfihbdab", sum := "c986738d361e94b73920f3c65f46c3414dfddd01f08b9dbb385b5d7e34353234", func := "loop.example/kith/laws.FnExactOpDo", spec := "fnExactOpDo", unfollowed := true, recurses := true, apart := false }
def FnExactOpDoSaid : Prop := fnExactOpDoRow.holds Try.pinned (OpenSpec.ofChange fnExactOpDoSpec)

/-- ITS FALSE NEIGHBOUR: 'it returns false'. Refute it at one input. -/
def fnExactOpDoWrong : ChangeSpec := { name := "fnExactOpDo", fn := fun _ => fun
  | [d1, d2] => { results := [.lit (.bool false)], args := [d1, d2] }
  | _ => none }
def FnExactOpDoWrongFalsely : Prop := fnExactOpDoRow.holds Try.pinned (OpenSpec.ofChange fnExactOpDoWrong)

/-- 'laws.FnExactOpBack': WHATEVER THE INPUT: true; the input reads as it did. -/
def fnExactOpBackSpec : ChangeSpec := { name := "fnExactOpBack", fn := fun _ => fun
  | [d1, d2] => { results := [.lit (.bool true)], args := [d1, d2] }
  | _ => none }
def fnExactOpBackRow : OpenClaim := { program := "ytnpfkhbnfihbdab", sum := "c986738d361e94b73920f3c65f46c3414dfddd01f08b9dbb385b5d7e34353234", func := "loop.example/kith/laws.FnExactOpBack", spec := "fnExactOpBack", unfollowed := true, recurses := true, apart := false }
def FnExactOpBackSaid : Prop := fnExactOpBackRow.holds Try.pinned (OpenSpec.ofChange fnExactOpBackSpec)

/-- ITS FALSE NEIGHBOUR: 'it returns false'. Refute it at one input. -/
def fnExactOpBackWrong : ChangeSpec := { name := "fnExactOpBack", fn := fun _ => fun
  | [d1, d2] => { results := [.lit (.bool false)], args := [d1, d2] }
  | _ => none }
def FnExactOpBackWrongFalsely : Prop := fnExactOpBackRow.holds Try.pinned (OpenSpec.ofChange fnExactOpBackWrong)

/-- 'laws.FnExactGraphOpen': WHATEVER THE INPUT: true; the input reads as it did. -/
def fnExactGraphOpenSpec : ChangeSpec := { name := "fnExactGraphOpen", fn := fun _ => fun
  | [] => { results := [.lit (.bool true)], args := [] }
  | _ => none }
def fnExactGraphOpenRow : OpenClaim := { program := "ytnpfkhbnfihbdab", sum := "c986738d361e94b73920f3c65f46c3414dfddd01f08b9dbb385b5d7e34353234", func := "loop.example/kith/laws.FnExactGraphOpen", spec := "fnExactGraphOpen", apart := false }
def FnExactGraphOpenSaid : Prop := fnExactGraphOpenRow.holds Try.pinned (OpenSpec.ofChange fnExactGraphOpenSpec)

/-- ITS FALSE NEIGHBOUR: 'it returns false'. Refute it at one input. -/
def fnExactGraphOpenWrong : ChangeSpec := { name := "fnExactGraphOpen", fn := fun _ => fun
  | [] => { results := [.lit (.bool false)], args := [] }
  | _ => none }
def FnExactGraphOpenWrongFalsely : Prop := fnExactGraphOpenRow.holds Try.pinned (OpenSpec.ofChange fnExactGraphOpenWrong)

/-- 'laws.FnExactGraphOk': WHATEVER THE INPUT: true; the input reads as it did. -/
def fnExactGraphOkSpec : ChangeSpec := { name := "fnExactGraphOk", fn := fun _ => fun
  | [d] => { results := [.lit (.bool true)], args := [d] }
  | _ => none }
def fnExactGraphOkRow : OpenClaim := { program := "ytnpfkhbnfihbdab", sum := "c986738d361e94b73920f3c65f46c3414dfddd01f08b9dbb385b5d7e34353234", func := "loop.example/kith/laws.FnExactGraphOk", spec := "fnExactGraphOk", inPlace := ["slices.overlaps[loop.example/kith/impl.Edge]"], unfollowed := true, recurses := true, apart := false }
def FnExactGraphOkSaid : Prop := fnExactGraphOkRow.holds Try.pinned (OpenSpec.ofChange fnExactGraphOkSpec)

/-- ITS FALSE NEIGHBOUR: 'it returns false'. Refute it at one input. -/
def fnExactGraphOkWrong : ChangeSpec := { name := "fnExactGraphOk", fn := fun _ => fun
  | [d] => { results := [.lit (.bool false)], args := [d] }
  | _ => none }
def FnExactGraphOkWrongFalsely : Prop := fnExactGraphOkRow.holds Try.pinned (OpenSpec.ofChange fnExactGraphOkWrong)

/-- 'laws.FnExactGraphSame': WHATEVER THE INPUT: true; the input reads as it did. -/
def fnExactGraphSameSpec : ChangeSpec := { name := "fnExactGraphSame", fn := fun _ => fun
  | [d1, d2] => { results := [.lit (.bool true)], args := [d1, d2] }
  | _ => none }
def fnExactGraphSameRow : OpenClaim := { program := "ytnpfkhbnfihbdab", sum := "c986738d361e94b73920f3c65f46c3414dfddd01f08b9dbb385b5d7e34353234", func := "loop.example/kith/laws.FnExactGraphSame", spec := "fnExactGraphSame", unfollowed := true, recurses := true, apart := false }
def FnExactGraphSameSaid : Prop := fnExactGraphSameRow.holds Try.pinned (OpenSpec.ofChange fnExactGraphSameSpec)

/-- ITS FALSE NEIGHBOUR: 'it returns false'. Refute it at one input. -/
def fnExactGraphSameWrong : ChangeSpec := { name := "fnExactGraphSame", fn := fun _ => fun
  | [d1, d2] => { results := [.lit (.bool false)], args := [d1, d2] }
  | _ => none }
def FnExactGraphSameWrongFalsely : Prop := fnExactGraphSameRow.holds Try.pinned (OpenSpec.ofChange fnExactGraphSameWrong)

/- THE SECOND FORM. 'bulk': how many values and letters a reading holds, each counted each time it is reached (what is shared counts as often as it is met; a slice's spare places count too). A statement '..UptoSaid' is the law's where the arguments, and the package variables that the reading takes, are together of bulk at most 1048576: NARROWER than '..Said'. Prove '..Said' where nothing that the law and all that it calls make is longer than what came in: it says more and counts as full. Else prove '..UptoSaid'. A law counts once. -/
mutual
def uptoBulk {H : Type} : DataW H → Nat
  | .lit (.string bytes) => bytes.length + 1
  | .lit _ => 1
  | .nil => 1
  | .ptr d => uptoBulk d + 1
  | .slice elems spare => uptoBulkAll elems + uptoBulkAll spare + 1
  | .agg parts => uptoBulkAll parts + 1
  | .iface _ d => uptoBulk d + 1
  | .map entries => uptoBulkEntries entries + 1
  | .held _ => 1
def uptoBulkAll {H : Type} : List (DataW H) → Nat
  | [] => 0
  | d :: r => uptoBulk d + uptoBulkAll r
def uptoBulkEntries {H : Type} : List (Lit × DataW H) → Nat
  | [] => 0
  | x :: r => uptoBulkEntry x + uptoBulkEntries r
def uptoBulkEntry {H : Type} : Lit × DataW H → Nat
  | (.string bytes, d) => bytes.length + uptoBulk d + 1
  | (_, d) => uptoBulk d + 1
 end
def uptoSmall : (H : Type) → List (DataW H) → Bool := fun _ ds => decide (uptoBulkAll ds ≤ 1048576)
def OpenSpec.upto (s : _root_.Go.ChangeSpec) : _root_.Go.OpenSpec := { _root_.Go.OpenSpec.ofChange s with cond := some uptoSmall }

/-- 'laws.FnExactOpOther', WHERE WHAT IT READS IS OF BULK AT MOST 1048576: true; the input reads as it did. -/
def fnExactOpOtherUptoRow : OpenClaim := { program := "ytnpfkhbnfihbdab", sum := "c986738d361e94b73920f3c65f46c3414dfddd01f08b9dbb385b5d7e34353234", func := "loop.example/kith/laws.FnExactOpOther", spec := "fnExactOpOther", unfollowed := true, recurses := true, apart := false, narrowed := true }
def FnExactOpOtherUptoSaid : Prop := fnExactOpOtherUptoRow.holds Try.pinned (OpenSpec.upto fnExactOpOtherSpec)

/-- 'laws.FnExactOpDo', WHERE WHAT IT READS IS OF BULK AT MOST 1048576: true; the input reads as it did. -/
def fnExactOpDoUptoRow : OpenClaim := { program := "ytnpfkhbnfihbdab", sum := "c986738d361e94b73920f3c65f46c3414dfddd01f08b9dbb385b5d7e34353234", func := "loop.example/kith/laws.FnExactOpDo", spec := "fnExactOpDo", unfollowed := true, recurses := true, apart := false, narrowed := true }
def FnExactOpDoUptoSaid : Prop := fnExactOpDoUptoRow.holds Try.pinned (OpenSpec.upto fnExactOpDoSpec)

/-- 'laws.FnExactOpBack', WHERE WHAT IT READS IS OF BULK AT MOST 1048576: true; the input reads as it did. -/
def fnExactOpBackUptoRow : OpenClaim := { program := "ytnpfkhbnfihbdab", sum := "c986738d361e94b73920f3c65f46c3414dfddd01f08b9dbb385b5d7e34353234", func := "loop.example/kith/laws.FnExactOpBack", spec := "fnExactOpBack", unfollowed := true, recurses := true, apart := false, narrowed := true }
def FnExactOpBackUptoSaid : Prop := fnExactOpBackUptoRow.holds Try.pinned (OpenSpec.upto fnExactOpBackSpec)

/-- 'laws.FnExactGraphOpen', WHERE WHAT IT READS IS OF BULK AT MOST 1048576: true; the input reads as it did. -/
def fnExactGraphOpenUptoRow : OpenClaim := { program := "ytnpfkhbnfihbdab", sum := "c986738d361e94b73920f3c65f46c3414dfddd01f08b9dbb385b5d7e34353234", func := "loop.example/kith/laws.FnExactGraphOpen", spec := "fnExactGraphOpen", apart := false, narrowed := true }
def FnExactGraphOpenUptoSaid : Prop := fnExactGraphOpenUptoRow.holds Try.pinned (OpenSpec.upto fnExactGraphOpenSpec)

/-- 'laws.FnExactGraphOk', WHERE WHAT IT READS IS OF BULK AT MOST 1048576: true; the input reads as it did. -/
def fnExactGraphOkUptoRow : OpenClaim := { program := "ytnpfkhbnfihbdab", sum := "c986738d361e94b73920f3c65f46c3414dfddd01f08b9dbb385b5d7e34353234", func := "loop.example/kith/laws.FnExactGraphOk", spec := "fnExactGraphOk", inPlace := ["slices.overlaps[loop.example/kith/impl.Edge]"], unfollowed := true, recurses := true, apart := false, narrowed := true }
def FnExactGraphOkUptoSaid : Prop := fnExactGraphOkUptoRow.holds Try.pinned (OpenSpec.upto fnExactGraphOkSpec)

/-- 'laws.FnExactGraphSame', WHERE WHAT IT READS IS OF BULK AT MOST 1048576: true; the input reads as it did. -/
def fnExactGraphSameUptoRow : OpenClaim := { program := "ytnpfkhbnfihbdab", sum := "c986738d361e94b73920f3c65f46c3414dfddd01f08b9dbb385b5d7e34353234", func := "loop.example/kith/laws.FnExactGraphSame", spec := "fnExactGraphSame", unfollowed := true, recurses := true, apart := false, narrowed := true }
def FnExactGraphSameUptoSaid : Prop := fnExactGraphSameUptoRow.holds Try.pinned (OpenSpec.upto fnExactGraphSameSpec)

end Rows
end Go.Proofs.Ytnpfkhbnfihbdab
