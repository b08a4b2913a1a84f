/-
  DERIVED. GIVEN WITH THE SEED: THE CARDS: each row of YtnpfkhbnfihbdacDoorRows.lean that lists a variable, with what it lists TIED to the program's text (the seventh form; the later family's looks); each row that meets fmt, with fmt's text TOLD by the authors' own Lean function (tested against real Go, not proved from fmt's source: count such statements apart). THE CARD IS WHAT COUNTS. Prove the row's statement (the work); the ties are given (YtnpfkhbnfihbdacDoorTie.lean); close each card by the builder's one call (the guide's Derived/Test/ToyasCard.lean, 'card_holds'). Laid BY PROGRAM, IN A SANDBOX (cutbox-door.mjs). By AI agents, Wed Nov 11 2026. No macro, syntax, notation, axiom, sorry.
-/
import Derived.Test.YtnpfkhbnfihbdacDoorRows
import GoSem.ClaimSeven
namespace Go.Proofs.YtnpfkhbnfihbdacDoor
namespace Rows

/-- THE TIED CARD OF 'laws.FnExactEdgeRead'. -/
def fnExactEdgeReadCard : Claim7 := { stood := { row := fnExactEdgeReadRow, standIns := [], harness := (true, "a0c4a69388a4ae2e056b2189254c216d30fdb084c2d6a2449c0f802f212d9971"), looks := true }, kinds := [], alts := [], laidByText := true, laidKinds := [.data, .data, .data, .data, .sentinel, .sentinel, .pinned], laidTests := true, laidLooks := .later }
def FnExactEdgeReadCardSaid : Prop := Claim7.holds Tryd.pinned (.plain (OpenSpec.ofChange fnExactEdgeReadSpec)) fnExactEdgeReadCard

/-- THE TIED CARD OF 'laws.FnExactValRead'. -/
def fnExactValReadCard : Claim7 := { stood := { row := fnExactValReadRow, standIns := [], harness := (true, "a0c4a69388a4ae2e056b2189254c216d30fdb084c2d6a2449c0f802f212d9971"), looks := true }, kinds := [], alts := [], laidByText := true, laidKinds := [.data, .data, .data, .data, .sentinel, .sentinel, .pinned], laidTests := true, laidLooks := .later }
def FnExactValReadCardSaid : Prop := Claim7.holds Tryd.pinned (.plain (OpenSpec.ofChange fnExactValReadSpec)) fnExactValReadCard

/-- THE SECOND FORM's CARD OF 'laws.FnExactEdgeRead'. -/
def fnExactEdgeReadUptoCard : Claim7 := { stood := { row := fnExactEdgeReadUptoRow, standIns := [], harness := (true, "a0c4a69388a4ae2e056b2189254c216d30fdb084c2d6a2449c0f802f212d9971"), looks := true }, kinds := [], alts := [], laidByText := true, laidKinds := [.data, .data, .data, .data, .sentinel, .sentinel, .pinned], laidTests := true, laidLooks := .later }
def FnExactEdgeReadUptoCardSaid : Prop := Claim7.holds Tryd.pinned (.plain (OpenSpec.upto fnExactEdgeReadSpec)) fnExactEdgeReadUptoCard

/-- THE SECOND FORM's CARD OF 'laws.FnExactValRead'. -/
def fnExactValReadUptoCard : Claim7 := { stood := { row := fnExactValReadUptoRow, standIns := [], harness := (true, "a0c4a69388a4ae2e056b2189254c216d30fdb084c2d6a2449c0f802f212d9971"), looks := true }, kinds := [], alts := [], laidByText := true, laidKinds := [.data, .data, .data, .data, .sentinel, .sentinel, .pinned], laidTests := true, laidLooks := .later }
def FnExactValReadUptoCardSaid : Prop := Claim7.holds Tryd.pinned (.plain (OpenSpec.upto fnExactValReadSpec)) fnExactValReadUptoCard
end Rows
end Go.Proofs.YtnpfkhbnfihbdacDoor
