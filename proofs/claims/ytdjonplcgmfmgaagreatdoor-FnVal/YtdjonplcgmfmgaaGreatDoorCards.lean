/-
  DERIVED. GIVEN WITH THE SEED: THE CARDS: each row of YtdjonplcgmfmgaaGreatDoorRows.lean that lists a variable, with what it lists TIED to the program's text (the seventh form; the later family's looks); each row that meets fmt, with fmt's text TOLD by the authors' own Lean function (tested against real Go, not proved from fmt's source: count such statements apart). THE CARD IS WHAT COUNTS. Prove the row's statement (the work); the ties are given (YtdjonplcgmfmgaaGreatDoorTie.lean); close each card by the builder's one call (the guide's Derived/Test/ToyasCard.lean, 'card_holds'). Laid BY PROGRAM, IN A SANDBOX (cutbox-door.mjs). By AI agents, Wed Nov 11 2026. No macro, syntax, notation, axiom, sorry.
-/
import Derived.Test.YtdjonplcgmfmgaaGreatDoorRows
import GoSem.ClaimSeven
namespace Go.Proofs.YtdjonplcgmfmgaaGreatDoor
namespace Rows

/-- THE TIED CARD OF 'laws.FnEdgeRange'. -/
def fnEdgeRangeCard : Claim7 := { stood := { row := fnEdgeRangeRow, standIns := [], harness := (true, "060c0ab2dd3319b8fcf83532e5fe3cea8aff29b0639748d82347ba918030b1c0"), looks := true }, kinds := [], alts := [], laidByText := true, laidKinds := [.data, .data, .data, .data, .sentinel, .sentinel, .pinned], laidTests := true, laidLooks := .later }
def FnEdgeRangeCardSaid : Prop := Claim7.holds Tryz.pinned (.plain (OpenSpec.ofChange fnEdgeRangeSpec)) fnEdgeRangeCard

/-- THE TIED CARD OF 'laws.FnVal'. -/
def fnValCard : Claim7 := { stood := { row := fnValRow, standIns := [], harness := (true, "060c0ab2dd3319b8fcf83532e5fe3cea8aff29b0639748d82347ba918030b1c0"), looks := true }, kinds := [], alts := [], laidByText := true, laidKinds := [.data, .data, .data, .data, .sentinel, .sentinel, .pinned], laidTests := true, laidLooks := .later }
def FnValCardSaid : Prop := Claim7.holds Tryz.pinned (.plain (OpenSpec.ofChange fnValSpec)) fnValCard

/-- THE SECOND FORM's CARD OF 'laws.FnEdgeRange'. -/
def fnEdgeRangeUptoCard : Claim7 := { stood := { row := fnEdgeRangeUptoRow, standIns := [], harness := (true, "060c0ab2dd3319b8fcf83532e5fe3cea8aff29b0639748d82347ba918030b1c0"), looks := true }, kinds := [], alts := [], laidByText := true, laidKinds := [.data, .data, .data, .data, .sentinel, .sentinel, .pinned], laidTests := true, laidLooks := .later }
def FnEdgeRangeUptoCardSaid : Prop := Claim7.holds Tryz.pinned (.plain (OpenSpec.upto fnEdgeRangeSpec)) fnEdgeRangeUptoCard

/-- THE SECOND FORM's CARD OF 'laws.FnVal'. -/
def fnValUptoCard : Claim7 := { stood := { row := fnValUptoRow, standIns := [], harness := (true, "060c0ab2dd3319b8fcf83532e5fe3cea8aff29b0639748d82347ba918030b1c0"), looks := true }, kinds := [], alts := [], laidByText := true, laidKinds := [.data, .data, .data, .data, .sentinel, .sentinel, .pinned], laidTests := true, laidLooks := .later }
def FnValUptoCardSaid : Prop := Claim7.holds Tryz.pinned (.plain (OpenSpec.upto fnValSpec)) fnValUptoCard
end Rows
end Go.Proofs.YtdjonplcgmfmgaaGreatDoor
