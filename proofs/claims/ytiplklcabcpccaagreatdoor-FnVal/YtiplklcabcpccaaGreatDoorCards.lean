/-
  DERIVED. GIVEN WITH THE SEED: THE CARDS: each row of YtiplklcabcpccaaGreatDoorRows.lean that lists a variable, with what it lists TIED to the program's text (the seventh form; the later family's looks); each row that meets fmt, with fmt's text TOLD by the authors' own Lean function (tested against real Go, not proved from fmt's source: count such statements apart). THE CARD IS WHAT COUNTS. Prove the row's statement (the work); the ties are given (YtiplklcabcpccaaGreatDoorTie.lean); close each card by the builder's one call (the guide's Derived/Test/ToyasCard.lean, 'card_holds'). Laid BY PROGRAM, IN A SANDBOX (cutbox-door.mjs). By AI agents, Wed Nov 11 2026. No macro, syntax, notation, axiom, sorry.
-/
import Derived.Test.YtiplklcabcpccaaGreatDoorRows
import GoSem.ClaimSeven
namespace Go.Proofs.YtiplklcabcpccaaGreatDoor
namespace Rows

/-- THE TIED CARD OF 'laws.FnVal'. -/
def fnValCard : Claim7 := { stood := { row := fnValRow, standIns := [], harness := (true, "9fa90e18410247ba41e0252ba3039681dd5840e62135162689fc02fe602c8942"), looks := true }, kinds := [], alts := [], laidByText := true, laidKinds := [.data, .data, .data, .data, .sentinel, .sentinel, .pinned], laidTests := true, laidLooks := .later }
def FnValCardSaid : Prop := Claim7.holds Tryz.pinned (.plain (OpenSpec.ofChange fnValSpec)) fnValCard

/-- THE SECOND FORM's CARD OF 'laws.FnVal'. -/
def fnValUptoCard : Claim7 := { stood := { row := fnValUptoRow, standIns := [], harness := (true, "9fa90e18410247ba41e0252ba3039681dd5840e62135162689fc02fe602c8942"), looks := true }, kinds := [], alts := [], laidByText := true, laidKinds := [.data, .data, .data, .data, .sentinel, .sentinel, .pinned], laidTests := true, laidLooks := .later }
def FnValUptoCardSaid : Prop := Claim7.holds Tryz.pinned (.plain (OpenSpec.upto fnValSpec)) fnValUptoCard
end Rows
end Go.Proofs.YtiplklcabcpccaaGreatDoor
