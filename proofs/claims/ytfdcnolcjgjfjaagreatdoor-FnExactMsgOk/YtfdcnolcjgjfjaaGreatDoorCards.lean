/-
  DERIVED. GIVEN WITH THE SEED: THE CARDS: each row of YtfdcnolcjgjfjaaGreatDoorRows.lean that lists a variable, with what it lists TIED to the program's text (the seventh form; the later family's looks); each row that meets fmt, with fmt's text TOLD by the authors' own Lean function (tested against real Go, not proved from fmt's source: count such statements apart). THE CARD IS WHAT COUNTS. Prove the row's statement (the work); the ties are given (YtfdcnolcjgjfjaaGreatDoorTie.lean); close each card by the builder's one call (the guide's Derived/Test/ToyasCard.lean, 'card_holds'). Laid BY PROGRAM, IN A SANDBOX (cutbox-door.mjs). By AI agents, Wed Nov 11 2026. No macro, syntax, notation, axiom, sorry.
-/
import Derived.Test.YtfdcnolcjgjfjaaGreatDoorRows
import GoSem.ClaimSeven
namespace Go.Proofs.YtfdcnolcjgjfjaaGreatDoor
namespace Rows

/-- THE TIED CARD OF 'laws.FnMsg'. -/
def fnMsgCard : Claim7 := { stood := { row := fnMsgRow, standIns := [], harness := (true, "a087934738002e472d2fff94a8a549ad4a6a253239c87f29a60cf4532b2a6dff"), looks := true }, kinds := [], alts := [], laidByText := true, laidKinds := [.data, .data, .data, .data, .sentinel, .sentinel, .data, .sentinel, .pinned], laidTests := true, laidLooks := .later }
def FnMsgCardSaid : Prop := Claim7.holds Tryz.pinned (.plain (OpenSpec.ofChange fnMsgSpec)) fnMsgCard

/-- THE TIED CARD OF 'laws.FnMsgKinds'. -/
def fnMsgKindsCard : Claim7 := { stood := { row := fnMsgKindsRow, standIns := [], harness := (true, "a087934738002e472d2fff94a8a549ad4a6a253239c87f29a60cf4532b2a6dff"), looks := true }, kinds := [], alts := [], laidByText := true, laidKinds := [.data, .data, .data, .data, .sentinel], laidTests := true, laidLooks := .later }
def FnMsgKindsCardSaid : Prop := Claim7.holds Tryz.pinned (.plain (OpenSpec.ofChange fnMsgKindsSpec)) fnMsgKindsCard

/-- THE TIED CARD OF 'laws.FnMsgSame'. -/
def fnMsgSameCard : Claim7 := { stood := { row := fnMsgSameRow, standIns := [], harness := (true, "a087934738002e472d2fff94a8a549ad4a6a253239c87f29a60cf4532b2a6dff"), looks := true }, kinds := [], alts := [], laidByText := true, laidKinds := [.data, .data, .data, .data, .sentinel], laidTests := true, laidLooks := .later }
def FnMsgSameCardSaid : Prop := Claim7.holds Tryz.pinned (.plain (OpenSpec.ofChange fnMsgSameSpec)) fnMsgSameCard

/-- THE TIED CARD OF 'laws.FnExactMsgOk'. -/
def fnExactMsgOkCard : Claim7 := { stood := { row := fnExactMsgOkRow, standIns := [], harness := (true, "a087934738002e472d2fff94a8a549ad4a6a253239c87f29a60cf4532b2a6dff"), looks := true }, kinds := [], alts := [], laidByText := true, laidKinds := [.sentinel], laidTests := true, laidLooks := .later }
def FnExactMsgOkCardSaid : Prop := Claim7.holds Tryz.pinned (.plain (OpenSpec.ofChange fnExactMsgOkSpec)) fnExactMsgOkCard

/-- THE SECOND FORM's CARD OF 'laws.FnMsg'. -/
def fnMsgUptoCard : Claim7 := { stood := { row := fnMsgUptoRow, standIns := [], harness := (true, "a087934738002e472d2fff94a8a549ad4a6a253239c87f29a60cf4532b2a6dff"), looks := true }, kinds := [], alts := [], laidByText := true, laidKinds := [.data, .data, .data, .data, .sentinel, .sentinel, .data, .sentinel, .pinned], laidTests := true, laidLooks := .later }
def FnMsgUptoCardSaid : Prop := Claim7.holds Tryz.pinned (.plain (OpenSpec.upto fnMsgSpec)) fnMsgUptoCard

/-- THE SECOND FORM's CARD OF 'laws.FnMsgKinds'. -/
def fnMsgKindsUptoCard : Claim7 := { stood := { row := fnMsgKindsUptoRow, standIns := [], harness := (true, "a087934738002e472d2fff94a8a549ad4a6a253239c87f29a60cf4532b2a6dff"), looks := true }, kinds := [], alts := [], laidByText := true, laidKinds := [.data, .data, .data, .data, .sentinel], laidTests := true, laidLooks := .later }
def FnMsgKindsUptoCardSaid : Prop := Claim7.holds Tryz.pinned (.plain (OpenSpec.upto fnMsgKindsSpec)) fnMsgKindsUptoCard

/-- THE SECOND FORM's CARD OF 'laws.FnMsgSame'. -/
def fnMsgSameUptoCard : Claim7 := { stood := { row := fnMsgSameUptoRow, standIns := [], harness := (true, "a087934738002e472d2fff94a8a549ad4a6a253239c87f29a60cf4532b2a6dff"), looks := true }, kinds := [], alts := [], laidByText := true, laidKinds := [.data, .data, .data, .data, .sentinel], laidTests := true, laidLooks := .later }
def FnMsgSameUptoCardSaid : Prop := Claim7.holds Tryz.pinned (.plain (OpenSpec.upto fnMsgSameSpec)) fnMsgSameUptoCard

/-- THE SECOND FORM's CARD OF 'laws.FnExactMsgOk'. -/
def fnExactMsgOkUptoCard : Claim7 := { stood := { row := fnExactMsgOkUptoRow, standIns := [], harness := (true, "a087934738002e472d2fff94a8a549ad4a6a253239c87f29a60cf4532b2a6dff"), looks := true }, kinds := [], alts := [], laidByText := true, laidKinds := [.sentinel], laidTests := true, laidLooks := .later }
def FnExactMsgOkUptoCardSaid : Prop := Claim7.holds Tryz.pinned (.plain (OpenSpec.upto fnExactMsgOkSpec)) fnExactMsgOkUptoCard
end Rows
end Go.Proofs.YtfdcnolcjgjfjaaGreatDoor
