/-
  DERIVED. GIVEN WITH THE SEED: THE CARDS: each row of YtdcendbfkjmfjabDoorRows.lean that lists a variable, with what it lists TIED to the program's text (the seventh form; the later family's looks); each row that meets fmt, with fmt's text TOLD by the authors' own Lean function (tested against real Go, not proved from fmt's source: count such statements apart). THE CARD IS WHAT COUNTS. Prove the row's statement (the work); the ties are given (YtdcendbfkjmfjabDoorTie.lean); close each card by the builder's one call (the guide's Derived/Test/ToyasCard.lean, 'card_holds'). Laid BY PROGRAM, IN A SANDBOX (cutbox-door.mjs). By AI agents, Wed Nov 11 2026. No macro, syntax, notation, axiom, sorry.
-/
import Derived.Test.YtdcendbfkjmfjabDoorRows
import GoSem.ClaimSeven
namespace Go.Proofs.YtdcendbfkjmfjabDoor
namespace Rows

/-- THE TIED CARD OF 'laws.FnValSame'. -/
def fnValSameCard : Claim7 := { stood := { row := fnValSameRow, standIns := [], harness := (true, "31b0bd6fe7f1190784fde881de2b5bc5a441e8454b21e0f642af763707138dc4"), looks := true }, kinds := [], alts := [], laidByText := true, laidKinds := [.data, .data, .data], laidTests := true, laidLooks := .later }
def FnValSameCardSaid : Prop := Claim7.holds Tryd.pinned (.plain (OpenSpec.ofChange fnValSameSpec)) fnValSameCard

/-- THE TIED CARD OF 'laws.FnExactEdgeText'. -/
def fnExactEdgeTextCard : Claim7 := { stood := { row := fnExactEdgeTextRow, standIns := [], harness := (true, "31b0bd6fe7f1190784fde881de2b5bc5a441e8454b21e0f642af763707138dc4"), looks := true }, kinds := [], alts := [], laidByText := true, laidKinds := [.data, .data, .data], laidTests := true, laidLooks := .later }
def FnExactEdgeTextCardSaid : Prop := Claim7.holds Tryd.pinned (.plain (OpenSpec.ofChange fnExactEdgeTextSpec)) fnExactEdgeTextCard

/-- THE TIED CARD OF 'laws.FnExactEdgeRead'. -/
def fnExactEdgeReadCard : Claim7 := { stood := { row := fnExactEdgeReadRow, standIns := [], harness := (true, "31b0bd6fe7f1190784fde881de2b5bc5a441e8454b21e0f642af763707138dc4"), looks := true }, kinds := [], alts := [], laidByText := true, laidKinds := [.data, .data, .data, .data, .sentinel, .sentinel, .pinned], laidTests := true, laidLooks := .later }
def FnExactEdgeReadCardSaid : Prop := Claim7.holds Tryd.pinned (.plain (OpenSpec.ofChange fnExactEdgeReadSpec)) fnExactEdgeReadCard

/-- THE SECOND FORM's CARD OF 'laws.FnValSame'. -/
def fnValSameUptoCard : Claim7 := { stood := { row := fnValSameUptoRow, standIns := [], harness := (true, "31b0bd6fe7f1190784fde881de2b5bc5a441e8454b21e0f642af763707138dc4"), looks := true }, kinds := [], alts := [], laidByText := true, laidKinds := [.data, .data, .data], laidTests := true, laidLooks := .later }
def FnValSameUptoCardSaid : Prop := Claim7.holds Tryd.pinned (.plain (OpenSpec.upto fnValSameSpec)) fnValSameUptoCard

/-- THE SECOND FORM's CARD OF 'laws.FnExactEdgeText'. -/
def fnExactEdgeTextUptoCard : Claim7 := { stood := { row := fnExactEdgeTextUptoRow, standIns := [], harness := (true, "31b0bd6fe7f1190784fde881de2b5bc5a441e8454b21e0f642af763707138dc4"), looks := true }, kinds := [], alts := [], laidByText := true, laidKinds := [.data, .data, .data], laidTests := true, laidLooks := .later }
def FnExactEdgeTextUptoCardSaid : Prop := Claim7.holds Tryd.pinned (.plain (OpenSpec.upto fnExactEdgeTextSpec)) fnExactEdgeTextUptoCard

/-- THE SECOND FORM's CARD OF 'laws.FnExactEdgeRead'. -/
def fnExactEdgeReadUptoCard : Claim7 := { stood := { row := fnExactEdgeReadUptoRow, standIns := [], harness := (true, "31b0bd6fe7f1190784fde881de2b5bc5a441e8454b21e0f642af763707138dc4"), looks := true }, kinds := [], alts := [], laidByText := true, laidKinds := [.data, .data, .data, .data, .sentinel, .sentinel, .pinned], laidTests := true, laidLooks := .later }
def FnExactEdgeReadUptoCardSaid : Prop := Claim7.holds Tryd.pinned (.plain (OpenSpec.upto fnExactEdgeReadSpec)) fnExactEdgeReadUptoCard
end Rows
end Go.Proofs.YtdcendbfkjmfjabDoor
