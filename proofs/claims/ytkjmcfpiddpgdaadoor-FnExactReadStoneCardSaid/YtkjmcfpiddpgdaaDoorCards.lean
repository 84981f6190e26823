/-
  DERIVED. GIVEN WITH THE SEED: THE CARDS: each row of YtkjmcfpiddpgdaaDoorRows.lean that lists a variable, with what it lists TIED to the program's text (the seventh form; the later family's looks); each row that meets fmt, with fmt's text TOLD by the authors' own Lean function (tested against real Go, not proved from fmt's source: count such statements apart). THE CARD IS WHAT COUNTS. Prove the row's statement (the work); the ties are given (YtkjmcfpiddpgdaaDoorTie.lean); close each card by the builder's one call (the guide's Derived/Test/ToyasCard.lean, 'card_holds'). Laid BY PROGRAM, IN A SANDBOX (cutbox-door.mjs). By AI agents, Wed Nov 11 2026. No macro, syntax, notation, axiom, sorry.
-/
import Derived.Test.YtkjmcfpiddpgdaaDoorRows
import GoSem.ClaimSeven
namespace Go.Proofs.YtkjmcfpiddpgdaaDoor
namespace Rows

/-- THE TIED CARD OF 'laws.FnExactReadStone'. -/
def fnExactReadStoneCard : Claim7 := { stood := { row := fnExactReadStoneRow, standIns := [], harness := (true, "c8dcba4e6eff8062b188889b7ea8599350a3ae3803fca135b961d0457b6e9e6f"), looks := true }, kinds := [], alts := [], laidByText := true, laidKinds := [.data, .data, .data, .data, .sentinel, .sentinel, .sentinel, .sentinel, .sentinel, .pinned], laidTests := true, laidLooks := .later }
def FnExactReadStoneCardSaid : Prop := Claim7.holds Tryd.pinned (.plain (OpenSpec.ofChange fnExactReadStoneSpec)) fnExactReadStoneCard

/-- THE SECOND FORM's CARD OF 'laws.FnExactReadStone'. -/
def fnExactReadStoneUptoCard : Claim7 := { stood := { row := fnExactReadStoneUptoRow, standIns := [], harness := (true, "c8dcba4e6eff8062b188889b7ea8599350a3ae3803fca135b961d0457b6e9e6f"), looks := true }, kinds := [], alts := [], laidByText := true, laidKinds := [.data, .data, .data, .data, .sentinel, .sentinel, .sentinel, .sentinel, .sentinel, .pinned], laidTests := true, laidLooks := .later }
def FnExactReadStoneUptoCardSaid : Prop := Claim7.holds Tryd.pinned (.plain (OpenSpec.upto fnExactReadStoneSpec)) fnExactReadStoneUptoCard
end Rows
end Go.Proofs.YtkjmcfpiddpgdaaDoor
