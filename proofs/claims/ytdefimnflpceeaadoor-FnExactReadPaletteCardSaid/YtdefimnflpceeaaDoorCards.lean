/-
  DERIVED. GIVEN WITH THE SEED: THE CARDS: each row of YtdefimnflpceeaaDoorRows.lean that lists a variable, with what it lists TIED to the program's text (the seventh form; the later family's looks); each row that meets fmt, with fmt's text TOLD by the authors' own Lean function (tested against real Go, not proved from fmt's source: count such statements apart). THE CARD IS WHAT COUNTS. Prove the row's statement (the work); the ties are given (YtdefimnflpceeaaDoorTie.lean); close each card by the builder's one call (the guide's Derived/Test/ToyasCard.lean, 'card_holds'). Laid BY PROGRAM, IN A SANDBOX (cutbox-door.mjs). By AI agents, Wed Nov 11 2026. No macro, syntax, notation, axiom, sorry.
-/
import Derived.Test.YtdefimnflpceeaaDoorRows
import GoSem.ClaimSeven
namespace Go.Proofs.YtdefimnflpceeaaDoor
namespace Rows

/-- THE TIED CARD OF 'laws.FnExactReadPalette'. -/
def fnExactReadPaletteCard : Claim7 := { stood := { row := fnExactReadPaletteRow, standIns := [], harness := (true, "85fb24f1c3a7983fc0421c2dca032735fce2d41f92fa87eea3ea8896d1e0746a"), looks := false }, kinds := [], alts := [], laidByText := true, laidKinds := [.data, .pinned], laidTests := true, laidLooks := .later }
def FnExactReadPaletteCardSaid : Prop := Claim7.holds Tryd.pinned (.plain (OpenSpec.ofChange fnExactReadPaletteSpec)) fnExactReadPaletteCard

/-- THE SECOND FORM's CARD OF 'laws.FnExactReadPalette'. -/
def fnExactReadPaletteUptoCard : Claim7 := { stood := { row := fnExactReadPaletteUptoRow, standIns := [], harness := (true, "85fb24f1c3a7983fc0421c2dca032735fce2d41f92fa87eea3ea8896d1e0746a"), looks := false }, kinds := [], alts := [], laidByText := true, laidKinds := [.data, .pinned], laidTests := true, laidLooks := .later }
def FnExactReadPaletteUptoCardSaid : Prop := Claim7.holds Tryd.pinned (.plain (OpenSpec.upto fnExactReadPaletteSpec)) fnExactReadPaletteUptoCard
end Rows
end Go.Proofs.YtdefimnflpceeaaDoor
