/-
  DERIVED. GIVEN WITH THE SEED: THE CARDS: each row of YtnoljgfnpabinaaDoorRows.lean that lists a variable, with what it lists TIED to the program's text (the seventh form; the later family's looks); each row that meets fmt, with fmt's text TOLD by the authors' own Lean function (tested against real Go, not proved from fmt's source: count such statements apart). THE CARD IS WHAT COUNTS. Prove the row's statement (the work); the ties are given (YtnoljgfnpabinaaDoorTie.lean); close each card by the builder's one call (the guide's Derived/Test/ToyasCard.lean, 'card_holds'). Laid BY PROGRAM, IN A SANDBOX (cutbox-door.mjs). By AI agents, Wed Nov 11 2026. No macro, syntax, notation, axiom, sorry.
-/
import Derived.Test.YtnoljgfnpabinaaDoorRows
import GoSem.ClaimSeven
namespace Go.Proofs.YtnoljgfnpabinaaDoor
namespace Rows

/-- THE TIED CARD OF 'laws.FnExactJoinStones'. -/
def fnExactJoinStonesCard : Claim7 := { stood := { row := fnExactJoinStonesRow, standIns := [], harness := (true, "511d342b0c46c1cb184524899d4bfb9689855e9661d7155d395303afca3a8e20"), looks := true }, kinds := [], alts := [], laidByText := true, laidKinds := [.sentinel, .sentinel, .sentinel], laidTests := true, laidLooks := .later }
def FnExactJoinStonesCardSaid : Prop := Claim7.holds Tryd.pinned (.plain (OpenSpec.ofChange fnExactJoinStonesSpec)) fnExactJoinStonesCard

/-- THE SECOND FORM's CARD OF 'laws.FnExactJoinStones'. -/
def fnExactJoinStonesUptoCard : Claim7 := { stood := { row := fnExactJoinStonesUptoRow, standIns := [], harness := (true, "511d342b0c46c1cb184524899d4bfb9689855e9661d7155d395303afca3a8e20"), looks := true }, kinds := [], alts := [], laidByText := true, laidKinds := [.sentinel, .sentinel, .sentinel], laidTests := true, laidLooks := .later }
def FnExactJoinStonesUptoCardSaid : Prop := Claim7.holds Tryd.pinned (.plain (OpenSpec.upto fnExactJoinStonesSpec)) fnExactJoinStonesUptoCard
end Rows
end Go.Proofs.YtnoljgfnpabinaaDoor
