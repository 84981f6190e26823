/-
  DERIVED. GIVEN WITH THE SEED: THE CARDS: each row of YtmjincdnhmkmhaaDoorRows.lean that lists a variable, with what it lists TIED to the program's text (the seventh form; the later family's looks); each row that meets fmt, with fmt's text TOLD by the authors' own Lean function (tested against real Go, not proved from fmt's source: count such statements apart). THE CARD IS WHAT COUNTS. Prove the row's statement (the work); the ties are given (YtmjincdnhmkmhaaDoorTie.lean); close each card by the builder's one call (the guide's Derived/Test/ToyasCard.lean, 'card_holds'). Laid BY PROGRAM, IN A SANDBOX (cutbox-door.mjs). By AI agents, Wed Nov 11 2026. No macro, syntax, notation, axiom, sorry.
-/
import Derived.Test.YtmjincdnhmkmhaaDoorRows
import GoSem.ClaimSeven
namespace Go.Proofs.YtmjincdnhmkmhaaDoor
namespace Rows

/-- THE TIED CARD OF 'laws.FnExactDropJob'. -/
def fnExactDropJobCard : Claim7 := { stood := { row := fnExactDropJobRow, standIns := [], harness := (true, "77f93d863b20d4c1eb49f21d1bff38d8bb7cdfd7dc1eb51709be9f8ea38683b2"), looks := true }, kinds := [], alts := [], laidByText := true, laidKinds := [.handle], laidTests := true, laidLooks := .later }
def FnExactDropJobCardSaid : Prop := Claim7.holds Tryd.pinned (.plain (OpenSpec.ofChange fnExactDropJobSpec)) fnExactDropJobCard

/-- THE SECOND FORM's CARD OF 'laws.FnExactDropJob'. -/
def fnExactDropJobUptoCard : Claim7 := { stood := { row := fnExactDropJobUptoRow, standIns := [], harness := (true, "77f93d863b20d4c1eb49f21d1bff38d8bb7cdfd7dc1eb51709be9f8ea38683b2"), looks := true }, kinds := [], alts := [], laidByText := true, laidKinds := [.handle], laidTests := true, laidLooks := .later }
def FnExactDropJobUptoCardSaid : Prop := Claim7.holds Tryd.pinned (.plain (OpenSpec.upto fnExactDropJobSpec)) fnExactDropJobUptoCard
end Rows
end Go.Proofs.YtmjincdnhmkmhaaDoor
