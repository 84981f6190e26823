/-
  DERIVED. GIVEN WITH THE SEED: THE CARDS: each row of YtkiblfgekojnoaaDoorRows.lean that lists a variable, with what it lists TIED to the program's text (the seventh form; the later family's looks); each row that meets fmt, with fmt's text TOLD by the authors' own Lean function (tested against real Go, not proved from fmt's source: count such statements apart). THE CARD IS WHAT COUNTS. Prove the row's statement (the work); the ties are given (YtkiblfgekojnoaaDoorTie.lean); close each card by the builder's one call (the guide's Derived/Test/ToyasCard.lean, 'card_holds'). Laid BY PROGRAM, IN A SANDBOX (cutbox-door.mjs). By AI agents, Wed Nov 11 2026. No macro, syntax, notation, axiom, sorry.
-/
import Derived.Test.YtkiblfgekojnoaaDoorRows
import GoSem.ClaimSeven
namespace Go.Proofs.YtkiblfgekojnoaaDoor
namespace Rows

/-- THE TIED CARD OF 'laws.FnExactAreaTwice'. -/
def fnExactAreaTwiceCard : Claim7 := { stood := { row := fnExactAreaTwiceRow, standIns := [], harness := (true, "3ff9fbd67a887e538a8db093fe7a9500f7b32a00a6dd903c7551a9b39c3c80bb"), looks := true }, kinds := [], alts := [], laidByText := true, laidKinds := [.sentinel, .sentinel, .sentinel], laidTests := true, laidLooks := .later }
def FnExactAreaTwiceCardSaid : Prop := Claim7.holds Tryd.pinned (.plain (OpenSpec.ofChange fnExactAreaTwiceSpec)) fnExactAreaTwiceCard

/-- THE TIED CARD OF 'laws.FnExactWhereIs'. -/
def fnExactWhereIsCard : Claim7 := { stood := { row := fnExactWhereIsRow, standIns := [], harness := (true, "3ff9fbd67a887e538a8db093fe7a9500f7b32a00a6dd903c7551a9b39c3c80bb"), looks := true }, kinds := [], alts := [], laidByText := true, laidKinds := [.sentinel, .sentinel, .sentinel], laidTests := true, laidLooks := .later }
def FnExactWhereIsCardSaid : Prop := Claim7.holds Tryd.pinned (.plain (OpenSpec.ofChange fnExactWhereIsSpec)) fnExactWhereIsCard

/-- THE TIED CARD OF 'laws.FnExactFirstStone'. -/
def fnExactFirstStoneCard : Claim7 := { stood := { row := fnExactFirstStoneRow, standIns := [], harness := (true, "3ff9fbd67a887e538a8db093fe7a9500f7b32a00a6dd903c7551a9b39c3c80bb"), looks := true }, kinds := [], alts := [], laidByText := true, laidKinds := [.sentinel, .sentinel, .sentinel], laidTests := true, laidLooks := .later }
def FnExactFirstStoneCardSaid : Prop := Claim7.holds Tryd.pinned (.plain (OpenSpec.ofChange fnExactFirstStoneSpec)) fnExactFirstStoneCard

/-- THE TIED CARD OF 'laws.FnExactMoveStone'. -/
def fnExactMoveStoneCard : Claim7 := { stood := { row := fnExactMoveStoneRow, standIns := [], harness := (true, "3ff9fbd67a887e538a8db093fe7a9500f7b32a00a6dd903c7551a9b39c3c80bb"), looks := true }, kinds := [], alts := [], laidByText := true, laidKinds := [.sentinel, .sentinel, .sentinel], laidTests := true, laidLooks := .later }
def FnExactMoveStoneCardSaid : Prop := Claim7.holds Tryd.pinned (.plain (OpenSpec.ofChange fnExactMoveStoneSpec)) fnExactMoveStoneCard

/-- THE TIED CARD OF 'laws.FnExactTurnStone'. -/
def fnExactTurnStoneCard : Claim7 := { stood := { row := fnExactTurnStoneRow, standIns := [], harness := (true, "3ff9fbd67a887e538a8db093fe7a9500f7b32a00a6dd903c7551a9b39c3c80bb"), looks := true }, kinds := [], alts := [], laidByText := true, laidKinds := [.sentinel, .sentinel, .sentinel], laidTests := true, laidLooks := .later }
def FnExactTurnStoneCardSaid : Prop := Claim7.holds Tryd.pinned (.plain (OpenSpec.ofChange fnExactTurnStoneSpec)) fnExactTurnStoneCard

/-- THE TIED CARD OF 'laws.FnExactDoOverlap'. -/
def fnExactDoOverlapCard : Claim7 := { stood := { row := fnExactDoOverlapRow, standIns := [], harness := (true, "3ff9fbd67a887e538a8db093fe7a9500f7b32a00a6dd903c7551a9b39c3c80bb"), looks := true }, kinds := [], alts := [], laidByText := true, laidKinds := [.sentinel, .sentinel, .sentinel], laidTests := true, laidLooks := .later }
def FnExactDoOverlapCardSaid : Prop := Claim7.holds Tryd.pinned (.plain (OpenSpec.ofChange fnExactDoOverlapSpec)) fnExactDoOverlapCard

/-- THE TIED CARD OF 'laws.FnExactHullOf'. -/
def fnExactHullOfCard : Claim7 := { stood := { row := fnExactHullOfRow, standIns := [], harness := (true, "3ff9fbd67a887e538a8db093fe7a9500f7b32a00a6dd903c7551a9b39c3c80bb"), looks := true }, kinds := [], alts := [], laidByText := true, laidKinds := [.sentinel, .sentinel, .sentinel], laidTests := true, laidLooks := .later }
def FnExactHullOfCardSaid : Prop := Claim7.holds Tryd.pinned (.plain (OpenSpec.ofChange fnExactHullOfSpec)) fnExactHullOfCard

/-- THE TIED CARD OF 'laws.FnExactInFrame'. -/
def fnExactInFrameCard : Claim7 := { stood := { row := fnExactInFrameRow, standIns := [], harness := (true, "3ff9fbd67a887e538a8db093fe7a9500f7b32a00a6dd903c7551a9b39c3c80bb"), looks := true }, kinds := [], alts := [], laidByText := true, laidKinds := [.sentinel, .sentinel, .sentinel], laidTests := true, laidLooks := .later }
def FnExactInFrameCardSaid : Prop := Claim7.holds Tryd.pinned (.plain (OpenSpec.ofChange fnExactInFrameSpec)) fnExactInFrameCard

/-- THE TIED CARD OF 'laws.FnExactValidLay'. -/
def fnExactValidLayCard : Claim7 := { stood := { row := fnExactValidLayRow, standIns := [], harness := (true, "3ff9fbd67a887e538a8db093fe7a9500f7b32a00a6dd903c7551a9b39c3c80bb"), looks := true }, kinds := [], alts := [], laidByText := true, laidKinds := [.sentinel, .sentinel, .sentinel], laidTests := true, laidLooks := .later }
def FnExactValidLayCardSaid : Prop := Claim7.holds Tryd.pinned (.plain (OpenSpec.ofChange fnExactValidLaySpec)) fnExactValidLayCard

/-- THE TIED CARD OF 'laws.FnExactFirstFault'. -/
def fnExactFirstFaultCard : Claim7 := { stood := { row := fnExactFirstFaultRow, standIns := [], harness := (true, "3ff9fbd67a887e538a8db093fe7a9500f7b32a00a6dd903c7551a9b39c3c80bb"), looks := true }, kinds := [], alts := [], laidByText := true, laidKinds := [.sentinel, .sentinel, .sentinel], laidTests := true, laidLooks := .later }
def FnExactFirstFaultCardSaid : Prop := Claim7.holds Tryd.pinned (.plain (OpenSpec.ofChange fnExactFirstFaultSpec)) fnExactFirstFaultCard

/-- THE TIED CARD OF 'laws.FnExactBareTwice'. -/
def fnExactBareTwiceCard : Claim7 := { stood := { row := fnExactBareTwiceRow, standIns := [], harness := (true, "3ff9fbd67a887e538a8db093fe7a9500f7b32a00a6dd903c7551a9b39c3c80bb"), looks := true }, kinds := [], alts := [], laidByText := true, laidKinds := [.sentinel, .sentinel, .sentinel], laidTests := true, laidLooks := .later }
def FnExactBareTwiceCardSaid : Prop := Claim7.holds Tryd.pinned (.plain (OpenSpec.ofChange fnExactBareTwiceSpec)) fnExactBareTwiceCard

/-- THE TIED CARD OF 'laws.FnExactStoneAt'. -/
def fnExactStoneAtCard : Claim7 := { stood := { row := fnExactStoneAtRow, standIns := [], harness := (true, "3ff9fbd67a887e538a8db093fe7a9500f7b32a00a6dd903c7551a9b39c3c80bb"), looks := true }, kinds := [], alts := [], laidByText := true, laidKinds := [.sentinel, .sentinel, .sentinel], laidTests := true, laidLooks := .later }
def FnExactStoneAtCardSaid : Prop := Claim7.holds Tryd.pinned (.plain (OpenSpec.ofChange fnExactStoneAtSpec)) fnExactStoneAtCard

/-- THE SECOND FORM's CARD OF 'laws.FnExactAreaTwice'. -/
def fnExactAreaTwiceUptoCard : Claim7 := { stood := { row := fnExactAreaTwiceUptoRow, standIns := [], harness := (true, "3ff9fbd67a887e538a8db093fe7a9500f7b32a00a6dd903c7551a9b39c3c80bb"), looks := true }, kinds := [], alts := [], laidByText := true, laidKinds := [.sentinel, .sentinel, .sentinel], laidTests := true, laidLooks := .later }
def FnExactAreaTwiceUptoCardSaid : Prop := Claim7.holds Tryd.pinned (.plain (OpenSpec.upto fnExactAreaTwiceSpec)) fnExactAreaTwiceUptoCard

/-- THE SECOND FORM's CARD OF 'laws.FnExactWhereIs'. -/
def fnExactWhereIsUptoCard : Claim7 := { stood := { row := fnExactWhereIsUptoRow, standIns := [], harness := (true, "3ff9fbd67a887e538a8db093fe7a9500f7b32a00a6dd903c7551a9b39c3c80bb"), looks := true }, kinds := [], alts := [], laidByText := true, laidKinds := [.sentinel, .sentinel, .sentinel], laidTests := true, laidLooks := .later }
def FnExactWhereIsUptoCardSaid : Prop := Claim7.holds Tryd.pinned (.plain (OpenSpec.upto fnExactWhereIsSpec)) fnExactWhereIsUptoCard

/-- THE SECOND FORM's CARD OF 'laws.FnExactFirstStone'. -/
def fnExactFirstStoneUptoCard : Claim7 := { stood := { row := fnExactFirstStoneUptoRow, standIns := [], harness := (true, "3ff9fbd67a887e538a8db093fe7a9500f7b32a00a6dd903c7551a9b39c3c80bb"), looks := true }, kinds := [], alts := [], laidByText := true, laidKinds := [.sentinel, .sentinel, .sentinel], laidTests := true, laidLooks := .later }
def FnExactFirstStoneUptoCardSaid : Prop := Claim7.holds Tryd.pinned (.plain (OpenSpec.upto fnExactFirstStoneSpec)) fnExactFirstStoneUptoCard

/-- THE SECOND FORM's CARD OF 'laws.FnExactMoveStone'. -/
def fnExactMoveStoneUptoCard : Claim7 := { stood := { row := fnExactMoveStoneUptoRow, standIns := [], harness := (true, "3ff9fbd67a887e538a8db093fe7a9500f7b32a00a6dd903c7551a9b39c3c80bb"), looks := true }, kinds := [], alts := [], laidByText := true, laidKinds := [.sentinel, .sentinel, .sentinel], laidTests := true, laidLooks := .later }
def FnExactMoveStoneUptoCardSaid : Prop := Claim7.holds Tryd.pinned (.plain (OpenSpec.upto fnExactMoveStoneSpec)) fnExactMoveStoneUptoCard

/-- THE SECOND FORM's CARD OF 'laws.FnExactTurnStone'. -/
def fnExactTurnStoneUptoCard : Claim7 := { stood := { row := fnExactTurnStoneUptoRow, standIns := [], harness := (true, "3ff9fbd67a887e538a8db093fe7a9500f7b32a00a6dd903c7551a9b39c3c80bb"), looks := true }, kinds := [], alts := [], laidByText := true, laidKinds := [.sentinel, .sentinel, .sentinel], laidTests := true, laidLooks := .later }
def FnExactTurnStoneUptoCardSaid : Prop := Claim7.holds Tryd.pinned (.plain (OpenSpec.upto fnExactTurnStoneSpec)) fnExactTurnStoneUptoCard

/-- THE SECOND FORM's CARD OF 'laws.FnExactDoOverlap'. -/
def fnExactDoOverlapUptoCard : Claim7 := { stood := { row := fnExactDoOverlapUptoRow, standIns := [], harness := (true, "3ff9fbd67a887e538a8db093fe7a9500f7b32a00a6dd903c7551a9b39c3c80bb"), looks := true }, kinds := [], alts := [], laidByText := true, laidKinds := [.sentinel, .sentinel, .sentinel], laidTests := true, laidLooks := .later }
def FnExactDoOverlapUptoCardSaid : Prop := Claim7.holds Tryd.pinned (.plain (OpenSpec.upto fnExactDoOverlapSpec)) fnExactDoOverlapUptoCard

/-- THE SECOND FORM's CARD OF 'laws.FnExactHullOf'. -/
def fnExactHullOfUptoCard : Claim7 := { stood := { row := fnExactHullOfUptoRow, standIns := [], harness := (true, "3ff9fbd67a887e538a8db093fe7a9500f7b32a00a6dd903c7551a9b39c3c80bb"), looks := true }, kinds := [], alts := [], laidByText := true, laidKinds := [.sentinel, .sentinel, .sentinel], laidTests := true, laidLooks := .later }
def FnExactHullOfUptoCardSaid : Prop := Claim7.holds Tryd.pinned (.plain (OpenSpec.upto fnExactHullOfSpec)) fnExactHullOfUptoCard

/-- THE SECOND FORM's CARD OF 'laws.FnExactInFrame'. -/
def fnExactInFrameUptoCard : Claim7 := { stood := { row := fnExactInFrameUptoRow, standIns := [], harness := (true, "3ff9fbd67a887e538a8db093fe7a9500f7b32a00a6dd903c7551a9b39c3c80bb"), looks := true }, kinds := [], alts := [], laidByText := true, laidKinds := [.sentinel, .sentinel, .sentinel], laidTests := true, laidLooks := .later }
def FnExactInFrameUptoCardSaid : Prop := Claim7.holds Tryd.pinned (.plain (OpenSpec.upto fnExactInFrameSpec)) fnExactInFrameUptoCard

/-- THE SECOND FORM's CARD OF 'laws.FnExactValidLay'. -/
def fnExactValidLayUptoCard : Claim7 := { stood := { row := fnExactValidLayUptoRow, standIns := [], harness := (true, "3ff9fbd67a887e538a8db093fe7a9500f7b32a00a6dd903c7551a9b39c3c80bb"), looks := true }, kinds := [], alts := [], laidByText := true, laidKinds := [.sentinel, .sentinel, .sentinel], laidTests := true, laidLooks := .later }
def FnExactValidLayUptoCardSaid : Prop := Claim7.holds Tryd.pinned (.plain (OpenSpec.upto fnExactValidLaySpec)) fnExactValidLayUptoCard

/-- THE SECOND FORM's CARD OF 'laws.FnExactFirstFault'. -/
def fnExactFirstFaultUptoCard : Claim7 := { stood := { row := fnExactFirstFaultUptoRow, standIns := [], harness := (true, "3ff9fbd67a887e538a8db093fe7a9500f7b32a00a6dd903c7551a9b39c3c80bb"), looks := true }, kinds := [], alts := [], laidByText := true, laidKinds := [.sentinel, .sentinel, .sentinel], laidTests := true, laidLooks := .later }
def FnExactFirstFaultUptoCardSaid : Prop := Claim7.holds Tryd.pinned (.plain (OpenSpec.upto fnExactFirstFaultSpec)) fnExactFirstFaultUptoCard

/-- THE SECOND FORM's CARD OF 'laws.FnExactBareTwice'. -/
def fnExactBareTwiceUptoCard : Claim7 := { stood := { row := fnExactBareTwiceUptoRow, standIns := [], harness := (true, "3ff9fbd67a887e538a8db093fe7a9500f7b32a00a6dd903c7551a9b39c3c80bb"), looks := true }, kinds := [], alts := [], laidByText := true, laidKinds := [.sentinel, .sentinel, .sentinel], laidTests := true, laidLooks := .later }
def FnExactBareTwiceUptoCardSaid : Prop := Claim7.holds Tryd.pinned (.plain (OpenSpec.upto fnExactBareTwiceSpec)) fnExactBareTwiceUptoCard

/-- THE SECOND FORM's CARD OF 'laws.FnExactStoneAt'. -/
def fnExactStoneAtUptoCard : Claim7 := { stood := { row := fnExactStoneAtUptoRow, standIns := [], harness := (true, "3ff9fbd67a887e538a8db093fe7a9500f7b32a00a6dd903c7551a9b39c3c80bb"), looks := true }, kinds := [], alts := [], laidByText := true, laidKinds := [.sentinel, .sentinel, .sentinel], laidTests := true, laidLooks := .later }
def FnExactStoneAtUptoCardSaid : Prop := Claim7.holds Tryd.pinned (.plain (OpenSpec.upto fnExactStoneAtSpec)) fnExactStoneAtUptoCard
end Rows
end Go.Proofs.YtkiblfgekojnoaaDoor
