/-
  DERIVED. GIVEN WITH THE SEED: THE CARDS: each row of YtmgkecegfjpagaaDoorRows.lean that lists a variable, with what it lists TIED to the program's text (the seventh form; the later family's looks); each row that meets fmt, with fmt's text TOLD by the authors' own Lean function (tested against real Go, not proved from fmt's source: count such statements apart). THE CARD IS WHAT COUNTS. Prove the row's statement (the work); the ties are given (YtmgkecegfjpagaaDoorTie.lean); close each card by the builder's one call (the guide's Derived/Test/ToyasCard.lean, 'card_holds'). Laid BY PROGRAM, IN A SANDBOX (cutbox-door.mjs). By AI agents, Wed Nov 11 2026. No macro, syntax, notation, axiom, sorry.
-/
import Derived.Test.YtmgkecegfjpagaaDoorRows
import GoSem.ClaimSeven
namespace Go.Proofs.YtmgkecegfjpagaaDoor
namespace Rows

/-- THE TIED CARD OF 'laws.FnExactOrderOf'. -/
def fnExactOrderOfCard : Claim7 := { stood := { row := fnExactOrderOfRow, standIns := [], harness := (true, "dbcffd4a42abc0bac5047f3dd7632983bf59d2cd1a038a001d9a49c9892fee5e"), looks := true }, kinds := [], alts := [], laidByText := true, laidKinds := [.handle], laidTests := true, laidLooks := .later }
def FnExactOrderOfCardSaid : Prop := Claim7.holds Tryd.pinned (.plain (OpenSpec.ofChange fnExactOrderOfSpec)) fnExactOrderOfCard

/-- THE TIED CARD OF 'laws.FnExactLongestChain'. -/
def fnExactLongestChainCard : Claim7 := { stood := { row := fnExactLongestChainRow, standIns := [], harness := (true, "dbcffd4a42abc0bac5047f3dd7632983bf59d2cd1a038a001d9a49c9892fee5e"), looks := true }, kinds := [], alts := [], laidByText := true, laidKinds := [.handle], laidTests := true, laidLooks := .later }
def FnExactLongestChainCardSaid : Prop := Claim7.holds Tryd.pinned (.plain (OpenSpec.ofChange fnExactLongestChainSpec)) fnExactLongestChainCard

/-- THE TIED CARD OF 'laws.FnExactChainJobs'. -/
def fnExactChainJobsCard : Claim7 := { stood := { row := fnExactChainJobsRow, standIns := [], harness := (true, "dbcffd4a42abc0bac5047f3dd7632983bf59d2cd1a038a001d9a49c9892fee5e"), looks := true }, kinds := [], alts := [], laidByText := true, laidKinds := [.handle], laidTests := true, laidLooks := .later }
def FnExactChainJobsCardSaid : Prop := Claim7.holds Tryd.pinned (.plain (OpenSpec.ofChange fnExactChainJobsSpec)) fnExactChainJobsCard

/-- THE TIED CARD OF 'laws.FnExactBusyOn'. -/
def fnExactBusyOnCard : Claim7 := { stood := { row := fnExactBusyOnRow, standIns := [], harness := (true, "dbcffd4a42abc0bac5047f3dd7632983bf59d2cd1a038a001d9a49c9892fee5e"), looks := true }, kinds := [], alts := [], laidByText := true, laidKinds := [.handle], laidTests := true, laidLooks := .later }
def FnExactBusyOnCardSaid : Prop := Claim7.holds Tryd.pinned (.plain (OpenSpec.ofChange fnExactBusyOnSpec)) fnExactBusyOnCard

/-- THE TIED CARD OF 'laws.FnExactDropJob'. -/
def fnExactDropJobCard : Claim7 := { stood := { row := fnExactDropJobRow, standIns := [], harness := (true, "dbcffd4a42abc0bac5047f3dd7632983bf59d2cd1a038a001d9a49c9892fee5e"), looks := true }, kinds := [], alts := [], laidByText := true, laidKinds := [.handle], laidTests := true, laidLooks := .later }
def FnExactDropJobCardSaid : Prop := Claim7.holds Tryd.pinned (.plain (OpenSpec.ofChange fnExactDropJobSpec)) fnExactDropJobCard

/-- THE TIED CARD OF 'laws.FnExactHandsNeeded'. -/
def fnExactHandsNeededCard : Claim7 := { stood := { row := fnExactHandsNeededRow, standIns := [], harness := (true, "dbcffd4a42abc0bac5047f3dd7632983bf59d2cd1a038a001d9a49c9892fee5e"), looks := true }, kinds := [], alts := [], laidByText := true, laidKinds := [.handle], laidTests := true, laidLooks := .later }
def FnExactHandsNeededCardSaid : Prop := Claim7.holds Tryd.pinned (.plain (OpenSpec.ofChange fnExactHandsNeededSpec)) fnExactHandsNeededCard

/-- THE TIED CARD OF 'laws.FnExactBestPlan'. -/
def fnExactBestPlanCard : Claim7 := { stood := { row := fnExactBestPlanRow, standIns := [], harness := (true, "dbcffd4a42abc0bac5047f3dd7632983bf59d2cd1a038a001d9a49c9892fee5e"), looks := true }, kinds := [], alts := [], laidByText := true, laidKinds := [.handle], laidTests := true, laidLooks := .later }
def FnExactBestPlanCardSaid : Prop := Claim7.holds Tryd.pinned (.plain (OpenSpec.ofChange fnExactBestPlanSpec)) fnExactBestPlanCard

/-- THE TIED CARD OF 'laws.FnExactJobsText'. -/
def fnExactJobsTextCard : Claim7 := { stood := { row := fnExactJobsTextRow, standIns := [], harness := (true, "dbcffd4a42abc0bac5047f3dd7632983bf59d2cd1a038a001d9a49c9892fee5e"), looks := true }, kinds := [], alts := [], laidByText := true, laidKinds := [.data, .data, .data], laidTests := true, laidLooks := .later }
def FnExactJobsTextCardSaid : Prop := Claim7.holds Tryd.pinned (.plain (OpenSpec.ofChange fnExactJobsTextSpec)) fnExactJobsTextCard

/-- THE TIED CARD OF 'laws.FnExactReadJobs'. -/
def fnExactReadJobsCard : Claim7 := { stood := { row := fnExactReadJobsRow, standIns := [], harness := (true, "dbcffd4a42abc0bac5047f3dd7632983bf59d2cd1a038a001d9a49c9892fee5e"), looks := true }, kinds := [], alts := [], laidByText := true, laidKinds := [.data, .data, .data, .data, .sentinel, .sentinel, .pinned], laidTests := true, laidLooks := .later }
def FnExactReadJobsCardSaid : Prop := Claim7.holds Tryd.pinned (.plain (OpenSpec.ofChange fnExactReadJobsSpec)) fnExactReadJobsCard

/-- THE TIED CARD OF 'laws.FnExactLatestOf'. -/
def fnExactLatestOfCard : Claim7 := { stood := { row := fnExactLatestOfRow, standIns := [], harness := (true, "dbcffd4a42abc0bac5047f3dd7632983bf59d2cd1a038a001d9a49c9892fee5e"), looks := true }, kinds := [], alts := [], laidByText := true, laidKinds := [.handle], laidTests := true, laidLooks := .later }
def FnExactLatestOfCardSaid : Prop := Claim7.holds Tryd.pinned (.plain (OpenSpec.ofChange fnExactLatestOfSpec)) fnExactLatestOfCard

/-- THE SECOND FORM's CARD OF 'laws.FnExactOrderOf'. -/
def fnExactOrderOfUptoCard : Claim7 := { stood := { row := fnExactOrderOfUptoRow, standIns := [], harness := (true, "dbcffd4a42abc0bac5047f3dd7632983bf59d2cd1a038a001d9a49c9892fee5e"), looks := true }, kinds := [], alts := [], laidByText := true, laidKinds := [.handle], laidTests := true, laidLooks := .later }
def FnExactOrderOfUptoCardSaid : Prop := Claim7.holds Tryd.pinned (.plain (OpenSpec.upto fnExactOrderOfSpec)) fnExactOrderOfUptoCard

/-- THE SECOND FORM's CARD OF 'laws.FnExactLongestChain'. -/
def fnExactLongestChainUptoCard : Claim7 := { stood := { row := fnExactLongestChainUptoRow, standIns := [], harness := (true, "dbcffd4a42abc0bac5047f3dd7632983bf59d2cd1a038a001d9a49c9892fee5e"), looks := true }, kinds := [], alts := [], laidByText := true, laidKinds := [.handle], laidTests := true, laidLooks := .later }
def FnExactLongestChainUptoCardSaid : Prop := Claim7.holds Tryd.pinned (.plain (OpenSpec.upto fnExactLongestChainSpec)) fnExactLongestChainUptoCard

/-- THE SECOND FORM's CARD OF 'laws.FnExactChainJobs'. -/
def fnExactChainJobsUptoCard : Claim7 := { stood := { row := fnExactChainJobsUptoRow, standIns := [], harness := (true, "dbcffd4a42abc0bac5047f3dd7632983bf59d2cd1a038a001d9a49c9892fee5e"), looks := true }, kinds := [], alts := [], laidByText := true, laidKinds := [.handle], laidTests := true, laidLooks := .later }
def FnExactChainJobsUptoCardSaid : Prop := Claim7.holds Tryd.pinned (.plain (OpenSpec.upto fnExactChainJobsSpec)) fnExactChainJobsUptoCard

/-- THE SECOND FORM's CARD OF 'laws.FnExactBusyOn'. -/
def fnExactBusyOnUptoCard : Claim7 := { stood := { row := fnExactBusyOnUptoRow, standIns := [], harness := (true, "dbcffd4a42abc0bac5047f3dd7632983bf59d2cd1a038a001d9a49c9892fee5e"), looks := true }, kinds := [], alts := [], laidByText := true, laidKinds := [.handle], laidTests := true, laidLooks := .later }
def FnExactBusyOnUptoCardSaid : Prop := Claim7.holds Tryd.pinned (.plain (OpenSpec.upto fnExactBusyOnSpec)) fnExactBusyOnUptoCard

/-- THE SECOND FORM's CARD OF 'laws.FnExactDropJob'. -/
def fnExactDropJobUptoCard : Claim7 := { stood := { row := fnExactDropJobUptoRow, standIns := [], harness := (true, "dbcffd4a42abc0bac5047f3dd7632983bf59d2cd1a038a001d9a49c9892fee5e"), looks := true }, kinds := [], alts := [], laidByText := true, laidKinds := [.handle], laidTests := true, laidLooks := .later }
def FnExactDropJobUptoCardSaid : Prop := Claim7.holds Tryd.pinned (.plain (OpenSpec.upto fnExactDropJobSpec)) fnExactDropJobUptoCard

/-- THE SECOND FORM's CARD OF 'laws.FnExactHandsNeeded'. -/
def fnExactHandsNeededUptoCard : Claim7 := { stood := { row := fnExactHandsNeededUptoRow, standIns := [], harness := (true, "dbcffd4a42abc0bac5047f3dd7632983bf59d2cd1a038a001d9a49c9892fee5e"), looks := true }, kinds := [], alts := [], laidByText := true, laidKinds := [.handle], laidTests := true, laidLooks := .later }
def FnExactHandsNeededUptoCardSaid : Prop := Claim7.holds Tryd.pinned (.plain (OpenSpec.upto fnExactHandsNeededSpec)) fnExactHandsNeededUptoCard

/-- THE SECOND FORM's CARD OF 'laws.FnExactBestPlan'. -/
def fnExactBestPlanUptoCard : Claim7 := { stood := { row := fnExactBestPlanUptoRow, standIns := [], harness := (true, "dbcffd4a42abc0bac5047f3dd7632983bf59d2cd1a038a001d9a49c9892fee5e"), looks := true }, kinds := [], alts := [], laidByText := true, laidKinds := [.handle], laidTests := true, laidLooks := .later }
def FnExactBestPlanUptoCardSaid : Prop := Claim7.holds Tryd.pinned (.plain (OpenSpec.upto fnExactBestPlanSpec)) fnExactBestPlanUptoCard

/-- THE SECOND FORM's CARD OF 'laws.FnExactJobsText'. -/
def fnExactJobsTextUptoCard : Claim7 := { stood := { row := fnExactJobsTextUptoRow, standIns := [], harness := (true, "dbcffd4a42abc0bac5047f3dd7632983bf59d2cd1a038a001d9a49c9892fee5e"), looks := true }, kinds := [], alts := [], laidByText := true, laidKinds := [.data, .data, .data], laidTests := true, laidLooks := .later }
def FnExactJobsTextUptoCardSaid : Prop := Claim7.holds Tryd.pinned (.plain (OpenSpec.upto fnExactJobsTextSpec)) fnExactJobsTextUptoCard

/-- THE SECOND FORM's CARD OF 'laws.FnExactReadJobs'. -/
def fnExactReadJobsUptoCard : Claim7 := { stood := { row := fnExactReadJobsUptoRow, standIns := [], harness := (true, "dbcffd4a42abc0bac5047f3dd7632983bf59d2cd1a038a001d9a49c9892fee5e"), looks := true }, kinds := [], alts := [], laidByText := true, laidKinds := [.data, .data, .data, .data, .sentinel, .sentinel, .pinned], laidTests := true, laidLooks := .later }
def FnExactReadJobsUptoCardSaid : Prop := Claim7.holds Tryd.pinned (.plain (OpenSpec.upto fnExactReadJobsSpec)) fnExactReadJobsUptoCard

/-- THE SECOND FORM's CARD OF 'laws.FnExactLatestOf'. -/
def fnExactLatestOfUptoCard : Claim7 := { stood := { row := fnExactLatestOfUptoRow, standIns := [], harness := (true, "dbcffd4a42abc0bac5047f3dd7632983bf59d2cd1a038a001d9a49c9892fee5e"), looks := true }, kinds := [], alts := [], laidByText := true, laidKinds := [.handle], laidTests := true, laidLooks := .later }
def FnExactLatestOfUptoCardSaid : Prop := Claim7.holds Tryd.pinned (.plain (OpenSpec.upto fnExactLatestOfSpec)) fnExactLatestOfUptoCard
end Rows
end Go.Proofs.YtmgkecegfjpagaaDoor
