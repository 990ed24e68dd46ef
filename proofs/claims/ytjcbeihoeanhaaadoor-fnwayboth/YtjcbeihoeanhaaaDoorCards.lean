/-
  DERIVED. GIVEN WITH THE SEED: THE CARDS: each row of YtjcbeihoeanhaaaDoorRows.lean that lists a variable, with what it lists TIED to the program's text (the seventh form; the later family's looks); each row that meets fmt, with fmt's text TOLD by the authors' own Lean function (tested against real Go, not proved from fmt's source: count such statements apart). THE CARD IS WHAT COUNTS. Prove the row's statement (the work); the ties are given (YtjcbeihoeanhaaaDoorTie.lean); close each card by the builder's one call (the guide's Derived/Test/ToyasCard.lean, 'card_holds'). Laid BY PROGRAM, IN A SANDBOX (cutbox-door.mjs). By AI agents, Wed Nov 11 2026. No macro, syntax, notation, axiom, sorry.
-/
import Derived.Test.YtjcbeihoeanhaaaDoorRows
import GoSem.ClaimSeven
namespace Go.Proofs.YtjcbeihoeanhaaaDoor
namespace Rows

/-- THE TIED CARD OF 'laws.FnHas'. -/
def fnHasCard : Claim7 := { stood := { row := fnHasRow, standIns := [], harness := (true, "e7fa8fde6f24c3446c179bc2f739c2aa404e7d552a2760fad63da0f54c7b6fee"), looks := true }, kinds := [], alts := [], laidByText := true, laidKinds := [.data, .data], laidTests := true, laidLooks := .later }
def FnHasCardSaid : Prop := Claim7.holds Tryd.pinned (.plain (OpenSpec.ofChange fnHasSpec)) fnHasCard

/-- THE TIED CARD OF 'laws.FnGot'. -/
def fnGotCard : Claim7 := { stood := { row := fnGotRow, standIns := [], harness := (true, "e7fa8fde6f24c3446c179bc2f739c2aa404e7d552a2760fad63da0f54c7b6fee"), looks := true }, kinds := [], alts := [], laidByText := true, laidKinds := [.data, .data], laidTests := true, laidLooks := .later }
def FnGotCardSaid : Prop := Claim7.holds Tryd.pinned (.plain (OpenSpec.ofChange fnGotSpec)) fnGotCard

/-- THE TIED CARD OF 'laws.FnSettled'. -/
def fnSettledCard : Claim7 := { stood := { row := fnSettledRow, standIns := [], harness := (true, "e7fa8fde6f24c3446c179bc2f739c2aa404e7d552a2760fad63da0f54c7b6fee"), looks := true }, kinds := [], alts := [], laidByText := true, laidKinds := [.data, .data], laidTests := true, laidLooks := .later }
def FnSettledCardSaid : Prop := Claim7.holds Tryd.pinned (.plain (OpenSpec.ofChange fnSettledSpec)) fnSettledCard

/-- THE TIED CARD OF 'laws.FnLive'. -/
def fnLiveCard : Claim7 := { stood := { row := fnLiveRow, standIns := [], harness := (true, "e7fa8fde6f24c3446c179bc2f739c2aa404e7d552a2760fad63da0f54c7b6fee"), looks := true }, kinds := [], alts := [], laidByText := true, laidKinds := [.data, .data], laidTests := true, laidLooks := .later }
def FnLiveCardSaid : Prop := Claim7.holds Tryd.pinned (.plain (OpenSpec.ofChange fnLiveSpec)) fnLiveCard

/-- THE TIED CARD OF 'laws.FnStateForm'. -/
def fnStateFormCard : Claim7 := { stood := { row := fnStateFormRow, standIns := [], harness := (true, "e7fa8fde6f24c3446c179bc2f739c2aa404e7d552a2760fad63da0f54c7b6fee"), looks := true }, kinds := [], alts := [], laidByText := true, laidKinds := [.data, .data], laidTests := true, laidLooks := .later }
def FnStateFormCardSaid : Prop := Claim7.holds Tryd.pinned (.plain (OpenSpec.ofChange fnStateFormSpec)) fnStateFormCard

/-- THE TIED CARD OF 'laws.FnStateLess'. -/
def fnStateLessCard : Claim7 := { stood := { row := fnStateLessRow, standIns := [], harness := (true, "e7fa8fde6f24c3446c179bc2f739c2aa404e7d552a2760fad63da0f54c7b6fee"), looks := true }, kinds := [], alts := [], laidByText := true, laidKinds := [.data, .data], laidTests := true, laidLooks := .later }
def FnStateLessCardSaid : Prop := Claim7.holds Tryd.pinned (.plain (OpenSpec.ofChange fnStateLessSpec)) fnStateLessCard

/-- THE TIED CARD OF 'laws.FnStateSeq'. -/
def fnStateSeqCard : Claim7 := { stood := { row := fnStateSeqRow, standIns := [], harness := (true, "e7fa8fde6f24c3446c179bc2f739c2aa404e7d552a2760fad63da0f54c7b6fee"), looks := true }, kinds := [], alts := [], laidByText := true, laidKinds := [.data, .data], laidTests := true, laidLooks := .later }
def FnStateSeqCardSaid : Prop := Claim7.holds Tryd.pinned (.plain (OpenSpec.ofChange fnStateSeqSpec)) fnStateSeqCard

/-- THE TIED CARD OF 'laws.FnStateGot2'. -/
def fnStateGot2Card : Claim7 := { stood := { row := fnStateGot2Row, standIns := [], harness := (true, "e7fa8fde6f24c3446c179bc2f739c2aa404e7d552a2760fad63da0f54c7b6fee"), looks := true }, kinds := [], alts := [], laidByText := true, laidKinds := [.data, .data], laidTests := true, laidLooks := .later }
def FnStateGot2CardSaid : Prop := Claim7.holds Tryd.pinned (.plain (OpenSpec.ofChange fnStateGot2Spec)) fnStateGot2Card

/-- THE TIED CARD OF 'laws.FnWayOpen'. -/
def fnWayOpenCard : Claim7 := { stood := { row := fnWayOpenRow, standIns := [], harness := (true, "e7fa8fde6f24c3446c179bc2f739c2aa404e7d552a2760fad63da0f54c7b6fee"), looks := true }, kinds := [], alts := [], laidByText := true, laidKinds := [.data, .data], laidTests := true, laidLooks := .later }
def FnWayOpenCardSaid : Prop := Claim7.holds Tryd.pinned (.plain (OpenSpec.ofChange fnWayOpenSpec)) fnWayOpenCard

/-- THE TIED CARD OF 'laws.FnWayFresh'. -/
def fnWayFreshCard : Claim7 := { stood := { row := fnWayFreshRow, standIns := [], harness := (true, "e7fa8fde6f24c3446c179bc2f739c2aa404e7d552a2760fad63da0f54c7b6fee"), looks := true }, kinds := [], alts := [], laidByText := true, laidKinds := [.data, .data], laidTests := true, laidLooks := .later }
def FnWayFreshCardSaid : Prop := Claim7.holds Tryd.pinned (.plain (OpenSpec.ofChange fnWayFreshSpec)) fnWayFreshCard

/-- THE TIED CARD OF 'laws.FnWayNext'. -/
def fnWayNextCard : Claim7 := { stood := { row := fnWayNextRow, standIns := [], harness := (true, "e7fa8fde6f24c3446c179bc2f739c2aa404e7d552a2760fad63da0f54c7b6fee"), looks := true }, kinds := [], alts := [], laidByText := true, laidKinds := [.data, .data], laidTests := true, laidLooks := .later }
def FnWayNextCardSaid : Prop := Claim7.holds Tryd.pinned (.plain (OpenSpec.ofChange fnWayNextSpec)) fnWayNextCard

/-- THE TIED CARD OF 'laws.FnWayBoth'. -/
def fnWayBothCard : Claim7 := { stood := { row := fnWayBothRow, standIns := [], harness := (true, "e7fa8fde6f24c3446c179bc2f739c2aa404e7d552a2760fad63da0f54c7b6fee"), looks := true }, kinds := [], alts := [], laidByText := true, laidKinds := [.data, .data], laidTests := true, laidLooks := .later }
def FnWayBothCardSaid : Prop := Claim7.holds Tryd.pinned (.plain (OpenSpec.ofChange fnWayBothSpec)) fnWayBothCard

/-- THE SECOND FORM's CARD OF 'laws.FnHas'. -/
def fnHasUptoCard : Claim7 := { stood := { row := fnHasUptoRow, standIns := [], harness := (true, "e7fa8fde6f24c3446c179bc2f739c2aa404e7d552a2760fad63da0f54c7b6fee"), looks := true }, kinds := [], alts := [], laidByText := true, laidKinds := [.data, .data], laidTests := true, laidLooks := .later }
def FnHasUptoCardSaid : Prop := Claim7.holds Tryd.pinned (.plain (OpenSpec.upto fnHasSpec)) fnHasUptoCard

/-- THE SECOND FORM's CARD OF 'laws.FnGot'. -/
def fnGotUptoCard : Claim7 := { stood := { row := fnGotUptoRow, standIns := [], harness := (true, "e7fa8fde6f24c3446c179bc2f739c2aa404e7d552a2760fad63da0f54c7b6fee"), looks := true }, kinds := [], alts := [], laidByText := true, laidKinds := [.data, .data], laidTests := true, laidLooks := .later }
def FnGotUptoCardSaid : Prop := Claim7.holds Tryd.pinned (.plain (OpenSpec.upto fnGotSpec)) fnGotUptoCard

/-- THE SECOND FORM's CARD OF 'laws.FnSettled'. -/
def fnSettledUptoCard : Claim7 := { stood := { row := fnSettledUptoRow, standIns := [], harness := (true, "e7fa8fde6f24c3446c179bc2f739c2aa404e7d552a2760fad63da0f54c7b6fee"), looks := true }, kinds := [], alts := [], laidByText := true, laidKinds := [.data, .data], laidTests := true, laidLooks := .later }
def FnSettledUptoCardSaid : Prop := Claim7.holds Tryd.pinned (.plain (OpenSpec.upto fnSettledSpec)) fnSettledUptoCard

/-- THE SECOND FORM's CARD OF 'laws.FnLive'. -/
def fnLiveUptoCard : Claim7 := { stood := { row := fnLiveUptoRow, standIns := [], harness := (true, "e7fa8fde6f24c3446c179bc2f739c2aa404e7d552a2760fad63da0f54c7b6fee"), looks := true }, kinds := [], alts := [], laidByText := true, laidKinds := [.data, .data], laidTests := true, laidLooks := .later }
def FnLiveUptoCardSaid : Prop := Claim7.holds Tryd.pinned (.plain (OpenSpec.upto fnLiveSpec)) fnLiveUptoCard

/-- THE SECOND FORM's CARD OF 'laws.FnStateForm'. -/
def fnStateFormUptoCard : Claim7 := { stood := { row := fnStateFormUptoRow, standIns := [], harness := (true, "e7fa8fde6f24c3446c179bc2f739c2aa404e7d552a2760fad63da0f54c7b6fee"), looks := true }, kinds := [], alts := [], laidByText := true, laidKinds := [.data, .data], laidTests := true, laidLooks := .later }
def FnStateFormUptoCardSaid : Prop := Claim7.holds Tryd.pinned (.plain (OpenSpec.upto fnStateFormSpec)) fnStateFormUptoCard

/-- THE SECOND FORM's CARD OF 'laws.FnStateLess'. -/
def fnStateLessUptoCard : Claim7 := { stood := { row := fnStateLessUptoRow, standIns := [], harness := (true, "e7fa8fde6f24c3446c179bc2f739c2aa404e7d552a2760fad63da0f54c7b6fee"), looks := true }, kinds := [], alts := [], laidByText := true, laidKinds := [.data, .data], laidTests := true, laidLooks := .later }
def FnStateLessUptoCardSaid : Prop := Claim7.holds Tryd.pinned (.plain (OpenSpec.upto fnStateLessSpec)) fnStateLessUptoCard

/-- THE SECOND FORM's CARD OF 'laws.FnStateSeq'. -/
def fnStateSeqUptoCard : Claim7 := { stood := { row := fnStateSeqUptoRow, standIns := [], harness := (true, "e7fa8fde6f24c3446c179bc2f739c2aa404e7d552a2760fad63da0f54c7b6fee"), looks := true }, kinds := [], alts := [], laidByText := true, laidKinds := [.data, .data], laidTests := true, laidLooks := .later }
def FnStateSeqUptoCardSaid : Prop := Claim7.holds Tryd.pinned (.plain (OpenSpec.upto fnStateSeqSpec)) fnStateSeqUptoCard

/-- THE SECOND FORM's CARD OF 'laws.FnStateGot2'. -/
def fnStateGot2UptoCard : Claim7 := { stood := { row := fnStateGot2UptoRow, standIns := [], harness := (true, "e7fa8fde6f24c3446c179bc2f739c2aa404e7d552a2760fad63da0f54c7b6fee"), looks := true }, kinds := [], alts := [], laidByText := true, laidKinds := [.data, .data], laidTests := true, laidLooks := .later }
def FnStateGot2UptoCardSaid : Prop := Claim7.holds Tryd.pinned (.plain (OpenSpec.upto fnStateGot2Spec)) fnStateGot2UptoCard

/-- THE SECOND FORM's CARD OF 'laws.FnWayOpen'. -/
def fnWayOpenUptoCard : Claim7 := { stood := { row := fnWayOpenUptoRow, standIns := [], harness := (true, "e7fa8fde6f24c3446c179bc2f739c2aa404e7d552a2760fad63da0f54c7b6fee"), looks := true }, kinds := [], alts := [], laidByText := true, laidKinds := [.data, .data], laidTests := true, laidLooks := .later }
def FnWayOpenUptoCardSaid : Prop := Claim7.holds Tryd.pinned (.plain (OpenSpec.upto fnWayOpenSpec)) fnWayOpenUptoCard

/-- THE SECOND FORM's CARD OF 'laws.FnWayFresh'. -/
def fnWayFreshUptoCard : Claim7 := { stood := { row := fnWayFreshUptoRow, standIns := [], harness := (true, "e7fa8fde6f24c3446c179bc2f739c2aa404e7d552a2760fad63da0f54c7b6fee"), looks := true }, kinds := [], alts := [], laidByText := true, laidKinds := [.data, .data], laidTests := true, laidLooks := .later }
def FnWayFreshUptoCardSaid : Prop := Claim7.holds Tryd.pinned (.plain (OpenSpec.upto fnWayFreshSpec)) fnWayFreshUptoCard

/-- THE SECOND FORM's CARD OF 'laws.FnWayNext'. -/
def fnWayNextUptoCard : Claim7 := { stood := { row := fnWayNextUptoRow, standIns := [], harness := (true, "e7fa8fde6f24c3446c179bc2f739c2aa404e7d552a2760fad63da0f54c7b6fee"), looks := true }, kinds := [], alts := [], laidByText := true, laidKinds := [.data, .data], laidTests := true, laidLooks := .later }
def FnWayNextUptoCardSaid : Prop := Claim7.holds Tryd.pinned (.plain (OpenSpec.upto fnWayNextSpec)) fnWayNextUptoCard

/-- THE SECOND FORM's CARD OF 'laws.FnWayBoth'. -/
def fnWayBothUptoCard : Claim7 := { stood := { row := fnWayBothUptoRow, standIns := [], harness := (true, "e7fa8fde6f24c3446c179bc2f739c2aa404e7d552a2760fad63da0f54c7b6fee"), looks := true }, kinds := [], alts := [], laidByText := true, laidKinds := [.data, .data], laidTests := true, laidLooks := .later }
def FnWayBothUptoCardSaid : Prop := Claim7.holds Tryd.pinned (.plain (OpenSpec.upto fnWayBothSpec)) fnWayBothUptoCard
end Rows
end Go.Proofs.YtjcbeihoeanhaaaDoor
