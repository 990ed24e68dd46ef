/-
  DERIVED. GIVEN WITH THE SEED: THE CARDS: each row of YtbgpclicflafaaaDoorRows.lean that lists a variable, with what it lists TIED to the program's text (the seventh form; the later family's looks); each row that meets fmt, with fmt's text TOLD by the authors' own Lean function (tested against real Go, not proved from fmt's source: count such statements apart). THE CARD IS WHAT COUNTS. Prove the row's statement (the work); the ties are given (YtbgpclicflafaaaDoorTie.lean); close each card by the builder's one call (the guide's Derived/Test/ToyasCard.lean, 'card_holds'). Laid BY PROGRAM, IN A SANDBOX (cutbox-door.mjs). By AI agents, Wed Nov 11 2026. No macro, syntax, notation, axiom, sorry.
-/
import Derived.Test.YtbgpclicflafaaaDoorRows
import GoSem.ClaimSeven
namespace Go.Proofs.YtbgpclicflafaaaDoor
namespace Rows

/-- THE TIED CARD OF 'laws.FnExactChainOk'. -/
def fnExactChainOkCard : Claim7 := { stood := { row := fnExactChainOkRow, standIns := [], harness := (true, "bfc8b4a006164cee0f694f130ea2e14c242ed8b7c3128d449ddaa27ee735ae7c"), looks := true }, kinds := [], alts := [], laidByText := true, laidKinds := [.data, .data], laidTests := true, laidLooks := .later }
def FnExactChainOkCardSaid : Prop := Claim7.holds Tryd.pinned (.plain (OpenSpec.ofChange fnExactChainOkSpec)) fnExactChainOkCard

/-- THE TIED CARD OF 'laws.FnExactChainBlock'. -/
def fnExactChainBlockCard : Claim7 := { stood := { row := fnExactChainBlockRow, standIns := [], harness := (true, "bfc8b4a006164cee0f694f130ea2e14c242ed8b7c3128d449ddaa27ee735ae7c"), looks := true }, kinds := [], alts := [], laidByText := true, laidKinds := [.data, .data], laidTests := true, laidLooks := .later }
def FnExactChainBlockCardSaid : Prop := Claim7.holds Tryd.pinned (.plain (OpenSpec.ofChange fnExactChainBlockSpec)) fnExactChainBlockCard

/-- THE TIED CARD OF 'laws.FnExactChainSend'. -/
def fnExactChainSendCard : Claim7 := { stood := { row := fnExactChainSendRow, standIns := [], harness := (true, "bfc8b4a006164cee0f694f130ea2e14c242ed8b7c3128d449ddaa27ee735ae7c"), looks := true }, kinds := [], alts := [], laidByText := true, laidKinds := [.data, .data], laidTests := true, laidLooks := .later }
def FnExactChainSendCardSaid : Prop := Claim7.holds Tryd.pinned (.plain (OpenSpec.ofChange fnExactChainSendSpec)) fnExactChainSendCard

/-- THE TIED CARD OF 'laws.FnExactChainAt'. -/
def fnExactChainAtCard : Claim7 := { stood := { row := fnExactChainAtRow, standIns := [], harness := (true, "bfc8b4a006164cee0f694f130ea2e14c242ed8b7c3128d449ddaa27ee735ae7c"), looks := true }, kinds := [], alts := [], laidByText := true, laidKinds := [.data, .data], laidTests := true, laidLooks := .later }
def FnExactChainAtCardSaid : Prop := Claim7.holds Tryd.pinned (.plain (OpenSpec.ofChange fnExactChainAtSpec)) fnExactChainAtCard

/-- THE TIED CARD OF 'laws.FnExactChainNext'. -/
def fnExactChainNextCard : Claim7 := { stood := { row := fnExactChainNextRow, standIns := [], harness := (true, "bfc8b4a006164cee0f694f130ea2e14c242ed8b7c3128d449ddaa27ee735ae7c"), looks := true }, kinds := [], alts := [], laidByText := true, laidKinds := [.data, .data], laidTests := true, laidLooks := .later }
def FnExactChainNextCardSaid : Prop := Claim7.holds Tryd.pinned (.plain (OpenSpec.ofChange fnExactChainNextSpec)) fnExactChainNextCard

/-- THE TIED CARD OF 'laws.FnHas'. -/
def fnHasCard : Claim7 := { stood := { row := fnHasRow, standIns := [], harness := (true, "bfc8b4a006164cee0f694f130ea2e14c242ed8b7c3128d449ddaa27ee735ae7c"), looks := true }, kinds := [], alts := [], laidByText := true, laidKinds := [.data, .data], laidTests := true, laidLooks := .later }
def FnHasCardSaid : Prop := Claim7.holds Tryd.pinned (.plain (OpenSpec.ofChange fnHasSpec)) fnHasCard

/-- THE TIED CARD OF 'laws.FnGot'. -/
def fnGotCard : Claim7 := { stood := { row := fnGotRow, standIns := [], harness := (true, "bfc8b4a006164cee0f694f130ea2e14c242ed8b7c3128d449ddaa27ee735ae7c"), looks := true }, kinds := [], alts := [], laidByText := true, laidKinds := [.data, .data], laidTests := true, laidLooks := .later }
def FnGotCardSaid : Prop := Claim7.holds Tryd.pinned (.plain (OpenSpec.ofChange fnGotSpec)) fnGotCard

/-- THE TIED CARD OF 'laws.FnSettled'. -/
def fnSettledCard : Claim7 := { stood := { row := fnSettledRow, standIns := [], harness := (true, "bfc8b4a006164cee0f694f130ea2e14c242ed8b7c3128d449ddaa27ee735ae7c"), looks := true }, kinds := [], alts := [], laidByText := true, laidKinds := [.data, .data], laidTests := true, laidLooks := .later }
def FnSettledCardSaid : Prop := Claim7.holds Tryd.pinned (.plain (OpenSpec.ofChange fnSettledSpec)) fnSettledCard

/-- THE TIED CARD OF 'laws.FnStateSeq'. -/
def fnStateSeqCard : Claim7 := { stood := { row := fnStateSeqRow, standIns := [], harness := (true, "bfc8b4a006164cee0f694f130ea2e14c242ed8b7c3128d449ddaa27ee735ae7c"), looks := true }, kinds := [], alts := [], laidByText := true, laidKinds := [.data, .data], laidTests := true, laidLooks := .later }
def FnStateSeqCardSaid : Prop := Claim7.holds Tryd.pinned (.plain (OpenSpec.ofChange fnStateSeqSpec)) fnStateSeqCard

/-- THE TIED CARD OF 'laws.FnWayBoth'. -/
def fnWayBothCard : Claim7 := { stood := { row := fnWayBothRow, standIns := [], harness := (true, "bfc8b4a006164cee0f694f130ea2e14c242ed8b7c3128d449ddaa27ee735ae7c"), looks := true }, kinds := [], alts := [], laidByText := true, laidKinds := [.data, .data], laidTests := true, laidLooks := .later }
def FnWayBothCardSaid : Prop := Claim7.holds Tryd.pinned (.plain (OpenSpec.ofChange fnWayBothSpec)) fnWayBothCard

/-- THE TIED CARD OF 'laws.FnNext'. -/
def fnNextCard : Claim7 := { stood := { row := fnNextRow, standIns := [], harness := (true, "bfc8b4a006164cee0f694f130ea2e14c242ed8b7c3128d449ddaa27ee735ae7c"), looks := true }, kinds := [], alts := [], laidByText := true, laidKinds := [.data, .data], laidTests := true, laidLooks := .later }
def FnNextCardSaid : Prop := Claim7.holds Tryd.pinned (.plain (OpenSpec.ofChange fnNextSpec)) fnNextCard

/-- THE SECOND FORM's CARD OF 'laws.FnExactChainOk'. -/
def fnExactChainOkUptoCard : Claim7 := { stood := { row := fnExactChainOkUptoRow, standIns := [], harness := (true, "bfc8b4a006164cee0f694f130ea2e14c242ed8b7c3128d449ddaa27ee735ae7c"), looks := true }, kinds := [], alts := [], laidByText := true, laidKinds := [.data, .data], laidTests := true, laidLooks := .later }
def FnExactChainOkUptoCardSaid : Prop := Claim7.holds Tryd.pinned (.plain (OpenSpec.upto fnExactChainOkSpec)) fnExactChainOkUptoCard

/-- THE SECOND FORM's CARD OF 'laws.FnExactChainBlock'. -/
def fnExactChainBlockUptoCard : Claim7 := { stood := { row := fnExactChainBlockUptoRow, standIns := [], harness := (true, "bfc8b4a006164cee0f694f130ea2e14c242ed8b7c3128d449ddaa27ee735ae7c"), looks := true }, kinds := [], alts := [], laidByText := true, laidKinds := [.data, .data], laidTests := true, laidLooks := .later }
def FnExactChainBlockUptoCardSaid : Prop := Claim7.holds Tryd.pinned (.plain (OpenSpec.upto fnExactChainBlockSpec)) fnExactChainBlockUptoCard

/-- THE SECOND FORM's CARD OF 'laws.FnExactChainSend'. -/
def fnExactChainSendUptoCard : Claim7 := { stood := { row := fnExactChainSendUptoRow, standIns := [], harness := (true, "bfc8b4a006164cee0f694f130ea2e14c242ed8b7c3128d449ddaa27ee735ae7c"), looks := true }, kinds := [], alts := [], laidByText := true, laidKinds := [.data, .data], laidTests := true, laidLooks := .later }
def FnExactChainSendUptoCardSaid : Prop := Claim7.holds Tryd.pinned (.plain (OpenSpec.upto fnExactChainSendSpec)) fnExactChainSendUptoCard

/-- THE SECOND FORM's CARD OF 'laws.FnExactChainAt'. -/
def fnExactChainAtUptoCard : Claim7 := { stood := { row := fnExactChainAtUptoRow, standIns := [], harness := (true, "bfc8b4a006164cee0f694f130ea2e14c242ed8b7c3128d449ddaa27ee735ae7c"), looks := true }, kinds := [], alts := [], laidByText := true, laidKinds := [.data, .data], laidTests := true, laidLooks := .later }
def FnExactChainAtUptoCardSaid : Prop := Claim7.holds Tryd.pinned (.plain (OpenSpec.upto fnExactChainAtSpec)) fnExactChainAtUptoCard

/-- THE SECOND FORM's CARD OF 'laws.FnExactChainNext'. -/
def fnExactChainNextUptoCard : Claim7 := { stood := { row := fnExactChainNextUptoRow, standIns := [], harness := (true, "bfc8b4a006164cee0f694f130ea2e14c242ed8b7c3128d449ddaa27ee735ae7c"), looks := true }, kinds := [], alts := [], laidByText := true, laidKinds := [.data, .data], laidTests := true, laidLooks := .later }
def FnExactChainNextUptoCardSaid : Prop := Claim7.holds Tryd.pinned (.plain (OpenSpec.upto fnExactChainNextSpec)) fnExactChainNextUptoCard

/-- THE SECOND FORM's CARD OF 'laws.FnHas'. -/
def fnHasUptoCard : Claim7 := { stood := { row := fnHasUptoRow, standIns := [], harness := (true, "bfc8b4a006164cee0f694f130ea2e14c242ed8b7c3128d449ddaa27ee735ae7c"), looks := true }, kinds := [], alts := [], laidByText := true, laidKinds := [.data, .data], laidTests := true, laidLooks := .later }
def FnHasUptoCardSaid : Prop := Claim7.holds Tryd.pinned (.plain (OpenSpec.upto fnHasSpec)) fnHasUptoCard

/-- THE SECOND FORM's CARD OF 'laws.FnGot'. -/
def fnGotUptoCard : Claim7 := { stood := { row := fnGotUptoRow, standIns := [], harness := (true, "bfc8b4a006164cee0f694f130ea2e14c242ed8b7c3128d449ddaa27ee735ae7c"), looks := true }, kinds := [], alts := [], laidByText := true, laidKinds := [.data, .data], laidTests := true, laidLooks := .later }
def FnGotUptoCardSaid : Prop := Claim7.holds Tryd.pinned (.plain (OpenSpec.upto fnGotSpec)) fnGotUptoCard

/-- THE SECOND FORM's CARD OF 'laws.FnSettled'. -/
def fnSettledUptoCard : Claim7 := { stood := { row := fnSettledUptoRow, standIns := [], harness := (true, "bfc8b4a006164cee0f694f130ea2e14c242ed8b7c3128d449ddaa27ee735ae7c"), looks := true }, kinds := [], alts := [], laidByText := true, laidKinds := [.data, .data], laidTests := true, laidLooks := .later }
def FnSettledUptoCardSaid : Prop := Claim7.holds Tryd.pinned (.plain (OpenSpec.upto fnSettledSpec)) fnSettledUptoCard

/-- THE SECOND FORM's CARD OF 'laws.FnStateSeq'. -/
def fnStateSeqUptoCard : Claim7 := { stood := { row := fnStateSeqUptoRow, standIns := [], harness := (true, "bfc8b4a006164cee0f694f130ea2e14c242ed8b7c3128d449ddaa27ee735ae7c"), looks := true }, kinds := [], alts := [], laidByText := true, laidKinds := [.data, .data], laidTests := true, laidLooks := .later }
def FnStateSeqUptoCardSaid : Prop := Claim7.holds Tryd.pinned (.plain (OpenSpec.upto fnStateSeqSpec)) fnStateSeqUptoCard

/-- THE SECOND FORM's CARD OF 'laws.FnWayBoth'. -/
def fnWayBothUptoCard : Claim7 := { stood := { row := fnWayBothUptoRow, standIns := [], harness := (true, "bfc8b4a006164cee0f694f130ea2e14c242ed8b7c3128d449ddaa27ee735ae7c"), looks := true }, kinds := [], alts := [], laidByText := true, laidKinds := [.data, .data], laidTests := true, laidLooks := .later }
def FnWayBothUptoCardSaid : Prop := Claim7.holds Tryd.pinned (.plain (OpenSpec.upto fnWayBothSpec)) fnWayBothUptoCard

/-- THE SECOND FORM's CARD OF 'laws.FnNext'. -/
def fnNextUptoCard : Claim7 := { stood := { row := fnNextUptoRow, standIns := [], harness := (true, "bfc8b4a006164cee0f694f130ea2e14c242ed8b7c3128d449ddaa27ee735ae7c"), looks := true }, kinds := [], alts := [], laidByText := true, laidKinds := [.data, .data], laidTests := true, laidLooks := .later }
def FnNextUptoCardSaid : Prop := Claim7.holds Tryd.pinned (.plain (OpenSpec.upto fnNextSpec)) fnNextUptoCard
end Rows
end Go.Proofs.YtbgpclicflafaaaDoor
