/-
  DERIVED. GIVEN WITH THE SEED: THE CARDS: each row of YtcnbephpadmboaaDoorRows.lean that lists a variable, with what it lists TIED to the program's text (the seventh form; the later family's looks); each row that meets fmt, with fmt's text TOLD by the authors' own Lean function (tested against real Go, not proved from fmt's source: count such statements apart). THE CARD IS WHAT COUNTS. Prove the row's statement (the work); the ties are given (YtcnbephpadmboaaDoorTie.lean); close each card by the builder's one call (the guide's Derived/Test/ToyasCard.lean, 'card_holds'). Laid BY PROGRAM, IN A SANDBOX (cutbox-door.mjs). By AI agents, Wed Nov 11 2026. No macro, syntax, notation, axiom, sorry.
-/
import Derived.Test.YtcnbephpadmboaaDoorRows
import GoSem.ClaimSeven
namespace Go.Proofs.YtcnbephpadmboaaDoor
namespace Rows

/-- THE TIED CARD OF 'laws.FnHas'. -/
def fnHasCard : Claim7 := { stood := { row := fnHasRow, standIns := [], harness := (true, "f232a8d6a5e01c1e63ff6decb31c5312accc0c15f3a4089d876351c0695fffcb"), looks := true }, kinds := [], alts := [], laidByText := true, laidKinds := [.data, .data], laidTests := true, laidLooks := .later }
def FnHasCardSaid : Prop := Claim7.holds Tryd.pinned (.plain (OpenSpec.ofChange fnHasSpec)) fnHasCard

/-- THE TIED CARD OF 'laws.FnGot'. -/
def fnGotCard : Claim7 := { stood := { row := fnGotRow, standIns := [], harness := (true, "f232a8d6a5e01c1e63ff6decb31c5312accc0c15f3a4089d876351c0695fffcb"), looks := true }, kinds := [], alts := [], laidByText := true, laidKinds := [.data, .data], laidTests := true, laidLooks := .later }
def FnGotCardSaid : Prop := Claim7.holds Tryd.pinned (.plain (OpenSpec.ofChange fnGotSpec)) fnGotCard

/-- THE TIED CARD OF 'laws.FnSettled'. -/
def fnSettledCard : Claim7 := { stood := { row := fnSettledRow, standIns := [], harness := (true, "f232a8d6a5e01c1e63ff6decb31c5312accc0c15f3a4089d876351c0695fffcb"), looks := true }, kinds := [], alts := [], laidByText := true, laidKinds := [.data, .data], laidTests := true, laidLooks := .later }
def FnSettledCardSaid : Prop := Claim7.holds Tryd.pinned (.plain (OpenSpec.ofChange fnSettledSpec)) fnSettledCard

/-- THE TIED CARD OF 'laws.FnStateSeq'. -/
def fnStateSeqCard : Claim7 := { stood := { row := fnStateSeqRow, standIns := [], harness := (true, "f232a8d6a5e01c1e63ff6decb31c5312accc0c15f3a4089d876351c0695fffcb"), looks := true }, kinds := [], alts := [], laidByText := true, laidKinds := [.data, .data], laidTests := true, laidLooks := .later }
def FnStateSeqCardSaid : Prop := Claim7.holds Tryd.pinned (.plain (OpenSpec.ofChange fnStateSeqSpec)) fnStateSeqCard

/-- THE TIED CARD OF 'laws.FnLive'. -/
def fnLiveCard : Claim7 := { stood := { row := fnLiveRow, standIns := [], harness := (true, "f232a8d6a5e01c1e63ff6decb31c5312accc0c15f3a4089d876351c0695fffcb"), looks := true }, kinds := [], alts := [], laidByText := true, laidKinds := [.data, .data], laidTests := true, laidLooks := .later }
def FnLiveCardSaid : Prop := Claim7.holds Tryd.pinned (.plain (OpenSpec.ofChange fnLiveSpec)) fnLiveCard

/-- THE TIED CARD OF 'laws.FnNext'. -/
def fnNextCard : Claim7 := { stood := { row := fnNextRow, standIns := [], harness := (true, "f232a8d6a5e01c1e63ff6decb31c5312accc0c15f3a4089d876351c0695fffcb"), looks := true }, kinds := [], alts := [], laidByText := true, laidKinds := [.data, .data], laidTests := true, laidLooks := .later }
def FnNextCardSaid : Prop := Claim7.holds Tryd.pinned (.plain (OpenSpec.ofChange fnNextSpec)) fnNextCard

/-- THE TIED CARD OF 'laws.FnStateForm'. -/
def fnStateFormCard : Claim7 := { stood := { row := fnStateFormRow, standIns := [], harness := (true, "f232a8d6a5e01c1e63ff6decb31c5312accc0c15f3a4089d876351c0695fffcb"), looks := true }, kinds := [], alts := [], laidByText := true, laidKinds := [.data, .data], laidTests := true, laidLooks := .later }
def FnStateFormCardSaid : Prop := Claim7.holds Tryd.pinned (.plain (OpenSpec.ofChange fnStateFormSpec)) fnStateFormCard

/-- THE TIED CARD OF 'laws.FnChainNew'. -/
def fnChainNewCard : Claim7 := { stood := { row := fnChainNewRow, standIns := [], harness := (true, "f232a8d6a5e01c1e63ff6decb31c5312accc0c15f3a4089d876351c0695fffcb"), looks := true }, kinds := [], alts := [], laidByText := true, laidKinds := [.data, .data], laidTests := true, laidLooks := .later }
def FnChainNewCardSaid : Prop := Claim7.holds Tryd.pinned (.plain (OpenSpec.ofChange fnChainNewSpec)) fnChainNewCard

/-- THE SECOND FORM's CARD OF 'laws.FnHas'. -/
def fnHasUptoCard : Claim7 := { stood := { row := fnHasUptoRow, standIns := [], harness := (true, "f232a8d6a5e01c1e63ff6decb31c5312accc0c15f3a4089d876351c0695fffcb"), looks := true }, kinds := [], alts := [], laidByText := true, laidKinds := [.data, .data], laidTests := true, laidLooks := .later }
def FnHasUptoCardSaid : Prop := Claim7.holds Tryd.pinned (.plain (OpenSpec.upto fnHasSpec)) fnHasUptoCard

/-- THE SECOND FORM's CARD OF 'laws.FnGot'. -/
def fnGotUptoCard : Claim7 := { stood := { row := fnGotUptoRow, standIns := [], harness := (true, "f232a8d6a5e01c1e63ff6decb31c5312accc0c15f3a4089d876351c0695fffcb"), looks := true }, kinds := [], alts := [], laidByText := true, laidKinds := [.data, .data], laidTests := true, laidLooks := .later }
def FnGotUptoCardSaid : Prop := Claim7.holds Tryd.pinned (.plain (OpenSpec.upto fnGotSpec)) fnGotUptoCard

/-- THE SECOND FORM's CARD OF 'laws.FnSettled'. -/
def fnSettledUptoCard : Claim7 := { stood := { row := fnSettledUptoRow, standIns := [], harness := (true, "f232a8d6a5e01c1e63ff6decb31c5312accc0c15f3a4089d876351c0695fffcb"), looks := true }, kinds := [], alts := [], laidByText := true, laidKinds := [.data, .data], laidTests := true, laidLooks := .later }
def FnSettledUptoCardSaid : Prop := Claim7.holds Tryd.pinned (.plain (OpenSpec.upto fnSettledSpec)) fnSettledUptoCard

/-- THE SECOND FORM's CARD OF 'laws.FnStateSeq'. -/
def fnStateSeqUptoCard : Claim7 := { stood := { row := fnStateSeqUptoRow, standIns := [], harness := (true, "f232a8d6a5e01c1e63ff6decb31c5312accc0c15f3a4089d876351c0695fffcb"), looks := true }, kinds := [], alts := [], laidByText := true, laidKinds := [.data, .data], laidTests := true, laidLooks := .later }
def FnStateSeqUptoCardSaid : Prop := Claim7.holds Tryd.pinned (.plain (OpenSpec.upto fnStateSeqSpec)) fnStateSeqUptoCard

/-- THE SECOND FORM's CARD OF 'laws.FnLive'. -/
def fnLiveUptoCard : Claim7 := { stood := { row := fnLiveUptoRow, standIns := [], harness := (true, "f232a8d6a5e01c1e63ff6decb31c5312accc0c15f3a4089d876351c0695fffcb"), looks := true }, kinds := [], alts := [], laidByText := true, laidKinds := [.data, .data], laidTests := true, laidLooks := .later }
def FnLiveUptoCardSaid : Prop := Claim7.holds Tryd.pinned (.plain (OpenSpec.upto fnLiveSpec)) fnLiveUptoCard

/-- THE SECOND FORM's CARD OF 'laws.FnNext'. -/
def fnNextUptoCard : Claim7 := { stood := { row := fnNextUptoRow, standIns := [], harness := (true, "f232a8d6a5e01c1e63ff6decb31c5312accc0c15f3a4089d876351c0695fffcb"), looks := true }, kinds := [], alts := [], laidByText := true, laidKinds := [.data, .data], laidTests := true, laidLooks := .later }
def FnNextUptoCardSaid : Prop := Claim7.holds Tryd.pinned (.plain (OpenSpec.upto fnNextSpec)) fnNextUptoCard

/-- THE SECOND FORM's CARD OF 'laws.FnStateForm'. -/
def fnStateFormUptoCard : Claim7 := { stood := { row := fnStateFormUptoRow, standIns := [], harness := (true, "f232a8d6a5e01c1e63ff6decb31c5312accc0c15f3a4089d876351c0695fffcb"), looks := true }, kinds := [], alts := [], laidByText := true, laidKinds := [.data, .data], laidTests := true, laidLooks := .later }
def FnStateFormUptoCardSaid : Prop := Claim7.holds Tryd.pinned (.plain (OpenSpec.upto fnStateFormSpec)) fnStateFormUptoCard

/-- THE SECOND FORM's CARD OF 'laws.FnChainNew'. -/
def fnChainNewUptoCard : Claim7 := { stood := { row := fnChainNewUptoRow, standIns := [], harness := (true, "f232a8d6a5e01c1e63ff6decb31c5312accc0c15f3a4089d876351c0695fffcb"), looks := true }, kinds := [], alts := [], laidByText := true, laidKinds := [.data, .data], laidTests := true, laidLooks := .later }
def FnChainNewUptoCardSaid : Prop := Claim7.holds Tryd.pinned (.plain (OpenSpec.upto fnChainNewSpec)) fnChainNewUptoCard
end Rows
end Go.Proofs.YtcnbephpadmboaaDoor
