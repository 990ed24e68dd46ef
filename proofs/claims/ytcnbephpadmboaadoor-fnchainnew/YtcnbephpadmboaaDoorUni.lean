/- What BankMove, BankAway and BankBack hand back, in one form. -/
import Derived.Test.YtcnbephpadmboaaDoorUTurn
set_option linter.unusedVariables false
set_option linter.unusedSimpArgs false
namespace Go.Proofs.YtcnbephpadmboaaDoor
open Go.RowKit

def zeroL : BankL := ⟨[], [], 0⟩
def resL (ok : Bool) (b : BankL) : BankL := if ok then b else zeroL
def RetU (w : World) (ok : Bool) (rb : BankL) (e : Ending) (w' : World) : Prop :=
  ∃ R1 m1 d1 R2 m2 d2, e = .returned (.tuple #[.agg #[.slice R1 m1 d1, .slice R2 m2 d2, .int .i64 rb.locked], .bool ok]) ∧ Row w' w.heap.size R1 m1 rb.own ∧ Row w' w.heap.size R2 m2 rb.notes ∧
    (∀ i, blk R1 m1 i → ¬ blk R2 m2 i) ∧ m1 ≤ maxLen ∧ m2 ≤ maxLen ∧ Keeps noBlk w w'
theorem RetB2.u {w : World} {ok : Bool} {b : BankL} {e : Ending} {w' : World} (h : RetB2 w ok b e w') : RetU w ok (resL ok b) e w' := by
  rcases h with ⟨rfl, v, rfl, ⟨A1, n1, c1, A2, n2, c2, rfl, hr1, hr2, hd, k1, k2, m1, m2⟩, hk⟩ | ⟨rfl, rfl, hk⟩
  · exact ⟨A1, n1, c1, A2, n2, c2, rfl, hr1, hr2, hd, Nat.le_trans k1 m1, Nat.le_trans k2 m2, hk⟩
  · exact ⟨none, 0, 0, none, 0, 0, rfl, Row.nil _ _ _, Row.nil _ _ _, fun i h => absurd h.1 (by omega), by decide, by decide, hk⟩
theorem resL_len {ok : Bool} {b : BankL} (h : ok = true → okB b = true) : (resL ok b).own.length ≤ 3 ∧ (resL ok b).notes.length ≤ 3 := by
  cases ok
  · simp [resL, zeroL]
  · have hb := h rfl
    have e1 := lst_len hb 1
    have e2 := lst_len hb 2
    simp only [lst] at e1 e2
    simp only [resL, if_true]
    constructor
    · exact Nat.le_of_eq e1
    · exact Nat.le_of_eq e2
end Go.Proofs.YtcnbephpadmboaaDoor
