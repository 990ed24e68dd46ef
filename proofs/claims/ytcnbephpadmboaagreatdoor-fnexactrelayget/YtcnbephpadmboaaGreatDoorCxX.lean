/- spec.ChainBlock: one more height. -/
import Derived.Test.YtcnbephpadmboaaGreatDoorCxW
import Derived.Test.YtcnbephpadmboaaGreatDoorUCxN
set_option linter.unusedVariables false
set_option linter.unusedSimpArgs false
namespace Go.Proofs.YtcnbephpadmboaaGreatDoor
open Go.RowKit

theorem rl0_ne {k : Nat} : rl 0 k ≠ 0 := by unfold rl; omega
theorem Mt.ne0 {G : Nat → Nat} {b : Nat} (h : Mt G 0 b) : G b ≠ 0 := by
  obtain ⟨k, _, hk⟩ := h
  rw [hk]
  exact rl0_ne
theorem fit_of {x : StL} (h : stB x = true) : StFit x := by
  have k := of_decide_eq_true h
  refine ⟨k.2.1.small, k.2.2.1.1, k.2.2.1.2.1, k.2.2.2.1, fun i hi => ?_⟩
  have pp := pkB_parts (k.2.1 i hi).1
  exact ⟨by simp only [kindB, Bool.and_eq_true, decide_eq_true_eq]; omega, by simp only [userB, Bool.and_eq_true, decide_eq_true_eq]; omega, by omega, by omega⟩
theorem paN_ok (l : List StM) (h : PaOk l) (i : Nat) (hi : i ≤ l.length) : paN l i ≤ 83 * i := by
  induction i with
  | zero => simp [paN]
  | succ i ih =>
    have h1 := ih (by omega)
    have h2 := stB_len (h i (by omega))
    simp only [paN]
    unfold stNi
    omega
theorem ChAt.lt {w : World} {c : ChM} (h : ChAt w c) {b : Nat} (hb : chBlk c b) : b < w.heap.size := by
  rcases hb with hb | hb | hb | (hb | ⟨i, hi, hb⟩) | hb
  · exact h.own.lt hb
  · exact h.notes.lt hb
  · exact StAt.lt h.st hb
  · exact h.row.lt hb
  · exact StAt.lt (h.past _ (getD_mem' stm0 hi)) hb
  · exact h.knows.lt hb
end Go.Proofs.YtcnbephpadmboaaGreatDoor
