/- Plain facts on chains that hold the same. -/
import Derived.Test.YtcnbephpadmboaaDoorUCxM
import Derived.Test.YtcnbephpadmboaaDoorUCxS
import Derived.Test.YtcnbephpadmboaaDoorCxU
set_option linter.unusedVariables false
set_option linter.unusedSimpArgs false
namespace Go.Proofs.YtcnbephpadmboaaDoor
open Go.RowKit

theorem SameC.refl (c : ChM) : SameC c c := ⟨rfl, rfl, rfl, SameS.refl _, rfl⟩
theorem SameC.symm {c d : ChM} (h : SameC c d) : SameC d c := ⟨h.id.symm, h.bk.symm, h.st.symm, h.past.symm, h.knows.symm⟩
theorem SameC.trans {c d e : ChM} (h : SameC c d) (k : SameC d e) : SameC c e := ⟨h.id.trans k.id, h.bk.trans k.bk, h.st.trans k.st, h.past.trans k.past, h.knows.trans k.knows⟩
theorem ckB_same {c d : ChM} (h : SameC c d) : ckB d = ckB c := by
  have e : CkOk d ↔ CkOk c := by
    unfold CkOk PaOk
    rw [← h.id, ← h.bk, ← h.st, ← h.knows, ← h.past.1]
    constructor
    · rintro ⟨a1, a2, a3, a4, a5, a6⟩
      exact ⟨a1, a2, a3, a4, fun i hi => by rw [h.past.2 i hi]; exact a5 i hi, a6⟩
    · rintro ⟨a1, a2, a3, a4, a5, a6⟩
      exact ⟨a1, a2, a3, a4, fun i hi => by rw [← h.past.2 i hi]; exact a5 i hi, a6⟩
  unfold ckB
  exact decide_eq_decide.2 e
theorem paN_same {ps qs : List StM} (h : SameS ps qs) (i : Nat) (hi : i ≤ ps.length) : paN qs i = paN ps i := by
  induction i with
  | zero => rfl
  | succ i ih => simp only [paN]; rw [ih (by omega), h.2 i (by omega)]
theorem chN_same {c d : ChM} (h : SameC c d) : chN d = chN c := by
  unfold chN
  rw [← h.bk, ← h.st, ← h.knows, ← h.past.1, paN_same h.past _ (Nat.le_refl _)]
theorem chN_nn (c : ChM) : 0 ≤ chN c := by
  have := paN_nn c.past c.past.length
  unfold chN
  omega
theorem paTot_at (l : List StM) {i : Nat} (h : i < l.length) : stTot (l.getD i stm0).x ≤ paTot l l.length := by
  have h1 := paTot_mono l (show i + 1 ≤ l.length from h)
  have h2 := paTot_nn l i
  simp only [paTot] at h1
  omega
theorem paN_le (l : List StM) (i : Nat) : paN l i ≤ 3 * i + 7 * paTot l i := by
  induction i with
  | zero => simp [paN, paTot]
  | succ i ih =>
    simp only [paN, paTot]
    unfold stNi stTot
    omega
theorem chN_le (c : ChM) : chN c ≤ 10 * chTot c := by
  have h1 := paN_le c.past c.past.length
  have h2 := paTot_nn c.past c.past.length
  unfold chN chTot pastTot stN stTot
  omega
theorem short_of {c : ChM} (h : chTot c ≤ 1048576) : Short c := by
  have z1 := stTot_nn c.st.x
  have z2 := paTot_nn c.past c.past.length
  unfold chTot pastTot at h
  unfold stTot at h z1
  refine ⟨by omega, by omega, ⟨by omega, by omega, by omega, by omega⟩, by omega, fun s hs => ?_, by omega⟩
  obtain ⟨i, hi, rfl⟩ := List.getElem_of_mem hs
  have e : c.past.getD i stm0 = c.past[i] := by rw [List.getD_eq_getElem?_getD, List.getElem?_eq_getElem hi]; rfl
  have := paTot_at c.past hi
  rw [e] at this
  unfold stTot at this
  omega
end Go.Proofs.YtcnbephpadmboaaDoor
