/- spec.ChainBlock: one more height. -/
import Derived.Test.YtcnbephpadmboaaGreatDoorCxW
import Derived.Test.YtcnbephpadmboaaGreatDoorUCxN
set_option linter.unusedVariables false
set_option linter.unusedSimpArgs false
namespace Go.Proofs.YtcnbephpadmboaaGreatDoor
open Go.RowKit

/-- The call hands back (among f) a chain that can be read, and holds what c holds. -/
def RetR (f : Value → Value) (w : World) (c : ChM) (e : Ending) (w' : World) : Prop := ∃ d : ChM, e = .returned (f d.val) ∧ SameC c d ∧ ChAt w' d ∧ Keeps noBlk w w'
theorem SameS.snoc {ps qs : List StM} {s t : StM} (h : SameS ps qs) (hx : s.x = t.x) : SameS (ps ++ [s]) (qs ++ [t]) := by
  refine ⟨by rw [List.length_append, List.length_append, h.1]; rfl, fun i hi => ?_⟩
  rw [List.length_append, List.length_singleton] at hi
  rcases Nat.lt_or_ge i ps.length with hl | hl
  · rw [List.getD_eq_getElem?_getD, List.getD_eq_getElem?_getD, List.getElem?_append_left hl, List.getElem?_append_left (by rw [← h.1]; exact hl), ← List.getD_eq_getElem?_getD, ← List.getD_eq_getElem?_getD]
    exact h.2 i hl
  · obtain rfl : i = ps.length := by omega
    rw [List.getD_eq_getElem?_getD, List.getD_eq_getElem?_getD, List.getElem?_append_right (Nat.le_refl _), List.getElem?_append_right (by rw [← h.1]; exact Nat.le_refl _), h.1]
    simpa using hx
theorem rl0_ne {k : Nat} : rl 0 k ≠ 0 := by unfold rl; omega
theorem Mt.ne0 {G : Nat → Nat} {b : Nat} (h : Mt G 0 b) : G b ≠ 0 := by
  obtain ⟨k, _, hk⟩ := h
  rw [hk]
  exact rl0_ne
theorem fit_of {x : StL} (h : stB x = true) : StFit x := by
  have k := of_decide_eq_true h
  refine ⟨k.2.1.small, k.2.2.1.1, k.2.2.1.2.1, k.2.2.2.1, fun i hi => ?_⟩
  have pp := pkB_parts (k.2.1 i hi).1
  exact ⟨by simp only [kindB, Bool.and_eq_true, decide_eq_true_eq]; omega, by simp only [userB, Bool.and_eq_true, decide_eq_true_eq]; omega, by omega, by omega⟩
/-- A chain whose bank and states are ok, at most 90 heights, known heights from 1 on. -/
structure ChOk (c : ChM) : Prop where
  bank : okB c.bk.b = true
  st : stB c.st.x = true
  past : ∀ s ∈ c.past, stB s.x = true
  pl : c.past.length ≤ 90
  kn : ∀ v ∈ c.knows, 1 ≤ v
theorem block_same {c d d2 : ChM} (sm : SameC c d) (hb : ckB c = true) (hp : blockP d d2) : SameC (blkC c) d2 ∧ d2.bk.b.own.length ≤ maxLen ∧ d2.bk.b.notes.length ≤ maxLen := by
  have hl := ok_len2 (of_decide_eq_true hb).2.1
  have hl2 : d.bk.b.own.length ≤ maxLen ∧ d.bk.b.notes.length ≤ maxLen := by rw [← sm.bk]; unfold maxLen; omega
  unfold blkC
  rw [if_pos hb]
  unfold blockP at hp
  rw [← sm.past.1] at hp
  by_cases hn : c.past.length < 90
  · rw [if_pos hn] at hp ⊢
    obtain ⟨s, A, k, hs, rfl⟩ := hp
    exact ⟨⟨sm.id, sm.bk, sm.st, sm.past.snoc (by rw [hs]; exact sm.st), sm.knows⟩, hl2⟩
  · rw [if_neg hn] at hp ⊢
    subst hp
    exact ⟨sm, hl2⟩
theorem getD_snoc (l : List StM) (s : StM) (i : Nat) (hi : i < l.length + 1) : (l ++ [s]).getD i stm0 = if i < l.length then l.getD i stm0 else s := by
  rcases Nat.lt_or_ge i l.length with hl | hl
  · rw [if_pos hl, List.getD_eq_getElem?_getD, List.getElem?_append_left hl, ← List.getD_eq_getElem?_getD]
  · obtain rfl : i = l.length := by omega
    rw [if_neg (Nat.lt_irrefl _), List.getD_eq_getElem?_getD, List.getElem?_append_right (Nat.le_refl _)]
    simp
theorem blk_ok {c : ChM} (hb : ckB c = true) : ckB (blkC c) = true := by
  unfold blkC
  rw [if_pos hb]
  by_cases hn : c.past.length < 90
  · rw [if_pos hn]
    obtain ⟨k0, k1, k2, k3, k4, k5⟩ := of_decide_eq_true hb
    refine decide_eq_true ⟨k0, k1, k2, by dsimp only; rw [List.length_append, List.length_singleton]; omega, fun i hi => ?_, k5⟩
    dsimp only at hi ⊢
    rw [List.length_append, List.length_singleton] at hi
    rw [getD_snoc _ _ _ hi]
    split
    · exact k4 i (by assumption)
    · exact k2
  · rw [if_neg hn]
    exact hb
theorem paN_ok (l : List StM) (h : PaOk l) (i : Nat) (hi : i ≤ l.length) : paN l i ≤ 83 * i := by
  induction i with
  | zero => simp [paN]
  | succ i ih =>
    have h1 := ih (by omega)
    have h2 := stB_len (h i (by omega))
    simp only [paN]
    unfold stNi
    omega
theorem chN_ok {c : ChM} (hb : ckB c = true) : chN c ≤ 100000 := by
  obtain ⟨k0, k1, k2, k3, k4, k5⟩ := of_decide_eq_true hb
  have e1 := ok_len2 k1
  have e2 := stB_len k2
  have e3 := kn_len k5
  have e4 := paN_ok c.past k4 c.past.length (Nat.le_refl _)
  unfold chN stN
  omega
theorem blk_chN (c : ChM) : chN (blkC c) ≤ 100000 := by
  rcases Bool.eq_false_or_eq_true (ckB c) with hb | hb
  · exact chN_ok (blk_ok hb)
  · rw [show blkC c = ch0 by unfold blkC; rw [if_neg (by rw [hb]; decide)]]
    decide
theorem blk_same {c d : ChM} (h : SameC c d) : SameC (blkC c) (blkC d) := by
  unfold blkC
  rw [ckB_same h, ← h.past.1]
  split
  · split
    · exact ⟨h.id, h.bk, h.st, h.past.snoc h.st, h.knows⟩
    · exact h
  · exact SameC.refl _
theorem ChAt.lt {w : World} {c : ChM} (h : ChAt w c) {b : Nat} (hb : chBlk c b) : b < w.heap.size := by
  rcases hb with hb | hb | hb | (hb | ⟨i, hi, hb⟩) | hb
  · exact h.own.lt hb
  · exact h.notes.lt hb
  · exact StAt.lt h.st hb
  · exact h.row.lt hb
  · exact StAt.lt (h.past _ (getD_mem' stm0 hi)) hb
  · exact h.knows.lt hb
end Go.Proofs.YtcnbephpadmboaaGreatDoor
