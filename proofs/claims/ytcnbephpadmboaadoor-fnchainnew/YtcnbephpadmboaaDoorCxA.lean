/- spec.ChainAt, impl.ChainAt: the state at a height. -/
import Derived.Test.YtcnbephpadmboaaDoorUCxB
import Derived.Test.YtcnbephpadmboaaDoorUCxM
import Derived.Test.YtcnbephpadmboaaDoorICopy
set_option linter.unusedVariables false
set_option linter.unusedSimpArgs false
namespace Go.Proofs.YtcnbephpadmboaaDoor
open Go.RowKit

theorem upto_head (l : List StM) (h : Int) (hc : 1 ≤ h ∧ h ≤ l.length) : ∃ rest, upto l.reverse h = l.getD (h.toNat - 1) stm0 :: rest := by
  unfold upto
  rw [if_pos (by rw [List.length_reverse]; exact hc)]
  have hk : l.reverse.length - h.toNat < l.reverse.length := by rw [List.length_reverse]; omega
  rw [List.drop_eq_getElem_cons hk, List.getElem_reverse]
  refine ⟨List.drop (l.reverse.length - h.toNat + 1) l.reverse, ?_⟩
  congr 1
  rw [List.getD_eq_getElem?_getD, List.getElem?_eq_getElem (by omega : h.toNat - 1 < l.length)]
  simp only [List.length_reverse, Option.getD_some]
  congr 1
  omega
theorem upto_none (l : List StM) (h : Int) (hc : ¬ (1 ≤ h ∧ h ≤ l.length)) : upto l.reverse h = [] := by
  unfold upto
  rw [if_neg (by rw [List.length_reverse]; exact hc)]
/-- Is there such a height? -/
def atB (c : ChM) (h : Int) : Bool := ckB c && in2 h 1 c.past.length
def atX (c : ChM) (h : Int) : StL := if atB c h then (c.past.getD (h.toNat - 1) stm0).x else stm0.x
theorem stB_len {x : StL} (h : stB x = true) : x.sent.length ≤ 8 ∧ x.live.length ≤ 8 ∧ x.back.length ≤ 8 ∧ x.got.length ≤ 8 := by
  have k := of_decide_eq_true h
  have h1 := k.2.1.small
  have h2 := k.2.2.1.1
  have h3 := k.2.2.1.2.1
  have h4 := k.2.2.2.1
  omega
theorem stB_Len {s : StM} (h : stB s.x = true) : s.Len := by
  have := stB_len h
  unfold StM.Len maxLen
  omega
/-- The call hands back a state that can be read, and whether there is one. -/
def RetSR (w : World) (x : StL) (o : Bool) (e : Ending) (w' : World) : Prop := ∃ s : StM, e = .returned (.tuple #[s.val, .bool o]) ∧ s.x = x ∧ s.At w' ∧ Keeps noBlk w w'
/-- .. a state of its own .. -/
def RetSO (w : World) (x : StL) (o : Bool) (e : Ending) (w' : World) : Prop := ∃ s : StM, e = .returned (.tuple #[s.val, .bool o]) ∧ s.x = x ∧ s.Own w' w.heap.size ∧ s.Len ∧ Keeps noBlk w w'
theorem copy_fresh {w w' : World} {s : StM} (h : ∀ G ρ : Nat → Nat, ∃ G' : Nat → Nat, (∀ b, b < w.heap.size → G' b = G b) ∧ StR G' ρ w' s) {b : Nat} (hb : s.bl b) : w.heap.size ≤ b := by
  obtain ⟨G', h1, h2⟩ := h (fun _ => 0) (fun _ => 1)
  have h3 : G' b = 1 := by
    rcases hb with hb | hb | hb | hb
    · exact h2.1.2 b (blk_own hb)
    · exact h2.2.1.2 b (blk_own hb)
    · exact h2.2.2.1.2 b (blk_own hb)
    · exact h2.2.2.2.2 b (blk_own hb)
  rcases Nat.lt_or_ge b w.heap.size with hl | hl
  · rw [h1 b hl] at h3
    cases h3
  · exact hl
theorem stm0_len : stm0.Len := ⟨by decide, by decide, by decide, by decide⟩
theorem stm0_own (w : World) (lo : Nat) : stm0.Own w lo :=
  ⟨lo, lo, lo, ⟨PRow.nil _ _ _, BRow.nil _ _ _, BRow.nil _ _ _, Row.nil _ _ _⟩, fun _ h => absurd h.1 (by decide), fun _ h => absurd h.1 (by decide), fun _ h => absurd h.1 (by decide), Nat.le_refl _, Nat.le_refl _, Nat.le_refl _⟩
end Go.Proofs.YtcnbephpadmboaaDoor
