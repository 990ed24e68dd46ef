/- WayDo of the program and of the model, both ways out under one form. -/
import Derived.Test.YtifocngajndnnaaDoorIDo
set_option linter.unusedVariables false
set_option linter.unusedSimpArgs false
namespace Go.Proofs.YtifocngajndnnaaDoor
open Go.RowKit

def zeroS : StL := ⟨0, 0, 0, [], [], [], []⟩
/-- What WayDo makes of a state. -/
def wdS (x y : StL) (k : Int) : StL := if wmayB x y k = true then doSt x y k else zeroS
def RetDI (w : World) (z : StL) (o : Bool) (e : Ending) (w' : World) : Prop :=
  ∃ A1 A2 A3 A4 c1 c2 c3 c4, e = .returned (.tuple #[stV z A1 A2 A3 A4 c1 c2 c3 c4, .bool o]) ∧ StOwn w' w.heap.size z A1 A2 A3 A4 ∧ StAt w' z A1 A2 A3 A4 ∧ Keeps noBlk w w'
def RetDS (w : World) (z : StL) (o : Bool) (e : Ending) (w' : World) : Prop :=
  ∃ A1 A2 A3 A4 c1 c2 c3 c4, e = .returned (.tuple #[stV z A1 A2 A3 A4 c1 c2 c3 c4, .bool o]) ∧ StAt w' z A1 A2 A3 A4 ∧ (∀ b, stBlk z A1 A2 A3 A4 b → w.heap.size ≤ b) ∧ Keeps noBlk w w'
theorem zero_at (w : World) : StAt w zeroS none none none none := ⟨⟨Pks.nil w none, Bools.nil w none, Bools.nil w none, Ints.nil w none⟩, Nat.zero_le _, Nat.zero_le _, Nat.zero_le _, Nat.zero_le _⟩
theorem zero_own (w : World) (lo : Nat) : StOwn w lo zeroS none none none none :=
  ⟨lo, lo, lo, ⟨PRow.nil _ _ _, BRow.nil _ _ _, BRow.nil _ _ _, Row.nil _ _ _⟩, fun _ h => absurd h.1 (by decide), fun _ h => absurd h.1 (by decide), fun _ h => absurd h.1 (by decide), Nat.le_refl _, Nat.le_refl _, Nat.le_refl _⟩
theorem wdS_len (x y : StL) (k : Int) : (wdS x y k).sent.length ≤ 8 ∧ (wdS x y k).live.length ≤ 8 ∧ (wdS x y k).back.length ≤ 8 ∧ (wdS x y k).got.length ≤ 8 := by
  unfold wdS
  split
  · rename_i hm
    have kk := stB_ok (show stB x = true by simp only [wmayB, Bool.and_eq_true] at hm; exact hm.1.1)
    have := kk.2.1.small
    have := kk.2.2.1.1
    have := kk.2.2.1.2.1
    have := kk.2.2.2.1
    obtain ⟨a, b, c, e⟩ := doSt_lists x y k
    rw [e]
    exact ⟨by dsimp only; omega, by dsimp only; omega, by dsimp only; omega, by dsimp only; omega⟩
  · exact ⟨Nat.zero_le _, Nat.zero_le _, Nat.zero_le _, Nat.zero_le _⟩
theorem implDI_any (x y : StL) (A1 A2 A3 A4 B1 B2 B3 B4 : Option Addr) (c1 c2 c3 c4 d1 d2 d3 d4 : Nat) (k : Int) (w : World) (hx : StAt w x A1 A2 A3 A4) (hy : StAt w y B1 B2 B3 B4) (ht : Tabs w) :
    Calls Tryd.prog 18 #[stV x A1 A2 A3 A4 c1 c2 c3 c4, stV y B1 B2 B3 B4 d1 d2 d3 d4, .int .i64 k] w (RetDI w (wdS x y k) (wmayB x y k)) := by
  obtain ⟨l1, l2, l3, l4⟩ := wdS_len x y k
  cases hm : wmayB x y k with
  | true =>
    refine (implDo_any x y A1 A2 A3 A4 B1 B2 B3 B4 c1 c2 c3 c4 d1 d2 d3 d4 k w hx hy ht hm).mono ?_
    rintro e w' ⟨⟨z, P1, P2, P3, P4, e1, e2, e3, e4⟩, rfl, hz, hk, -, ho⟩
    have hw : wdS x y k = z := by unfold wdS; rw [if_pos hm]; exact hz.symm
    rw [hw] at l1 l2 l3 l4 ⊢
    exact ⟨P1, P2, P3, P4, e1, e2, e3, e4, rfl, ho, ho.at_ (by unfold maxLen; dsimp only; omega) (by unfold maxLen; dsimp only; omega) (by unfold maxLen; dsimp only; omega) (by unfold maxLen; dsimp only; omega), hk⟩
  | false =>
    refine (implDo_no x y A1 A2 A3 A4 B1 B2 B3 B4 c1 c2 c3 c4 d1 d2 d3 d4 k w hx hy ht hm).mono ?_
    rintro e w' ⟨rfl, hk⟩
    rw [show wdS x y k = zeroS by unfold wdS; rw [hm]; rfl]
    exact ⟨none, none, none, none, 0, 0, 0, 0, rfl, zero_own _ _, zero_at _, hk⟩
theorem specDS_any (x y : StL) (A1 A2 A3 A4 B1 B2 B3 B4 : Option Addr) (c1 c2 c3 c4 d1 d2 d3 d4 : Nat) (k : Int) (w : World) (hx : StAt w x A1 A2 A3 A4) (hy : StAt w y B1 B2 B3 B4) (ht : Tabs w) :
    Calls Tryd.prog 17 #[stV x A1 A2 A3 A4 c1 c2 c3 c4, stV y B1 B2 B3 B4 d1 d2 d3 d4, .int .i64 k] w (RetDS w (wdS x y k) (wmayB x y k)) := by
  cases hm : wmayB x y k with
  | true =>
    refine (specDo_any x y A1 A2 A3 A4 B1 B2 B3 B4 c1 c2 c3 c4 d1 d2 d3 d4 k w hx hy ht hm).mono ?_
    rintro e w' ⟨⟨z, P1, P2, P3, P4, e1, e2, e3, e4⟩, rfl, hz, hk, hst⟩
    have hw : wdS x y k = z := by unfold wdS; rw [if_pos hm]; exact hz.symm
    rw [hw]
    obtain ⟨G', hG, hS⟩ := hst (fun _ => 1) (fun _ => 0)
    have hne : ∀ b, G' b = 0 → w.heap.size ≤ b := fun b hb => by
      rcases Nat.lt_or_ge b w.heap.size with h | h
      · rw [hG b h] at hb; cases hb
      · exact h
    refine ⟨P1, P2, P3, P4, e1, e2, e3, e4, rfl, hS.at_, fun b hb => hne b ?_, hk⟩
    rcases hb with hb | hb | hb | hb
    · exact hS.1.2 b (blk_own hb)
    · exact hS.2.1.2 b (blk_own hb)
    · exact hS.2.2.1.2 b (blk_own hb)
    · exact hS.2.2.2.2 b (blk_own hb)
  | false =>
    refine (specDo_no x y A1 A2 A3 A4 B1 B2 B3 B4 c1 c2 c3 c4 d1 d2 d3 d4 k w hx hy ht hm).mono ?_
    rintro e w' ⟨rfl, hk⟩
    rw [show wdS x y k = zeroS by unfold wdS; rw [hm]; rfl]
    exact ⟨none, none, none, none, 0, 0, 0, 0, rfl, zero_at _, fun b hb => by rcases hb with hb | hb | hb | hb <;> exact absurd hb.1 (by decide), hk⟩
end Go.Proofs.YtifocngajndnnaaDoor
