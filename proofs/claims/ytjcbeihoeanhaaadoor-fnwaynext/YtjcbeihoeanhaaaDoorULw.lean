/- What BankMove, BankAway and BankBack hand back, in one form. lwInts, lwBank of the laws. -/
import Derived.Test.YtjcbeihoeanhaaaDoorUTurn
set_option maxHeartbeats 400000
set_option linter.unusedVariables false
set_option linter.unusedSimpArgs false
/-! Uni -/
namespace Go.Proofs.YtjcbeihoeanhaaaDoor
open Go.RowKit

def zeroL : BankL := ⟨[], [], 0⟩
def resL (ok : Bool) (b : BankL) : BankL := if ok then b else zeroL
def RetU (w : World) (ok : Bool) (rb : BankL) (e : Ending) (w' : World) : Prop :=
 ∃ R1 m1 d1 R2 m2 d2, e = .returned (.tuple #[.agg #[.slice R1 m1 d1, .slice R2 m2 d2, .int .i64 rb.locked], .bool ok]) ∧ Row w' w.heap.size R1 m1 rb.own ∧ Row w' w.heap.size R2 m2 rb.notes ∧
  (∀ i, blk R1 m1 i → ¬ blk R2 m2 i) ∧ m1 ≤ maxLen ∧ m2 ≤ maxLen ∧ Keeps noBlk w w'
theorem RetB2.u {w : World} {ok : Bool} {b : BankL} {e : Ending} {w' : World} (h : RetB2 w ok b e w') : RetU w ok (resL ok b) e w' := by
 rcases h with ⟨rfl, v, rfl, ⟨A1, n1, c1, A2, n2, c2, rfl, hr1, hr2, hd, k1, k2, m1, m2⟩, hk⟩ | ⟨rfl, rfl, hk⟩
 ·exact ⟨A1, n1, c1, A2, n2, c2, rfl, hr1, hr2, hd, Nat.le_trans k1 m1, Nat.le_trans k2 m2, hk⟩
 ·exact ⟨none, 0, 0, none, 0, 0, rfl, Row.nil _ _ _, Row.nil _ _ _, fun i h => absurd h.1 (by omega), by decide, by decide, hk⟩
theorem lwInts_any (A B : Option Addr) (n m c d : Nat) (xs ys : List Int) (w : World) (ha : Ints w A n xs) (hb : Ints w B m ys) (hn : n ≤ maxLen) (hm : m ≤ maxLen) :
  Calls Tryd.prog 28 #[.slice A n c, .slice B m d] w fun e w' => e = .returned (.bool (decide (xs = ys))) ∧ Qt w w' := by
 unfold maxLen at hn hm; have hxl := hH ha.1; have hyl := hH hb.1
 by_cases hnm : n = m
 ·subst hnm
  go_enter Tryd.func28, Tryd.ntmps28
  go_wp2
  go_loopw [5] (fun i wr => ∃ k : Nat, k ≤ n ∧ i = .int .i64 k ∧ xs.take k = ys.take k ∧ Qt w wr) (fun i _ => n - (intOf i).toNat)
  case atStart => exact ⟨0, Nat.zero_le _, rfl, rfl, Qt.refl _⟩
  case round =>
   obtain ⟨k, hk, rfl, htk, q, rfl⟩ := hrel; have Htk := hH htk; clear htk
   by_cases hlt : k < n
   ·obtain ⟨b1, o1, rfl, _, hc1⟩ := ha.at_ hlt
    obtain ⟨b2, o2, rfl, _, hc2⟩ := hb.at_ hlt; clear ha hb; go_wp2
    go_quiet (fail)
    go_wp2
    ·go_ret
     refine ⟨?_, (Qt.of _ _).drewN _⟩
     have hne : (xs[k]?.getD 0 != ys[k]?.getD 0) = true := by assumption
     have hx : ¬ xs = ys := fun h => by rw [h] at hne; simp at hne
     simp [hx]
    ·have hne : (xs[k]?.getD 0 != ys[k]?.getD 0) = false := by assumption
     go_roundw
     case rel => exact ⟨k + 1, by omega, by go_num, take_eq_step Htk.out (by rw [hxl.out]; exact hlt) (by rw [hyl.out]; exact hlt) (by simpa [List.getD_eq_getElem?_getD] using hne), Qt.of _ _⟩
     case measure => simp [intOf]; omega
   ·go_wp2
    go_ret; refine ⟨?_, Qt.of _ _⟩; have := Htk.out; rw [List.take_of_length_le (by rw [hxl.out]; omega), List.take_of_length_le (by rw [hyl.out]; omega)] at this; simp [this]
 ·have hne : ((n : Int) != (m : Int)) = true := by simp; omega
  go_enter Tryd.func28, Tryd.ntmps28
  go_wp2; go_ret; refine ⟨?_, Qt.refl _⟩
  have hx : ¬ xs = ys := fun h => hnm (by rw [← hxl.out, ← hyl.out, h])
  simp [hx]

theorem lwInts_yes (A B : Option Addr) (n c d : Nat) (xs : List Int) (w : World) (ha : Ints w A n xs) (hb : Ints w B n xs) (hn : n ≤ maxLen) :
  Calls Tryd.prog 28 #[.slice A n c, .slice B n d] w fun e w' => e = .returned (.bool true) ∧ Qt w w' :=
 (lwInts_any A B n n c d xs xs w ha hb hn hn).mono fun e w' ⟨he, hq⟩ => ⟨by simpa using he, hq⟩

end Go.Proofs.YtjcbeihoeanhaaaDoor
