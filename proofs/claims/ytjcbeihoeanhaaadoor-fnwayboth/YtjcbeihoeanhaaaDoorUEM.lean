/- eqState of the laws, of two states that hold the same. markPacketS, heldPacketS, markBoolS, heldBoolS, markState, heldState of the laws: a state's memory is marked with k, k+1, ..; a marked one is told. StateNew of the model and of the program: a state of its own. -/
import Derived.Test.YtjcbeihoeanhaaaDoorSTo
set_option maxHeartbeats 1000000
set_option linter.unusedVariables false
set_option linter.unusedSimpArgs false
/-! SEq -/
namespace Go.Proofs.YtjcbeihoeanhaaaDoor
open Go.RowKit

/-! packets -/
def stBlk (x : StL) (A1 A2 A3 A4 : Option Addr) (b : Nat) : Prop := blk A1 x.sent.length b ∨ blk A2 x.live.length b ∨ blk A3 x.back.length b ∨ blk A4 x.got.length b
theorem StOwn.lt {w : World} {lo : Nat} {x : StL} {A1 A2 A3 A4 : Option Addr} (h : StOwn w lo x A1 A2 A3 A4) {b : Nat} (hb : stBlk x A1 A2 A3 A4 b) : b < w.heap.size := by
 obtain ⟨s1, s2, s3, ⟨h1, h2, h3, h4⟩, _⟩ := h
 rcases hb with hb | hb | hb | hb
 ·exact h1.lt hb
 ·exact h2.lt hb
 ·exact h3.lt hb
 ·exact h4.lt hb
theorem StOwn.ge {w : World} {lo : Nat} {x : StL} {A1 A2 A3 A4 : Option Addr} (h : StOwn w lo x A1 A2 A3 A4) {b : Nat} (hb : stBlk x A1 A2 A3 A4 b) : lo ≤ b := by
 obtain ⟨s1, s2, s3, ⟨h1, h2, h3, h4⟩, _, _, _, e1, e2, e3⟩ := h
 rcases hb with hb | hb | hb | hb
 ·exact h1.ge hb
 ·have := h2.ge hb; omega
 ·have := h3.ge hb; omega
 ·have := h4.ge hb; omega
theorem StOwn.keeps {S : Nat → Prop} {w w' : World} {lo : Nat} {x : StL} {A1 A2 A3 A4 : Option Addr} (h : StOwn w lo x A1 A2 A3 A4) (hk : Keeps S w w') (hs : ∀ b, stBlk x A1 A2 A3 A4 b → ¬ S b) : StOwn w' lo x A1 A2 A3 A4 := by
 obtain ⟨s1, s2, s3, ⟨h1, h2, h3, h4⟩, r⟩ := h; exact ⟨s1, s2, s3, ⟨h1.keeps hk fun b hb => hs b (.inl hb), h2.keeps hk fun b hb => hs b (.inr (.inl hb)), h3.keeps hk fun b hb => hs b (.inr (.inr (.inl hb))), h4.keeps hk fun b hb => hs b (.inr (.inr (.inr hb)))⟩, r⟩
theorem StAt.lt {w : World} {x : StL} {A1 A2 A3 A4 : Option Addr} (h : StAt w x A1 A2 A3 A4) {b : Nat} (hb : stBlk x A1 A2 A3 A4 b) : b < w.heap.size := by
 obtain ⟨⟨h1, h2, h3, h4⟩, _⟩ := h
 rcases hb with hb | hb | hb | hb
 ·exact h1.lt hb
 ·exact h2.lt hb
 ·exact h3.lt hb
 ·exact h4.lt hb


def newS : StL := ⟨0, 1, 0, [], [], [], [0, 0, 0, 0, 0, 0, 0, 0]⟩
def RetNewS (w : World) (e : Ending) (w' : World) : Prop :=
 ∃ A1 A2 A3 A4 c1 c2 c3 c4, e = .returned (stV newS A1 A2 A3 A4 c1 c2 c3 c4) ∧ StOwn w' w.heap.size newS A1 A2 A3 A4 ∧ Keeps noBlk w w'
theorem make8 (W : World) : (Instr.makeSlice 25 (.int .i64 8) (.int .i64 8)).run Tryd.prog W = .ok (.slice (some ⟨W.heap.size, 0, none⟩) 8 8) (W.alloc (.cells (madeCells #[.int .i64 0] 8) 3)) :=
 run_make_row' (P := Tryd.prog) 25 3 (.int .i64 0) 8 Tryd.underlying25 info_int rfl .i64 .i64 8 (by omega) (by omega) W
theorem newS_own {w : World} {lo : Nat} {A1 A2 A3 : Option Addr} {g : Nat} (h : Row w lo (some ⟨g, 0, none⟩) 8 [0, 0, 0, 0, 0, 0, 0, 0]) : StOwn w lo newS A1 A2 A3 (some ⟨g, 0, none⟩) :=
 ⟨lo, lo, lo, ⟨PRow.nil _ _ _, BRow.nil _ _ _, BRow.nil _ _ _, h⟩, fun _ h => absurd h.1 (by decide), fun _ h => absurd h.1 (by decide), fun _ h => absurd h.1 (by decide), Nat.le_refl _, Nat.le_refl _, Nat.le_refl _⟩
theorem specNewS_any (w : World) : Calls Tryd.prog 87 #[] w (RetNewS w) := by
 have hmk := make8
 go_enter Tryd.func87, Tryd.ntmps87
 go_wp2; refine bodyPost_ret (v := .agg #[.int .i64 0, .int .i64 1, .int .i64 0, .slice (some ⟨w.heap.size + 1, 0, none⟩) 0 0, .slice (some ⟨w.heap.size + 1 + 1, 0, none⟩) 0 0, .slice (some ⟨w.heap.size + 1 + 1 + 1, 0, none⟩) 0 0, .slice (some ⟨w.heap.size + 1 + 1 + 1 + 1, 0, none⟩) 8 8]) (by simp [results, Tryd.results87, go_sem]) rfl ?_; exact ⟨_, _, _, _, _, _, _, _, rfl, newS_own (Row.made' _ _ _ (by simp) (by omega) _ _ 8 [0, 0, 0, 0, 0, 0, 0, 0] rfl (made_ints 8)), (((((Keeps.refl _ _).alloc _).alloc _).alloc _).alloc _).alloc _⟩
end Go.Proofs.YtjcbeihoeanhaaaDoor
