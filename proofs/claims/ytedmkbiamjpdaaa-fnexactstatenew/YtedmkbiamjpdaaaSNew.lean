/- StateNew of the model and of the program: a state of its own. -/
import Derived.Test.YtedmkbiamjpdaaaSMark
set_option linter.unusedVariables false
set_option linter.unusedSimpArgs false
namespace Go.Proofs.Ytedmkbiamjpdaaa
open Go.RowKit

def newS : StL := ⟨0, 1, 0, [], [], [], [0, 0, 0, 0, 0, 0, 0, 0]⟩
def RetNewS (w : World) (e : Ending) (w' : World) : Prop :=
  ∃ A1 A2 A3 A4 c1 c2 c3 c4, e = .returned (stV newS A1 A2 A3 A4 c1 c2 c3 c4) ∧ StOwn w' w.heap.size newS A1 A2 A3 A4 ∧ Keeps noBlk w w'
theorem make8 (W : World) : (Instr.makeSlice 24 (.int .i64 8) (.int .i64 8)).run Try.prog W = .ok (.slice (some ⟨W.heap.size, 0, none⟩) 8 8) (W.alloc (.cells (madeCells #[.int .i64 0] 8) 3)) :=
  run_make_row' (P := Try.prog) 24 3 (.int .i64 0) 8 Try.underlying24 info_int rfl .i64 .i64 8 (by omega) (by omega) W
theorem newS_own {w : World} {lo : Nat} {A1 A2 A3 : Option Addr} {g : Nat} (h : Row w lo (some ⟨g, 0, none⟩) 8 [0, 0, 0, 0, 0, 0, 0, 0]) : StOwn w lo newS A1 A2 A3 (some ⟨g, 0, none⟩) :=
  ⟨lo, lo, lo, ⟨PRow.nil _ _ _, BRow.nil _ _ _, BRow.nil _ _ _, h⟩, fun _ h => absurd h.1 (by decide), fun _ h => absurd h.1 (by decide), fun _ h => absurd h.1 (by decide), Nat.le_refl _, Nat.le_refl _, Nat.le_refl _⟩
set_option maxHeartbeats 1000000 in
theorem specNewS_any (w : World) : Calls Try.prog 4 #[] w (RetNewS w) := by
  have hmk := make8
  go_enter Try.func4, Try.ntmps4
  go_wp2
  refine bodyPost_ret (v := .agg #[.int .i64 0, .int .i64 1, .int .i64 0, .slice (some ⟨w.heap.size + 1, 0, none⟩) 0 0, .slice (some ⟨w.heap.size + 1 + 1, 0, none⟩) 0 0, .slice (some ⟨w.heap.size + 1 + 1 + 1, 0, none⟩) 0 0, .slice (some ⟨w.heap.size + 1 + 1 + 1 + 1, 0, none⟩) 8 8]) (by simp [results, Try.results4, go_sem]) rfl ?_
  exact ⟨_, _, _, _, _, _, _, _, rfl, newS_own (Row.made' _ _ _ (by simp) (by omega) _ _ 8 [0, 0, 0, 0, 0, 0, 0, 0] rfl (made_ints 8)), (((((Keeps.refl _ _).alloc _).alloc _).alloc _).alloc _).alloc _⟩
set_option maxHeartbeats 1000000 in
theorem implNewS_any (w : World) : Calls Try.prog 5 #[] w (RetNewS w) := by
  have hmk := make8
  go_enter Try.func5, Try.ntmps5
  go_wp2
  refine bodyPost_ret (v := .agg #[.int .i64 0, .int .i64 1, .int .i64 0, .slice none 0 0, .slice none 0 0, .slice none 0 0, .slice (some ⟨w.heap.size + 1, 0, none⟩) 8 8]) (by simp [results, Try.results5, go_sem]) rfl ?_
  exact ⟨_, _, _, _, _, _, _, _, rfl, newS_own (Row.made' _ _ _ (by simp) (by omega) _ _ 8 [0, 0, 0, 0, 0, 0, 0, 0] rfl (made_ints 8)), ((Keeps.refl _ _).alloc _).alloc _⟩
end Go.Proofs.Ytedmkbiamjpdaaa
