/- BankNew of the program and of the model. -/
import Derived.Test.YtbgpclicflafaaaDoorUMem
set_option linter.unusedVariables false
set_option linter.unusedSimpArgs false
namespace Go.Proofs.YtbgpclicflafaaaDoor
open Go.RowKit

set_option maxHeartbeats 400000 in
theorem specNew_any (w : World) : Calls Tryd.prog 167 #[] w (RetBank w newL) := by
  go_enter Tryd.func167, Tryd.ntmps167
  go_wp2
  refine bodyPost_ret (v := .agg #[.slice (some ⟨w.heap.size + 1, 0, none⟩) 3 3, .slice (some ⟨w.heap.size + 1 + 1, 0, none⟩) 3 3, .int .i64 0]) (by simp [results, Tryd.results167, go_sem]) rfl ?_
  refine ⟨_, rfl, ⟨_, _, _, _, _, _, rfl, ?_, ?_, ?_, by omega, by omega, by decide, by decide⟩, (((Keeps.refl _ _).alloc _).alloc _).alloc _⟩
  · exact (Row.made' _ _ _ (by simp) (by omega) _ _ 3 [10, 10, 10] rfl (ints3 10 10 10)).alloc _
  · exact Row.made' _ _ _ (by simp) (by omega) _ _ 3 [0, 0, 0] rfl (ints3 0 0 0)
  · intro i h1 h2
    have e1 := blk_some h1
    have e2 := blk_some h2
    simp at e1 e2
    omega

end Go.Proofs.YtbgpclicflafaaaDoor
