/- BankNew of the program and of the model. -/
import Derived.Test.YtcnbephpadmboaaDoorUMem
set_option linter.unusedVariables false
set_option linter.unusedSimpArgs false
namespace Go.Proofs.YtcnbephpadmboaaDoor
open Go.RowKit

set_option maxHeartbeats 400000 in
theorem specNew_any (w : World) : Calls Tryd.prog 66 #[] w (RetBank w newL) := by
  go_enter Tryd.func66, Tryd.ntmps66
  go_wp2
  refine bodyPost_ret (v := .agg #[.slice (some ⟨w.heap.size + 1, 0, none⟩) 3 3, .slice (some ⟨w.heap.size + 1 + 1, 0, none⟩) 3 3, .int .i64 0]) (by simp [results, Tryd.results66, go_sem]) rfl ?_
  refine ⟨_, rfl, ⟨_, _, _, _, _, _, rfl, ?_, ?_, ?_, by omega, by omega, by decide, by decide⟩, (((Keeps.refl _ _).alloc _).alloc _).alloc _⟩
  · exact (Row.made' _ _ _ (by simp) (by omega) _ _ 3 [10, 10, 10] rfl (ints3 10 10 10)).alloc _
  · exact Row.made' _ _ _ (by simp) (by omega) _ _ 3 [0, 0, 0] rfl (ints3 0 0 0)
  · intro i h1 h2
    have e1 := blk_some h1
    have e2 := blk_some h2
    simp at e1 e2
    omega

set_option maxHeartbeats 400000 in
theorem implNew_any (w : World) : Calls Tryd.prog 40 #[] w (RetBank w newL) := by
  have hmk : ∀ W : World, (Instr.makeSlice 25 (.int .i64 3) (.int .i64 3)).run Tryd.prog W = .ok (.slice (some ⟨W.heap.size, 0, none⟩) 3 3) (W.alloc (.cells (madeCells #[.int .i64 0] 3) 3)) :=
    fun W => run_make_row' (P := Tryd.prog) 25 3 (.int .i64 0) 8 Tryd.underlying25 info_int rfl .i64 .i64 3 (by omega) (by omega) W
  go_enter Tryd.func40, Tryd.ntmps40
  go_wp2
  go_loopw [6] (fun i wr => ∃ k : Nat, k ≤ 3 ∧ i = .int .i64 k ∧ Row wr w.heap.size (some ⟨w.heap.size + 1, 0, none⟩) 3 (tens k) ∧
      Keeps (blk (some ⟨w.heap.size + 1, 0, none⟩) 3) ((w.alloc (.cells #[.slice none 0 0, .slice none 0 0, .int .i64 0] 44)).alloc (.cells (madeCells #[.int .i64 0] 3) 3)) wr)
    (fun i _ => 3 - (intOf i).toNat)
  case atStart => exact ⟨0, by omega, rfl, Row.made' _ _ _ (by simp) (by omega) _ _ 3 [0, 0, 0] rfl (made_ints 3), Keeps.refl _ _⟩
  case round =>
    obtain ⟨k, hk, rfl, hr, hkp⟩ := hrel
    by_cases hlt : k < 3
    · obtain ⟨b1, o1, e1, _, _, hc1, hf1⟩ := hr.at_ hlt
      injection e1 with e1
      injection e1 with e1 e2
      subst e1
      subst e2
      have Hr := Lib.hid hr
      have Hkp := Lib.hid hkp
      clear hr hkp
      rw [Nat.zero_add] at hc1 hf1
      go_wp2
      go_roundw
      case rel => exact ⟨k + 1, by omega, by go_num, by rw [← tens_step k hlt]; simpa using Hr.out.set_ hlt 10, Hkp.out.setCell (p := ⟨w.heap.size + 1, k, none⟩) (.inr (blk_mk (by omega))) _⟩
      case measure => simp [intOf]; omega
    · obtain rfl : k = 3 := by omega
      have hbx : Box wr w.heap.size 44 #[.slice none 0 0, .slice none 0 0, .int .i64 0] :=
        ((Box.new w _ rfl _ _).alloc _).keeps hkp fun h => by have := blk_some h; simp at this
      have c0 := hbx.cell 0
      have c1 := hbx.cell 1
      have c2 := hbx.cell 2
      have f0 := hbx.frozen 0
      have f1 := hbx.frozen 1
      have f2 := hbx.frozen 2
      clear hbx
      simp at c0 c1 c2
      have hsz : w.heap.size + 1 < wr.heap.size := by have := hkp.size; simp at this; omega
      have hsz0 : w.heap.size < wr.heap.size := by omega
      have Hr := Lib.hid hr
      have Hkp := Lib.hid hkp
      clear hr hkp
      go_wp2
      refine bodyPost_ret (v := .agg #[.slice (some ⟨w.heap.size + 1, 0, none⟩) 3 3, .slice (some ⟨wr.heap.size, 0, none⟩) 3 3, .int .i64 0])
        (by simp [results, Tryd.results40, go_sem, c0, c1, c2, hsz0]) rfl ?_
      have hnb : ¬ blk (some ⟨w.heap.size + 1, 0, none⟩) 3 w.heap.size := fun h => by have := blk_some h; simp at this
      refine ⟨_, rfl, ⟨_, _, _, _, _, _, rfl, ?_, ?_, ?_, by omega, by omega, by decide, by decide⟩, ?_⟩
      · exact (((Hr.out.far hnb _).far hnb _).far hnb _).alloc _
      · exact Row.made' _ _ _ (by simp [World.setCell]) (by omega) _ _ 3 [0, 0, 0] rfl (made_ints 3)
      · intro i h1 h2
        have e1 := blk_some h1
        have e2 := blk_some h2
        simp at e1 e2
        omega
      · have h0 : Keeps noBlk w wr := (((Keeps.refl _ w).alloc _).alloc _).then Hkp.out fun i hi h => by have := blk_some h; simp at this; omega
        exact (((h0.setCell (.inl (Nat.le_refl _)) _).setCell (.inl (Nat.le_refl _)) _).setCell (.inl (Nat.le_refl _)) _).alloc _
end Go.Proofs.YtcnbephpadmboaaDoor
