/- Texts that are cut, or lengthened. Plain facts. -/
import Derived.Test.YtjbllfnfnkghgaaDoorPkF4
set_option linter.unusedVariables false
set_option linter.unusedSimpArgs false
namespace Go.Proofs.YtjbllfnfnkghgaaDoor
open Go.RowKit

theorem cut_other {s k f t m u v : Int} {o t1 : List UInt8} (_h : pkB s k f t m u v = true) (e : txt s k f t m u v = o) (hn : o ≠ []) (ht : o.take (o.length - 1) = t1) : ∀ s' k' f' t' m' u' v', Reads t1 s' k' f' t' m' u' v' → ¬ (s' = s ∧ k' = k ∧ f' = f ∧ t' = t ∧ m' = m ∧ u' = u ∧ v' = v) := by
  rintro s' k' f' t' m' u' v' ⟨_, h2⟩ ⟨rfl, rfl, rfl, rfl, rfl, rfl, rfl⟩
  have hl := congrArg List.length (ht.trans (h2.symm.trans e))
  have hp : 0 < o.length := List.length_pos_iff.2 hn
  rw [List.length_take] at hl
  omega
theorem txt_end (s k f t m u v : Int) : ∃ X, txt s k f t m u v = X ++ dg v := ⟨dg s ++ 32 :: (dg k ++ 32 :: (dg f ++ 32 :: (dg t ++ 32 :: (dg m ++ 32 :: (dg u ++ [32]))))), by rw [txt_eq]; simp⟩
theorem cut_blank {s k f t m u v : Int} {o t2 : List UInt8} (_h : pkB s k f t m u v = true) (_e : txt s k f t m u v = o) (ht : o ++ [32] = t2) : ∀ s' k' f' t' m' u' v', ¬ Reads t2 s' k' f' t' m' u' v' := by
  rintro s' k' f' t' m' u' v' ⟨h1, h2⟩
  obtain ⟨X, hX⟩ := txt_end s' k' f' t' m' u' v'
  obtain ⟨⟨a0, b0⟩, ⟨a1, b1⟩, ⟨a2, b2⟩, ⟨a3, b3⟩, ⟨a4, b4⟩, ⟨a5, b5⟩, ⟨a6, b6⟩⟩ := pkB_parts h1
  have hne := dg_ne v' (by omega) (by omega)
  have hsp := dg_sp v' (by omega) (by omega)
  rw [hX, ← ht] at h2
  have hl := congrArg List.getLast? h2
  rw [List.getLast?_append, List.getLast?_append] at hl
  rcases hg : (dg v').getLast? with _ | c
  · exact hne (List.getLast?_eq_none_iff.1 hg)
  · rw [hg] at hl
    simp at hl
    exact hsp c (List.mem_of_getLast? hg) hl
theorem cut_nought {s k f t m u v : Int} {o t3 : List UInt8} (h : pkB s k f t m u v = true) (e : txt s k f t m u v = o) (ht : 48 :: o = t3) : ∀ s' k' f' t' m' u' v', ¬ Reads t3 s' k' f' t' m' u' v' := by
  rintro s' k' f' t' m' u' v' ⟨h1, h2⟩
  obtain ⟨⟨a0, b0⟩, ⟨a1, b1⟩, ⟨a2, b2⟩, ⟨a3, b3⟩, ⟨a4, b4⟩, ⟨a5, b5⟩, ⟨a6, b6⟩⟩ := pkB_parts h1
  obtain ⟨⟨c0, d0⟩, ⟨c1, d1⟩, ⟨c2, d2⟩, ⟨c3, d3⟩, ⟨c4, d4⟩, ⟨c5, d5⟩, ⟨c6, d6⟩⟩ := pkB_parts h
  have k1 := cut_txt _ _ _ _ _ _ _ h1
  rw [h2, ← ht, ← e, txt_eq] at k1
  have hs : NoSp (48 :: dg s) := fun c hc => by
    simp at hc
    rcases hc with rfl | hc
    · decide
    · exact dg_sp s (by omega) (by omega) c hc
  rw [← List.cons_append, cut_word _ _ hs] at k1
  simp only [wdL, List.cons.injEq] at k1
  have k2 := congrArg List.length k1.1
  rw [dg_1 s' (by omega) (by omega), dg_1 s (by omega) (by omega)] at k2
  simp at k2
end Go.Proofs.YtjbllfnfnkghgaaDoor
