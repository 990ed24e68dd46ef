/- Plain facts: taken away in two, and given back. -/
import Derived.Test.YtedmkbiamjpdaabPure
set_option linter.unusedVariables false
set_option linter.unusedSimpArgs false
namespace Go.Proofs.Ytedmkbiamjpdaab
open Go.RowKit

theorem getD_set_same (l : List Int) (i : Nat) (x : Int) (h : i < l.length) : (l.set i x).getD i 0 = x := by rw [getD_set, if_pos ⟨rfl, h⟩]
theorem awayOk_parts {b : BankL} {k f s : Int} (h : awayOk b k f s = true) : okB b = true ∧ kindB k = true ∧ userB f = true ∧ 0 ≤ s ∧ s ≤ has b k f := by
  simp only [awayOk, Bool.and_eq_true, decide_eq_true_eq] at h
  exact ⟨h.1.1.1.1, h.1.1.1.2, h.1.1.2, h.1.2, h.2⟩
theorem awayOk_mk {b : BankL} {k f s : Int} (h1 : okB b = true) (h2 : kindB k = true) (h3 : userB f = true) (h4 : 0 ≤ s) (h5 : s ≤ has b k f) : awayOk b k f s = true := by
  simp [awayOk, h1, h2, h3, h4, h5]
theorem away_two {b : BankL} {k f s j : Int} (h : awayOk b k f s = true) (h0 : 0 ≤ j) (hj : j ≤ s) :
    awayOk b k f j = true ∧ awayOk (awayed b k f j) k f (s - j) = true ∧ awayed (awayed b k f j) k f (s - j) = awayed b k f s := by
  obtain ⟨h1, h2, h3, h4, h5⟩ := awayOk_parts h
  have hj5 : j ≤ has b k f := by omega
  have hok := away_ok h1 h2 h3 h0 hj5
  refine ⟨awayOk_mk h1 h2 h3 h0 hj5, ?_⟩
  have hl1 := lst_len h1 1
  have hl2 := lst_len h1 2
  obtain ⟨xs, ys, L⟩ := b
  obtain ⟨u, rfl⟩ := nat_of_user h3
  have hu := user_range h3
  rcases kind_cases h2 with rfl | rfl
  · have hlt : u < xs.length := by simp [lst] at hl1; omega
    have hx : has ⟨xs, ys, L⟩ 1 ((u : Int) + 1) = xs.getD u 0 := by simp [has, lst, ix]
    rw [hx] at h5
    rw [awayed_1] at hok ⊢
    refine ⟨awayOk_mk hok h2 h3 (by omega) ?_, ?_⟩
    · have e : has ⟨xs.set u (xs.getD u 0 - j), ys, L + j⟩ 1 ((u : Int) + 1) = xs.getD u 0 - j := by
        have : has ⟨xs.set u (xs.getD u 0 - j), ys, L + j⟩ 1 ((u : Int) + 1) = (xs.set u (xs.getD u 0 - j)).getD u 0 := by simp only [has, lst, if_true, ix]
        rw [this, getD_set_same _ _ _ hlt]
      rw [e]
      omega
    · rw [awayed_1, awayed_1, getD_set_same _ _ _ hlt, List.set_set]
      have e1 : xs.getD u 0 - j - (s - j) = xs.getD u 0 - s := by omega
      have e2 : L + j + (s - j) = L + s := by omega
      rw [e1, e2]
  · have hlt : u < ys.length := by simp [lst] at hl2; omega
    have hx : has ⟨xs, ys, L⟩ 2 ((u : Int) + 1) = ys.getD u 0 := by simp [has, lst, ix]
    rw [hx] at h5
    rw [awayed_2] at hok ⊢
    refine ⟨awayOk_mk hok h2 h3 (by omega) ?_, ?_⟩
    · have e : has ⟨xs, ys.set u (ys.getD u 0 - j), L⟩ 2 ((u : Int) + 1) = ys.getD u 0 - j := by
        have : has ⟨xs, ys.set u (ys.getD u 0 - j), L⟩ 2 ((u : Int) + 1) = (ys.set u (ys.getD u 0 - j)).getD u 0 := by simp only [has, lst, ix]; rfl
        rw [this, getD_set_same _ _ _ hlt]
      rw [e]
      omega
    · rw [awayed_2, awayed_2, getD_set_same _ _ _ hlt, List.set_set]
      have e1 : ys.getD u 0 - j - (s - j) = ys.getD u 0 - s := by omega
      rw [e1]
end Go.Proofs.Ytedmkbiamjpdaab
