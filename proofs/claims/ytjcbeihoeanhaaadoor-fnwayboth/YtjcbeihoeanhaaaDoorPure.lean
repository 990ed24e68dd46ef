/- Valid banks stay valid: plain facts on lists of three. -/
import Derived.Test.YtjcbeihoeanhaaaDoorUTurn
set_option linter.unusedVariables false
set_option linter.unusedSimpArgs false
namespace Go.Proofs.YtjcbeihoeanhaaaDoor
open Go.RowKit

theorem sumL_set (l : List Int) (i : Nat) (x : Int) (h : i < l.length) : sumL (l.set i x) = sumL l - l.getD i 0 + x := by
 induction l generalizing i with
 | nil => simp at h
 | cons y r ih =>
  cases i with
  | zero => simp [sumL]; omega
  | succ j =>
   have := ih j (by simpa using h); simp only [List.set_cons_succ, sumL, this]; simp [List.getD_eq_getElem?_getD]
   omega
theorem parts_set {l : List Int} (h : partsB l = true) (i : Nat) (x : Int) (h0 : 0 ≤ x) (h1 : x ≤ 30) : partsB (l.set i x) = true := by
 simp only [partsB, Bool.and_eq_true, List.all_eq_true, decide_eq_true_eq, List.length_set] at h ⊢; refine ⟨fun y hy => ?_, h.2⟩
 rcases List.mem_or_eq_of_mem_set hy with hy | rfl
 ·exact h.1 y hy
 ·simp [inB, h0, h1]
theorem le_sum {l : List Int} (h : Small l) (i : Nat) : l.getD i 0 ≤ sumL l := by
 induction l generalizing i with
 | nil => simp [sumL]
 | cons y r ih =>
  have hy := h y (by simp)
  have hr : Small r := fun z hz => h z (by simp [hz])
  cases i with
  | zero => have := hr.sum; simp [sumL]; omega
  | succ j => have := ih hr j; simp only [sumL]; simp [List.getD_eq_getElem?_getD] at this ⊢; omega

theorem getD_mem {l : List Int} (h : partsB l = true) (i : Nat) : 0 ≤ l.getD i 0 ∧ l.getD i 0 ≤ 30 := by
 simp only [partsB, Bool.and_eq_true, List.all_eq_true, decide_eq_true_eq] at h; rw [List.getD_eq_getElem?_getD]
 rcases hk : l[i]? with _ | x
 ·simp
 ·have := h.1 x (List.mem_of_getElem? hk)
  simp [inB] at this
  simpa using this

theorem okB_mk {xs ys : List Int} {L : Int} (h1 : partsB xs = true) (h2 : partsB ys = true) (h3 : 0 ≤ L) (h4 : sumL xs + L = 30) (h5 : sumL ys ≤ 30) : okB ⟨xs, ys, L⟩ = true := okB_6 h1 h2 h3 h4 h5

theorem away_ok {b : BankL} {k f s : Int} (h : okB b = true) (hk : kindB k = true) (hf : userB f = true) (h0 : 0 ≤ s) (hs : s ≤ has b k f) : okB (awayed b k f s) = true := by
 obtain ⟨xs, ys, L⟩ := b; obtain ⟨p1, p2, p3, p4, p5⟩ := okB_parts h; obtain ⟨u, rfl⟩ := nat_of_user hf; have hu := user_range hf; have l1 := (parts_small p1).2; have l2 := (parts_small p2).2; dsimp only at *
 rcases kind_cases hk with rfl | rfl
 ·rw [awayed_1]
  simp only [has, lst, if_true, ix] at hs; have hx := getD_mem p1 u; exact okB_mk (parts_set p1 _ _ (by omega) (by omega)) p2 (by omega) (by rw [sumL_set _ _ _ (by omega)]; omega) p5
 ·rw [awayed_2]
  have h21 : ¬ (2 : Int) = 1 := by omega
  simp only [has, lst, if_neg h21, ix] at hs; have hx := getD_mem p2 u; exact okB_mk p1 (parts_set p2 _ _ (by omega) (by omega)) p3 p4 (by rw [sumL_set _ _ _ (by omega)]; omega)

theorem back_ok {b : BankL} {k t s : Int} (h : okB b = true) (hk : kindB k = true) (hf : userB t = true) (h0 : 0 ≤ s) (hs : s ≤ room b k) : okB (backed b k t s) = true := by
 obtain ⟨xs, ys, L⟩ := b; obtain ⟨p1, p2, p3, p4, p5⟩ := okB_parts h; obtain ⟨u, rfl⟩ := nat_of_user hf; have hu := user_range hf; have l1 := (parts_small p1).2; have l2 := (parts_small p2).2; dsimp only at *
 rcases kind_cases hk with rfl | rfl
 ·rw [backed_1]
  simp only [room, if_true] at hs; have hx := getD_mem p1 u; have hl := le_sum (parts_small p1).1 u; exact okB_mk (parts_set p1 _ _ (by omega) (by omega)) p2 (by omega) (by rw [sumL_set _ _ _ (by omega)]; omega) p5
 ·rw [backed_2]
  have h21 : ¬ (2 : Int) = 1 := by omega
  simp only [room, if_neg h21] at hs; have hx := getD_mem p2 u; have hl := le_sum (parts_small p2).1 u; exact okB_mk p1 (parts_set p2 _ _ (by omega) (by omega)) p3 p4 (by rw [sumL_set _ _ _ (by omega)]; omega)

theorem move_ok {b : BankL} {k f t s : Int} (h : moveOk b k f t s = true) : okB (moved b k f t s) = true := by
 obtain ⟨xs, ys, L⟩ := b; simp only [moveOk, Bool.and_eq_true, decide_eq_true_eq] at h; obtain ⟨⟨⟨⟨⟨h, hk⟩, hf⟩, ht⟩, h0⟩, hs⟩ := h; obtain ⟨p1, p2, p3, p4, p5⟩ := okB_parts h; obtain ⟨u, rfl⟩ := nat_of_user hf; obtain ⟨v, rfl⟩ := nat_of_user ht; have hu := user_range hf; have hv := user_range ht; have l1 := (parts_small p1).2; have l2 := (parts_small p2).2; dsimp only at *
 rcases kind_cases hk with rfl | rfl
 ·rw [moved_1]
  show okB ⟨_, ys, L⟩ = true
  simp only [has, lst, if_true, ix] at hs; have hx := getD_mem p1 u; have q1 := parts_set p1 u (xs.getD u 0 - s) (by omega) (by omega); have hq := getD_mem q1 v; have hl := le_sum (parts_small q1).1 v; have e1 := sumL_set xs u (xs.getD u 0 - s) (by omega); have e2 := sumL_set (xs.set u (xs.getD u 0 - s)) v ((xs.set u (xs.getD u 0 - s)).getD v 0 + s) (by simp; omega); exact okB_mk (parts_set q1 _ _ (by omega) (by omega)) p2 p3 (by omega) p5
 ·rw [moved_2]
  show okB ⟨xs, _, L⟩ = true
  have h21 : ¬ (2 : Int) = 1 := by omega
  simp only [has, lst, if_neg h21, ix] at hs; have hx := getD_mem p2 u; have q1 := parts_set p2 u (ys.getD u 0 - s) (by omega) (by omega); have hq := getD_mem q1 v; have hl := le_sum (parts_small q1).1 v; have e1 := sumL_set ys u (ys.getD u 0 - s) (by omega); have e2 := sumL_set (ys.set u (ys.getD u 0 - s)) v ((ys.set u (ys.getD u 0 - s)).getD v 0 + s) (by simp; omega); exact okB_mk p1 (parts_set q1 _ _ (by omega) (by omega)) p3 p4 (by omega)

theorem turnA_ok {b : BankL} {k f s : Int} (h : okB b = true) (hk : kindB k = true) (hf : userB f = true) (h0 : 0 ≤ s) : okB (turnA b k f s) = true := by
 unfold turnA
 split
 ·exact away_ok h hk hf h0 (by assumption)
 ·exact h
theorem turnB_ok {b : BankL} {k f s : Int} (h : okB b = true) (hk : kindB k = true) (hf : userB f = true) (h0 : 0 ≤ s) : okB (turnB b k f s) = true := by
 unfold turnB
 split
 ·exact back_ok h hk hf h0 (by assumption)
 ·exact h
end Go.Proofs.YtjcbeihoeanhaaaDoor
