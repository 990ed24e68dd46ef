/- Plain facts: moved and moved back, moved in two, moved of two kinds. -/
import Derived.Test.YtedmkbiamjpdaabPure
set_option linter.unusedVariables false
set_option linter.unusedSimpArgs false
namespace Go.Proofs.Ytedmkbiamjpdaab
open Go.RowKit

def mv (xs : List Int) (u v : Nat) (s : Int) : List Int := (xs.set u (xs.getD u 0 - s)).set v ((xs.set u (xs.getD u 0 - s)).getD v 0 + s)
theorem mv_len (xs : List Int) (u v : Nat) (s : Int) : (mv xs u v s).length = xs.length := by simp [mv]
theorem mv_getD {xs : List Int} {u v : Nat} (s : Int) (hu : u < xs.length) (hv : v < xs.length) (i : Nat) : (mv xs u v s).getD i 0 = xs.getD i 0 - (if u = i then s else 0) + (if v = i then s else 0) := by
  have a : ∀ i, (xs.set u (xs.getD u 0 - s)).getD i 0 = xs.getD i 0 - (if u = i then s else 0) := by
    intro i
    rw [getD_set]
    by_cases h : u = i
    · subst h
      rw [if_pos ⟨rfl, hu⟩, if_pos rfl]
    · rw [if_neg (fun x => h x.1), if_neg h]
      omega
  unfold mv
  rw [getD_set]
  by_cases h : v = i
  · subst h
    rw [if_pos ⟨rfl, by simpa using hv⟩, if_pos rfl, a]
  · rw [if_neg (fun x => h x.1), if_neg h, a]
    omega
theorem ext_getD {l l' : List Int} (h : l.length = l'.length) (he : ∀ i, l.getD i 0 = l'.getD i 0) : l = l' := by
  apply List.ext_getElem h
  intro i h1 h2
  have := he i
  simpa [List.getD_eq_getElem?_getD, List.getElem?_eq_getElem h1, List.getElem?_eq_getElem h2] using this
theorem mv_back {xs : List Int} {u v : Nat} (s : Int) (hu : u < xs.length) (hv : v < xs.length) : mv (mv xs u v s) v u s = xs := by
  refine ext_getD (by simp [mv_len]) fun i => ?_
  rw [mv_getD s (by rw [mv_len]; exact hv) (by rw [mv_len]; exact hu), mv_getD s hu hv]
  generalize (if u = i then s else 0) = a
  generalize (if v = i then s else 0) = b
  omega
theorem mv_two {xs : List Int} {u v : Nat} (s j : Int) (hu : u < xs.length) (hv : v < xs.length) : mv (mv xs u v j) u v (s - j) = mv xs u v s := by
  refine ext_getD (by simp [mv_len]) fun i => ?_
  rw [mv_getD (s - j) (by rw [mv_len]; exact hu) (by rw [mv_len]; exact hv), mv_getD j hu hv, mv_getD s hu hv]
  by_cases h1 : u = i
  · by_cases h2 : v = i
    · rw [if_pos h1, if_pos h1, if_pos h1, if_pos h2, if_pos h2, if_pos h2]; omega
    · rw [if_pos h1, if_pos h1, if_pos h1, if_neg h2, if_neg h2, if_neg h2]; omega
  · by_cases h2 : v = i
    · rw [if_neg h1, if_neg h1, if_neg h1, if_pos h2, if_pos h2, if_pos h2]; omega
    · rw [if_neg h1, if_neg h1, if_neg h1, if_neg h2, if_neg h2, if_neg h2]; omega

theorem moved_mv1 (xs ys : List Int) (L : Int) (u v : Nat) (s : Int) : moved ⟨xs, ys, L⟩ 1 (u + 1) (v + 1) s = ⟨mv xs u v s, ys, L⟩ := by
  rw [moved_1]
  rfl
theorem moved_mv2 (xs ys : List Int) (L : Int) (u v : Nat) (s : Int) : moved ⟨xs, ys, L⟩ 2 (u + 1) (v + 1) s = ⟨xs, mv ys u v s, L⟩ := by
  rw [moved_2]
  rfl
theorem moveOk_parts {b : BankL} {k f t s : Int} (h : moveOk b k f t s = true) : okB b = true ∧ kindB k = true ∧ userB f = true ∧ userB t = true ∧ 0 ≤ s ∧ s ≤ has b k f := by
  simp only [moveOk, Bool.and_eq_true, decide_eq_true_eq] at h
  exact ⟨h.1.1.1.1.1, h.1.1.1.1.2, h.1.1.1.2, h.1.1.2, h.1.2, h.2⟩
theorem moveOk_mk {b : BankL} {k f t s : Int} (h1 : okB b = true) (h2 : kindB k = true) (h3 : userB f = true) (h4 : userB t = true) (h5 : 0 ≤ s) (h6 : s ≤ has b k f) : moveOk b k f t s = true := by
  simp [moveOk, h1, h2, h3, h4, h5, h6]
theorem has1 (xs ys : List Int) (L : Int) (u : Nat) : has ⟨xs, ys, L⟩ 1 ((u : Int) + 1) = xs.getD u 0 := by simp only [has, lst, if_true, ix]
theorem has2 (xs ys : List Int) (L : Int) (u : Nat) : has ⟨xs, ys, L⟩ 2 ((u : Int) + 1) = ys.getD u 0 := by
  have h : ¬ (2 : Int) = 1 := by omega
  simp only [has, lst, if_neg h, ix]

theorem move_back {b : BankL} {k f t s : Int} (h : moveOk b k f t s = true) : moveOk (moved b k f t s) k t f s = true ∧ moved (moved b k f t s) k t f s = b := by
  have hok := move_ok h
  obtain ⟨h1, h2, h3, h4, h5, h6⟩ := moveOk_parts h
  have hl1 := lst_len h1 1
  have hl2 := lst_len h1 2
  have hb := has_bounds h1 k t
  obtain ⟨xs, ys, L⟩ := b
  obtain ⟨u, rfl⟩ := nat_of_user h3
  obtain ⟨v, rfl⟩ := nat_of_user h4
  have hu := user_range h3
  have hv := user_range h4
  rcases kind_cases h2 with rfl | rfl
  · have lu : u < xs.length := by simp [lst] at hl1; omega
    have lv : v < xs.length := by simp [lst] at hl1; omega
    rw [has1] at h6 hb
    rw [moved_mv1] at hok ⊢
    refine ⟨moveOk_mk hok h2 h4 h3 h5 ?_, by rw [moved_mv1, mv_back s lu lv]⟩
    rw [has1, mv_getD s lu lv, if_pos rfl]
    by_cases e : u = v
    · rw [if_pos e]; subst e; omega
    · rw [if_neg e]; omega
  · have lu : u < ys.length := by simp [lst] at hl2; omega
    have lv : v < ys.length := by simp [lst] at hl2; omega
    rw [has2] at h6 hb
    rw [moved_mv2] at hok ⊢
    refine ⟨moveOk_mk hok h2 h4 h3 h5 ?_, by rw [moved_mv2, mv_back s lu lv]⟩
    rw [has2, mv_getD s lu lv, if_pos rfl]
    by_cases e : u = v
    · rw [if_pos e]; subst e; omega
    · rw [if_neg e]; omega

theorem move_two {b : BankL} {k f t s j : Int} (h : moveOk b k f t s = true) (h0 : 0 ≤ j) (hj : j ≤ s) :
    moveOk b k f t j = true ∧ moveOk (moved b k f t j) k f t (s - j) = true ∧ moved (moved b k f t j) k f t (s - j) = moved b k f t s := by
  obtain ⟨h1, h2, h3, h4, h5, h6⟩ := moveOk_parts h
  have hmj : moveOk b k f t j = true := moveOk_mk h1 h2 h3 h4 h0 (by omega)
  have hok := move_ok hmj
  refine ⟨hmj, ?_⟩
  have hl1 := lst_len h1 1
  have hl2 := lst_len h1 2
  obtain ⟨xs, ys, L⟩ := b
  obtain ⟨u, rfl⟩ := nat_of_user h3
  obtain ⟨v, rfl⟩ := nat_of_user h4
  have hu := user_range h3
  have hv := user_range h4
  rcases kind_cases h2 with rfl | rfl
  · have lu : u < xs.length := by simp [lst] at hl1; omega
    have lv : v < xs.length := by simp [lst] at hl1; omega
    rw [has1] at h6
    rw [moved_mv1] at hok ⊢
    refine ⟨moveOk_mk hok h2 h3 h4 (by omega) ?_, by rw [moved_mv1, moved_mv1, mv_two s j lu lv]⟩
    rw [has1, mv_getD j lu lv, if_pos rfl]
    by_cases e : v = u
    · rw [if_pos e]; omega
    · rw [if_neg e]; omega
  · have lu : u < ys.length := by simp [lst] at hl2; omega
    have lv : v < ys.length := by simp [lst] at hl2; omega
    rw [has2] at h6
    rw [moved_mv2] at hok ⊢
    refine ⟨moveOk_mk hok h2 h3 h4 (by omega) ?_, by rw [moved_mv2, moved_mv2, mv_two s j lu lv]⟩
    rw [has2, mv_getD j lu lv, if_pos rfl]
    by_cases e : v = u
    · rw [if_pos e]; omega
    · rw [if_neg e]; omega

/-- Coins of two kinds do not mind each other. -/
theorem move_kinds {b : BankL} {k f t s n : Int} (h : moveOk b k f t s = true) (hn : 0 ≤ n) :
    moveOk (moved b k f t s) (3 - k) t f n = moveOk b (3 - k) t f n ∧
    (moveOk b (3 - k) t f n = true → moveOk (moved b (3 - k) t f n) k f t s = true ∧ moved (moved b (3 - k) t f n) k f t s = moved (moved b k f t s) (3 - k) t f n) := by
  have hok := move_ok h
  obtain ⟨h1, h2, h3, h4, h5, h6⟩ := moveOk_parts h
  obtain ⟨xs, ys, L⟩ := b
  obtain ⟨u, rfl⟩ := nat_of_user h3
  obtain ⟨v, rfl⟩ := nat_of_user h4
  rcases kind_cases h2 with rfl | rfl
  · have e3 : (3 : Int) - 1 = 2 := by omega
    rw [e3]
    rw [moved_mv1] at hok ⊢
    refine ⟨by simp only [moveOk, hok, h1, has2], fun hm => ?_⟩
    have hok2 := move_ok hm
    rw [moved_mv2] at hok2 ⊢
    rw [moved_mv1, moved_mv2]
    refine ⟨moveOk_mk hok2 h2 h3 h4 h5 ?_, rfl⟩
    rw [has1] at h6 ⊢
    exact h6
  · have e3 : (3 : Int) - 2 = 1 := by omega
    rw [e3]
    rw [moved_mv2] at hok ⊢
    refine ⟨by simp only [moveOk, hok, h1, has1], fun hm => ?_⟩
    have hok2 := move_ok hm
    rw [moved_mv1] at hok2 ⊢
    rw [moved_mv2, moved_mv1]
    refine ⟨moveOk_mk hok2 h2 h3 h4 h5 ?_, rfl⟩
    rw [has2] at h6 ⊢
    exact h6
end Go.Proofs.Ytedmkbiamjpdaab
