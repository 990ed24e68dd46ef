/- BankMove of the model answers as moved. -/
import Derived.Test.YtiglmfefamehhabModel
import Derived.Test.YtiglmfefamehhabCopy
namespace Go.Proofs.Ytiglmfefamehhab
open Go.RowKit

set_option maxHeartbeats 400000 in
theorem l1User_any (x : Int) (w : World) : Calls Try.prog 20 #[.int .i64 x] w fun e w' => e = .returned (.bool (userB x)) ∧ w = w' := by
  go_enter Try.func20, Try.ntmps20
  go_wp2_with fail
  refine (l6In_any x 1 3 _).mono ?_
  rintro e w' ⟨rfl, rfl⟩
  go_wp2
  go_ret
  exact ⟨rfl, rfl⟩
theorem l6In_kind (x : Int) (w : World) : Calls Try.prog 19 #[.int .i64 x, .int .i64 1, .int .i64 2] w fun e w' => e = .returned (.bool (kindB x)) ∧ w = w' := l6In_any x 1 2 w

def RetNo (w : World) (e : Ending) (w' : World) : Prop := e = .returned (.tuple #[noBank, .bool false]) ∧ Keeps noBlk w w'

theorem getD_set (zs : List Int) (u v : Nat) (x : Int) : (zs.set u x).getD v 0 = if u = v ∧ u < zs.length then x else zs.getD v 0 := by
  simp only [List.getD_eq_getElem?_getD, List.getElem?_set]
  by_cases h : u = v
  · subst h
    by_cases h2 : u < zs.length
    · simp [h2]
    · simp [h2]
  · simp [h]
theorem ix (n : Nat) : ((n : Int) + 1 - 1).toNat = n := by omega
theorem moved_1 (xs ys : List Int) (L : Int) (u v : Nat) (sm : Int) : moved ⟨xs, ys, L⟩ 1 (u + 1) (v + 1) sm = put ⟨xs, ys, L⟩ 1 ((xs.set u (xs.getD u 0 - sm)).set v ((xs.set u (xs.getD u 0 - sm)).getD v 0 + sm)) := by
  simp only [moved, give, put, has, lst, if_true, ix]
  rfl
theorem moved_2 (xs ys : List Int) (L : Int) (u v : Nat) (sm : Int) : moved ⟨xs, ys, L⟩ 2 (u + 1) (v + 1) sm = put ⟨xs, ys, L⟩ 2 ((ys.set u (ys.getD u 0 - sm)).set v ((ys.set u (ys.getD u 0 - sm)).getD v 0 + sm)) := by
  have h : ¬ (2 : Int) = 1 := by omega
  simp only [moved, give, put, has, lst, if_neg h, ix]
  rfl
def RetYes (w : World) (b : BankL) (e : Ending) (w' : World) : Prop := ∃ v, e = .returned (.tuple #[v, .bool true]) ∧ BankAt w' w.heap.size v b ∧ Keeps noBlk w w'

theorem nat_of_user {u : Int} (h : userB u = true) : ∃ n : Nat, u = (n : Int) + 1 := ⟨(u - 1).toNat, by have := user_range h; omega⟩
theorem RetB2.no {w : World} {ok : Bool} {b : BankL} (h : ok = false) {e : Ending} {w' : World} (hr : RetNo w e w') : RetB2 w ok b e w' := .inr ⟨h, hr.1, hr.2⟩
theorem RetB2.yes {w : World} {ok : Bool} {b : BankL} (h : ok = true) {e : Ending} {w' : World} (hr : RetYes w b e w') : RetB2 w ok b e w' := .inl ⟨h, hr⟩

end Go.Proofs.Ytiglmfefamehhab
