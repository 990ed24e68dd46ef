/- BankMove of the program answers as moved. -/
import Derived.Test.YtedmkbiamjpdaabIBank
set_option linter.unusedVariables false
set_option linter.unusedSimpArgs false
namespace Go.Proofs.Ytedmkbiamjpdaab
open Go.RowKit


theorem mhas_user {zs : List Int} (h : zs.length = 3) (u : Int) : mhas zs u = userB u := by
  unfold mhas userB
  rw [h]
  rfl
theorem take_eq {b : BankL} {k f s : Int} (h : okB b = true) (hk : kindB k = true) : takeB (lst b k) f s = (userB f && decide (0 ≤ s) && decide (s ≤ has b k f)) := by
  unfold takeB
  rw [mhas_user (lst_len h k)]
  by_cases hf : userB f = true
  · have hu := user_range hf
    have e : mget (lst b k) f = has b k f := by
      unfold mget has
      rw [if_pos (by rw [lst_len h k]; omega)]
    rw [e]
  · simp [hf]

end Go.Proofs.Ytedmkbiamjpdaab
