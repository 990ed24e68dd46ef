/- lwHas of the laws: what a user has, of a bank with lists of three. -/
import Derived.Test.YtedmkbiamjpdaabBnk
set_option linter.unusedVariables false
set_option linter.unusedSimpArgs false
namespace Go.Proofs.Ytedmkbiamjpdaab
open Go.RowKit

set_option maxHeartbeats 400000 in
theorem lwHas_1 (A1 A2 : Option Addr) (n1 n2 c1 c2 : Nat) (L : Int) (xs ys : List Int) (w : World) (ha1 : Ints w A1 n1 xs) (h1 : n1 = 3) (h2 : n2 = 3) (_hy : Ints w A2 n2 ys) (u : Nat) (hu : (u : Int) < 3) :
    Calls Try.prog 12 #[.agg #[.slice A1 n1 c1, .slice A2 n2 c2, .int .i64 L], .int .i64 1, .int .i64 ((u : Int) + 1)] w fun e w' => e = .returned (.int .i64 (xs.getD u 0)) ∧ Keeps noBlk w w' := by
  subst h1 h2
  obtain ⟨b, off, rfl, hb, hc⟩ := ha1.at_ (k := u) (by omega)
  clear ha1
  generalize xs.getD u 0 = x at hc ⊢
  go_enter Try.func12, Try.ntmps12
  go_wp2
  go_ret
  exact ⟨rfl, (Keeps.refl _ _).alloc _⟩
set_option maxHeartbeats 400000 in
theorem lwHas_2 (A1 A2 : Option Addr) (n1 n2 c1 c2 : Nat) (L : Int) (xs ys : List Int) (w : World) (_hx : Ints w A1 n1 xs) (h1 : n1 = 3) (h2 : n2 = 3) (ha2 : Ints w A2 n2 ys) (u : Nat) (hu : (u : Int) < 3) :
    Calls Try.prog 12 #[.agg #[.slice A1 n1 c1, .slice A2 n2 c2, .int .i64 L], .int .i64 2, .int .i64 ((u : Int) + 1)] w fun e w' => e = .returned (.int .i64 (ys.getD u 0)) ∧ Keeps noBlk w w' := by
  subst h1 h2
  obtain ⟨b, off, rfl, hb, hc⟩ := ha2.at_ (k := u) (by omega)
  clear ha2
  generalize ys.getD u 0 = x at hc ⊢
  go_enter Try.func12, Try.ntmps12
  go_wp2
  go_ret
  exact ⟨rfl, (Keeps.refl _ _).alloc _⟩
end Go.Proofs.Ytedmkbiamjpdaab
