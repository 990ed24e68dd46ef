/- fateAt of the program; StateSettled of the program and of the model. StateHas of the program and of the model. -/
import Derived.Test.YtcnbephpadmboaaGreatDoorUFat
set_option linter.unusedVariables false
set_option linter.unusedSimpArgs false
/-! SSet -/
namespace Go.Proofs.YtcnbephpadmboaaGreatDoor
open Go.RowKit

theorem ownsRow_shape {w : World} {base n : Nat} {e : TypeId} {v : Value} {xs : List Value} (h : w.ownsRow base e 1 v n xs) :
    ∃ A cap, v = .slice A n cap ∧ (0 < n → ∃ g, A = some ⟨g, 0, none⟩ ∧ ∀ (j : Nat) u, xs[j]? = some u → w.cell? ⟨g, j, none⟩ = some u) := by
  rcases h.2 with ⟨h0, hn⟩ | ⟨g, cap, cur, hv, _⟩
  · subst h0
    obtain rfl : n = 0 := by
      have h1 := h.1
      simp_all
    exact ⟨none, 0, rfl, fun h => absurd h (by omega)⟩
  · subst hv
    refine ⟨some ⟨g, 0, none⟩, cap, rfl, fun _ => ⟨g, rfl, fun j u hj => ?_⟩⟩
    have h9 := h.cells (g := g) rfl j u hj
    by_cases h0 : j = 0
    · subst h0; simpa [Addr.add] using h9
    · simpa [Addr.add, h0] using h9
end Go.Proofs.YtcnbephpadmboaaGreatDoor

/-! SHas -/
namespace Go.Proofs.YtcnbephpadmboaaGreatDoor
open Go.RowKit

set_option maxHeartbeats 1000000 in
theorem packet_live (p : Pk) (w : World) : Calls Tryz.prog 161 #[p.val] w fun e w' => e = .returned p.val ∧ Keeps noBlk w w' := by
  unfold Pk.val
  go_enter Tryz.func161, Tryz.ntmps161
  go_wp2
  refine bodyPost_ret (v := .agg #[.int .i64 p.s, .int .i64 p.k, .int .i64 p.f, .int .i64 p.t, .int .i64 p.m, .int .i64 p.u, .int .i64 p.v]) (by simp [results, Tryz.results161, go_sem]) rfl ⟨rfl, ?_⟩
  repeat (first | exact Keeps.refl _ _ | refine Keeps.alloc ?_ _ | refine Keeps.setCell ?_ (.inl (by simp)) _)
theorem meth_live (v : Value) (w : World) : (Go.method 280 151 v "loop.example/hawser/impl.packet").run Tryz.prog w = .ok (161, v) w := by kernel_rfl
attribute [local go_sem] meth_live
end Go.Proofs.YtcnbephpadmboaaGreatDoor
