/- spec.l6Dec at numbers of one figure or two. -/
import Derived.Test.YtjbllfnfnkghgaaDoorPkT
import Derived.Laws.IdiomStrings
import Derived.Laws.BitsAllLaws
import Derived.Deep.RegionHeld3
import Derived.Deep.RegionWith
import Derived.Deep.DrawnRows
set_option linter.unusedVariables false
set_option linter.unusedSimpArgs false
namespace Go.Proofs.YtjbllfnfnkghgaaDoor
open Go.RowKit
attribute [local go_sem ↓] Go.wp_at_zero Go.wp_at_succ

def fig (r : Int) : UInt8 := UInt8.ofNat (48 + r.toNat)
theorem fig_nat (n : Int) (h0 : 0 ≤ n) (h1 : n < 10) : ((fig n).toNat : Int) = 48 + n := by
  unfold fig
  have : (UInt8.ofNat (48 + n.toNat)).toNat = 48 + n.toNat := by
    rw [UInt8.toNat_ofNat']
    exact Nat.mod_eq_of_lt (by omega)
  rw [this]
  omega
theorem conv1 (W : World) (g : Nat) (n : Int) (h0 : 0 ≤ n) (h1 : n < 10) (hc : W.cell? ⟨g, 0, none⟩ = some (.int .u8 (48 + n))) :
    (convert 22 9 (.slice (some ⟨g, 0, none⟩) 1 1)).run Tryd.prog W = .ok (.string ⟨#[fig n]⟩) W := by
  have := run_convert_bytes_back (P := Tryd.prog) W 22 9 5 ⟨g, 0, none⟩ 1 [fig n] Tryd.underlying22 Tryd.underlying5 Tryd.underlying9 (fun j hj => by
    have : j = 0 := by simp at hj; omega
    subst this
    simp only [List.getElem_cons_zero, fig_nat n h0 h1]
    simpa [Addr.add] using hc)
  simpa using this
theorem dg_1 (n : Int) (h0 : 0 ≤ n) (h1 : n < 10) : dg n = [fig n] := by
  unfold dg fig
  rw [Lib.decDigits, dif_pos (by omega)]
theorem dg_2 (n : Int) (h0 : 10 ≤ n) : dg n = dg (n / 10) ++ [fig (n % 10)] := by
  unfold dg fig
  rw [Lib.decDigits, dif_neg (by omega)]
  have e1 : n.toNat / 10 = (n / 10).toNat := by omega
  have e2 : n.toNat % 10 = (n % 10).toNat := by omega
  rw [e1, e2]

set_option maxRecDepth 100000 in
set_option maxHeartbeats 1000000 in
theorem l6Dec_1 (n : Int) (h0 : 0 ≤ n) (h1 : n < 10) (w : World) : Calls Tryd.prog 28 #[.int .i64 n] w (RetTxt w (dg n)) := by
  have a1 : decide (n < -9223372036854775807) = false := decide_eq_false (by omega)
  have a2 : ¬ n < 0 := by omega
  have HF := Lib.hid (dg_1 n h0 h1)
  have hcv := conv1 (w.alloc (.cells #[.int .u8 (48 + n)] 5)) w.heap.size n h0 h1 (by simp)
  go_enter Tryd.func28, Tryd.ntmps28
  go_wp2
  go_ret
  exact ⟨by simp [HF.out], (Keeps.refl _ _).alloc _⟩

theorem dec_parts (n : Int) (h0 : 10 ≤ n) (h1 : n < 100) : ∃ q r : Int, n.tdiv 10 = q ∧ n.tmod 10 = r ∧ 0 ≤ q ∧ q < 10 ∧ 0 ≤ r ∧ r < 10 ∧ dg n = dg q ++ [fig r] :=
  ⟨n / 10, n % 10, Int.tdiv_eq_ediv_of_nonneg (by omega), Int.tmod_eq_emod_of_nonneg (by omega), by omega, by omega, by omega, by omega, dg_2 n h0⟩

set_option maxRecDepth 100000 in
set_option maxHeartbeats 2000000 in
theorem l6Dec_2 (n : Int) (h0 : 10 ≤ n) (h1 : n < 100) (w : World) : Calls Tryd.prog 28 #[.int .i64 n] w (RetTxt w (dg n)) := by
  have a1 : decide (n < -9223372036854775807) = false := decide_eq_false (by omega)
  have a2 : ¬ n < 0 := by omega
  have a3 : ¬ n < 10 := by omega
  obtain ⟨q, r, hq, hr, q0, q1, r0, r1, hF⟩ := dec_parts n h0 h1
  have HF := Lib.hid hF
  clear hF
  go_enter Tryd.func28, Tryd.ntmps28
  go_wp2_with fail
  have w1 : IntKind.i64.wrap q = q := IntWalk.i64_in _ (by omega)
  have w2 : IntKind.i64.wrap r = r := IntWalk.i64_in _ (by omega)
  have w3 : IntKind.i64.wrap (48 + r) = 48 + r := IntWalk.i64_in _ (by omega)
  have w4 : IntKind.u8.wrap (48 + r) = 48 + r := by rw [IntKind.wrap_u8']; omega
  have hcv := fun W g => conv1 W g r r0 r1
  have hql := dg_len q (by omega)
  go_region_with ((go_at_call 28; refine (l6Dec_1 q q0 q1 _).mono ?_; rintro e x1 ⟨rfl, hk1⟩; have hx := hk1.cell (b := w.heap.size) (o := 0); (try simp [noBlk] at hx); have HX := Lib.hid (((by repeat (first | with_reducible exact Keeps.refl _ _ | with_reducible refine Keeps.drew ?_ | with_reducible refine Keeps.alloc ?_ _)) : Keeps noBlk w _).trans hk1); clear hk1))
  all_goals go_wp2
  all_goals go_ret
  all_goals refine ⟨by (simp [HF.out, ByteArray.mk_append_mk]; rfl), ?_⟩
  all_goals repeat (first | with_reducible exact HX.out | with_reducible refine Keeps.drew ?_ | with_reducible refine Keeps.alloc ?_ _)
theorem l6Dec_any (n : Int) (h0 : 0 ≤ n) (h1 : n < 100) (w : World) : Calls Tryd.prog 28 #[.int .i64 n] w (RetTxt w (dg n)) := by
  by_cases h : n < 10
  · exact l6Dec_1 n h0 h w
  · exact l6Dec_2 n (by omega) h1 w
end Go.Proofs.YtjbllfnfnkghgaaDoor
