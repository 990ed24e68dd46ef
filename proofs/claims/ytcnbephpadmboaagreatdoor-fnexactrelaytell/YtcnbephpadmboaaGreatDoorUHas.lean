/- fateAt of the program; StateSettled of the program and of the model. StateHas of the program and of the model. -/
import Derived.Test.YtcnbephpadmboaaGreatDoorUFat
set_option linter.unusedVariables false
set_option linter.unusedSimpArgs false
/-! SSet -/
namespace Go.Proofs.YtcnbephpadmboaaGreatDoor
open Go.RowKit

theorem ownsRow_shape {w : World} {base n : Nat} {e : TypeId} {v : Value} {xs : List Value} (h : w.ownsRow base e 1 v n xs) :
    ∃ A cap, v = .slice A n cap ∧ (0 < n → ∃ g, A = some ⟨g, 0, none⟩ ∧ ∀ (j : Nat) u, xs[j]? = some u → w.cell? ⟨g, j, none⟩ = some u) := by
  rcases h.2 with ⟨h0, hn⟩ | ⟨g, cap, cur, hv, _⟩
  · subst h0
    obtain rfl : n = 0 := by
      have h1 := h.1
      simp_all
    exact ⟨none, 0, rfl, fun h => absurd h (by omega)⟩
  · subst hv
    refine ⟨some ⟨g, 0, none⟩, cap, rfl, fun _ => ⟨g, rfl, fun j u hj => ?_⟩⟩
    have h9 := h.cells (g := g) rfl j u hj
    by_cases h0 : j = 0
    · subst h0; simpa [Addr.add] using h9
    · simpa [Addr.add, h0] using h9
/-- The fate of packet number q, nil where there is none. -/
def fvN (x : StL) (q : Int) : Value := if stB x = true ∧ 1 ≤ q ∧ q ≤ x.sent.length then fateAtL x (q - 1).toNat else .nilIface
theorem fvN_bad {x : StL} {q : Int} (h : stB x = false) : fvN x q = .nilIface := by simp [fvN, h]
theorem fvN_lo {x : StL} {q : Int} (h : q < 1) : fvN x q = .nilIface := by unfold fvN; rw [if_neg (by omega)]
theorem fvN_hi {x : StL} {q : Int} (h : (x.sent.length : Int) < q) : fvN x q = .nilIface := by unfold fvN; rw [if_neg (by omega)]
theorem fvN_at {x : StL} {k : Nat} (h : stB x = true) (h2 : k < x.sent.length) : fvN x ((k : Int) + 1) = fateAtL x k := by
  unfold fvN
  rw [if_pos ⟨h, by omega, by omega⟩]
  congr 1
  omega
def setN (x : StL) (q : Int) : Int := if stB x = true ∧ 1 ≤ q ∧ q ≤ x.sent.length then setOf (x.live.getD (q - 1).toNat false) (x.back.getD (q - 1).toNat false) else 0
set_option maxHeartbeats 1000000 in
theorem fateAt_any (x : StL) (A1 A2 A3 A4 : Option Addr) (c1 c2 c3 c4 : Nat) (q : Int) (w : World) (hx : StAt w x A1 A2 A3 A4) (ht : Tabs w) :
    Calls Tryz.prog 105 #[stV x A1 A2 A3 A4 c1 c2 c3 c4, .int .i64 q] w fun e w' => e = .returned (fvN x q) ∧ Keeps noBlk w w' := by
  have HX := Lib.hid hx
  have HT := Lib.hid ht
  have h63 := hx.2.1
  unfold maxLen at h63
  clear hx ht
  have HK0 := Lib.hid ((Keeps.refl noBlk w).alloc (.cells #[.int .i64 x.way, .int .i64 x.ver, .int .i64 x.want, .slice A1 x.sent.length c1, .slice A2 x.live.length c2, .slice A3 x.back.length c3, .slice A4 x.got.length c4] 39))
  rcases Bool.eq_false_or_eq_true (stB x) with ho | ho
  · have HFO := Lib.hid (fatesOf_ok x A1 A2 A3 A4 c1 c2 c3 c4 _ (HX.out.kept HK0.out) (HT.out.keeps HK0.out) ho)
    have N4 := Lib.hid (fun k => @fvN_at x k ho)
    have N2 := Lib.hid (@fvN_lo x q)
    have N3 := Lib.hid (@fvN_hi x q)
    clear ho
    unfold stV at HFO ⊢
    go_enter Tryz.func105, Tryz.ntmps105
    go_wp2_with fail
    refine HFO.out.mono ?_
    rintro e w1 ⟨v, base, rfl, hbase, hown, hk1⟩
    have HK1 := Lib.hid (HK0.out.trans hk1)
    obtain ⟨A, cap, rfl, hsh⟩ := ownsRow_shape hown
    have HSH := Lib.hid hsh
    clear hbase hown hk1 hsh
    by_cases h1 : q < 1
    · have HE := Lib.hid (N2.out h1)
      go_wp2
      go_ret
      exact ⟨by simp [HE.out], HK1.out⟩
    · by_cases h2 : q ≤ x.sent.length
      · obtain ⟨k, hk⟩ : ∃ k : Nat, q = (k : Int) + 1 := ⟨(q - 1).toNat, by omega⟩
        subst hk
        have hlt : k < x.sent.length := by omega
        have HE := Lib.hid (N4.out k hlt)
        obtain ⟨g, rfl, hc⟩ := HSH.out (by omega)
        have d := hc k _ (fatesL_at x _ k hlt)
        generalize fateAtL x k = F at HE d
        clear hc N2 N3 N4
        go_wp2
        go_ret
        exact ⟨by simp [HE.out], HK1.out⟩
      · have HE := Lib.hid (N3.out (by omega))
        go_wp2
        go_ret
        exact ⟨by simp [HE.out], HK1.out⟩
  · have HFO := Lib.hid (fatesOf_bad x A1 A2 A3 A4 c1 c2 c3 c4 _ (HX.out.kept HK0.out) (HT.out.keeps HK0.out) ho)
    have HE := Lib.hid (@fvN_bad x q ho)
    clear ho
    unfold stV at HFO ⊢
    go_enter Tryz.func105, Tryz.ntmps105
    go_wp2_with fail
    refine HFO.out.mono ?_
    rintro e w1 ⟨rfl, hk1⟩
    have HK1 := Lib.hid (HK0.out.trans hk1)
    clear hk1
    by_cases h1 : q < 1
    · go_wp2
      go_ret
      exact ⟨by simp [HE.out], HK1.out⟩
    · have h2 : (0 : Int) < q := by omega
      go_wp2
      go_ret
      exact ⟨by simp [HE.out], HK1.out⟩

theorem setFv (x : StL) (q : Int) (W : World) : Calls Tryz.prog 106 #[fvN x q] W fun e w' => e = .returned (.int .i64 (setN x q)) ∧ W = w' := by
  unfold fvN setN
  split
  · exact settledNumber_any _ _ _ _
  · exact settled_nil _
set_option maxHeartbeats 1000000 in
theorem implSet_any (x : StL) (A1 A2 A3 A4 : Option Addr) (c1 c2 c3 c4 : Nat) (q : Int) (w : World) (hx : StAt w x A1 A2 A3 A4) (ht : Tabs w) :
    Calls Tryz.prog 91 #[stV x A1 A2 A3 A4 c1 c2 c3 c4, .int .i64 q] w fun e w' => e = .returned (.int .i64 (setN x q)) ∧ Keeps noBlk w w' := by
  have HK0 := Lib.hid ((Keeps.refl noBlk w).alloc (.cells #[.int .i64 x.way, .int .i64 x.ver, .int .i64 x.want, .slice A1 x.sent.length c1, .slice A2 x.live.length c2, .slice A3 x.back.length c3, .slice A4 x.got.length c4] 39))
  have HFA := Lib.hid (fateAt_any x A1 A2 A3 A4 c1 c2 c3 c4 q _ (hx.kept HK0.out) (ht.keeps HK0.out))
  have HSN := Lib.hid (setFv x q)
  clear hx ht
  generalize fvN x q = F at HFA HSN
  generalize setN x q = n at HSN
  unfold stV at HFA ⊢
  go_enter Tryz.func91, Tryz.ntmps91
  go_wp2_with fail
  refine HFA.out.mono ?_
  rintro e w1 ⟨rfl, hk1⟩
  have HK1 := Lib.hid (HK0.out.trans hk1)
  clear hk1
  go_wp2_with fail
  refine (HSN.out _).mono ?_
  rintro e w2 ⟨rfl, rfl⟩
  go_wp2
  go_ret
  exact ⟨rfl, HK1.out⟩

end Go.Proofs.YtcnbephpadmboaaGreatDoor

/-! SHas -/
namespace Go.Proofs.YtcnbephpadmboaaGreatDoor
open Go.RowKit

theorem meth_live (v : Value) (w : World) : (Go.method 280 151 v "loop.example/hawser/impl.packet").run Tryz.prog w = .ok (161, v) w := by kernel_rfl
attribute [local go_sem] meth_live
theorem same_keep {w w' : World} {e : Ending} {v : Value} (h : e = .returned v ∧ w = w') : e = .returned v ∧ Keeps noBlk w w' := ⟨h.1, by obtain ⟨_, rfl⟩ := h; exact Keeps.refl _ _⟩

end Go.Proofs.YtcnbephpadmboaaGreatDoor
