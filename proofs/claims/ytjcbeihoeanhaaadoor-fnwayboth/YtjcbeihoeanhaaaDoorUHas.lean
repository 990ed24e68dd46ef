/- fateAt of the program; StateSettled of the program and of the model. StateHas of the program and of the model. -/
import Derived.Test.YtjcbeihoeanhaaaDoorUFat
set_option maxRecDepth 100000
set_option maxHeartbeats 1000000
set_option linter.unusedVariables false
set_option linter.unusedSimpArgs false
/-! SSet -/
namespace Go.Proofs.YtjcbeihoeanhaaaDoor
open Go.RowKit

theorem ownsRow_shape {w : World} {base n : Nat} {e : TypeId} {v : Value} {xs : List Value} (h : w.ownsRow base e 1 v n xs) :
  ∃ A cap, v = .slice A n cap ∧ (0 < n → ∃ g, A = some ⟨g, 0, none⟩ ∧ ∀ (j : Nat) u, xs[j]? = some u → w.cell? ⟨g, j, none⟩ = some u) := by
 rcases h.2 with ⟨h0, hn⟩ | ⟨g, cap, cur, hv, _⟩
 ·subst h0
  obtain rfl : n = 0 := by
   have h1 := h.1
   simp_all
  exact ⟨none, 0, rfl, fun h => absurd h (by omega)⟩
 ·subst hv
  refine ⟨some ⟨g, 0, none⟩, cap, rfl, fun _ => ⟨g, rfl, fun j u hj => ?_⟩⟩; have h9 := h.cells (g := g) rfl j u hj
  by_cases h0 : j = 0
  ·subst h0; simpa [Addr.add] using h9
  ·simpa [Addr.add, h0] using h9
def fvN (x : StL) (q : Int) : Value := if stB x = true ∧ 1 ≤ q ∧ q ≤ x.sent.length then fateAtL x (q - 1).toNat else .nilIface
theorem fvN_bad {x : StL} {q : Int} (h : stB x = false) : fvN x q = .nilIface := by simp [fvN, h]
theorem fvN_lo {x : StL} {q : Int} (h : q < 1) : fvN x q = .nilIface := by unfold fvN; rw [if_neg (by omega)]
theorem fvN_hi {x : StL} {q : Int} (h : (x.sent.length : Int) < q) : fvN x q = .nilIface := by unfold fvN; rw [if_neg (by omega)]
theorem fvN_at {x : StL} {k : Nat} (h : stB x = true) (h2 : k < x.sent.length) : fvN x ((k : Int) + 1) = fateAtL x k := by
 unfold fvN; rw [if_pos ⟨h, by omega, by omega⟩]
 congr 1
 omega
def setN (x : StL) (q : Int) : Int := if stB x = true ∧ 1 ≤ q ∧ q ≤ x.sent.length then setOf (x.live.getD (q - 1).toNat false) (x.back.getD (q - 1).toNat false) else 0
theorem setN_hi {x : StL} {q : Int} (h : (x.sent.length : Int) < q) : setN x q = 0 := by unfold setN; rw [if_neg (by omega)]
theorem fateAt_any (x : StL) (A1 A2 A3 A4 : Option Addr) (c1 c2 c3 c4 : Nat) (q : Int) (w : World) (hx : StAt w x A1 A2 A3 A4) (ht : Tabs w) :
  Calls Tryd.prog 45 #[stV x A1 A2 A3 A4 c1 c2 c3 c4, .int .i64 q] w fun e w' => e = .returned (fvN x q) ∧ Keeps noBlk w w' := by
 have HX := hH hx; have HT := hH ht; have h63 := hx.2.1; unfold maxLen at h63; clear hx ht; have HK0 := hH ((Keeps.refl noBlk w).alloc (.cells (stC x A1 A2 A3 A4 c1 c2 c3 c4) 27))
 rcases Bool.eq_false_or_eq_true (stB x) with ho | ho
 ·have HFO := hH (fatesOf_ok x A1 A2 A3 A4 c1 c2 c3 c4 _ (HX.out.kept HK0.out) (HT.out.keeps HK0.out) ho)
  have N4 := hH (fun k => @fvN_at x k ho); have N2 := hH (@fvN_lo x q); have N3 := hH (@fvN_hi x q); clear ho; unfold stV at HFO ⊢
  go_enter Tryd.func45, Tryd.ntmps45
  go_wp2_with fail; refine HFO.out.mono ?_; rintro e w1 ⟨v, base, rfl, hbase, hown, hk1⟩; have HK1 := hH (HK0.out.trans hk1); obtain ⟨A, cap, rfl, hsh⟩ := ownsRow_shape hown; have HSH := hH hsh; clear hbase hown hk1 hsh
  by_cases h1 : q < 1
  ·have HE := hH (N2.out h1)
   go_wp2; go_ret; exact ⟨by simp [HE.out], HK1.out⟩
  ·by_cases h2 : q ≤ x.sent.length
   ·obtain ⟨k, hk⟩ : ∃ k : Nat, q = (k : Int) + 1 := ⟨(q - 1).toNat, by omega⟩
    subst hk
    have hlt : k < x.sent.length := by omega
    have HE := hH (N4.out k hlt); obtain ⟨g, rfl, hc⟩ := HSH.out (by omega); have d := hc k _ (fatesL_at x _ k hlt); generalize fateAtL x k = F at HE d; clear hc N2 N3 N4; go_wp2; go_ret; exact ⟨by simp [HE.out], HK1.out⟩
   ·have HE := hH (N3.out (by omega))
    go_wp2; go_ret; exact ⟨by simp [HE.out], HK1.out⟩
 ·have HFO := hH (fatesOf_bad x A1 A2 A3 A4 c1 c2 c3 c4 _ (HX.out.kept HK0.out) (HT.out.keeps HK0.out) ho)
  have HE := hH (@fvN_bad x q ho); clear ho; unfold stV at HFO ⊢
  go_enter Tryd.func45, Tryd.ntmps45
  go_wp2_with fail; refine HFO.out.mono ?_; rintro e w1 ⟨rfl, hk1⟩; have HK1 := hH (HK0.out.trans hk1); clear hk1
  by_cases h1 : q < 1
  ·go_wp2
   go_ret; exact ⟨by simp [HE.out], HK1.out⟩
  ·have h2 : (0 : Int) < q := by omega
   go_wp2; go_ret; exact ⟨by simp [HE.out], HK1.out⟩

theorem setFv (x : StL) (q : Int) (W : World) : Calls Tryd.prog 46 #[fvN x q] W fun e w' => e = .returned (.int .i64 (setN x q)) ∧ W = w' := by
 unfold fvN setN
 split
 ·exact settledNumber_any _ _ _ _
 ·exact settled_nil _
theorem implSet_any (x : StL) (A1 A2 A3 A4 : Option Addr) (c1 c2 c3 c4 : Nat) (q : Int) (w : World) (hx : StAt w x A1 A2 A3 A4) (ht : Tabs w) :
  Calls Tryd.prog 25 #[stV x A1 A2 A3 A4 c1 c2 c3 c4, .int .i64 q] w fun e w' => e = .returned (.int .i64 (setN x q)) ∧ Keeps noBlk w w' := by
 have HK0 := hH ((Keeps.refl noBlk w).alloc (.cells (stC x A1 A2 A3 A4 c1 c2 c3 c4) 27)); have HFA := hH (fateAt_any x A1 A2 A3 A4 c1 c2 c3 c4 q _ (hx.kept HK0.out) (ht.keeps HK0.out)); have HSN := hH (setFv x q); clear hx ht; generalize fvN x q = F at HFA HSN; generalize setN x q = n at HSN; unfold stV at HFA ⊢
 go_enter Tryd.func25, Tryd.ntmps25
 go_wp2_with fail; refine HFA.out.mono ?_; rintro e w1 ⟨rfl, hk1⟩; have HK1 := hH (HK0.out.trans hk1); clear hk1; go_wp2_with fail; refine (HSN.out _).mono ?_; rintro e w2 ⟨rfl, rfl⟩; go_wp2; go_ret; exact ⟨rfl, HK1.out⟩

def hasB (x : StL) (p : Pk) : Bool := decide (stB x = true ∧ 1 ≤ p.s ∧ p.s ≤ x.sent.length ∧ x.sent.getD (p.s - 1).toNat pk0 = p ∧ x.live.getD (p.s - 1).toNat false = true)
theorem packet_live (p : Pk) (w : World) : Calls Tryd.prog 129 #[p.val] w fun e w' => e = .returned p.val ∧ Keeps noBlk w w' := by
 unfold Pk.val
 go_enter Tryd.func129, Tryd.ntmps129
 go_wp2; refine bodyPost_ret (v := .agg (pkC p)) (by simp [results, Tryd.results129, go_sem]) rfl ⟨rfl, ?_⟩
 repeat (first | exact Keeps.refl _ _ | refine Keeps.alloc ?_ _ | refine Keeps.setCell ?_ (.inl (by simp)) _)
theorem meth_live (v : Value) (w : World) : (Go.method 247 80 v "loop.example/hawser/impl.packet").run Tryd.prog w = .ok (129, v) w := by kernel_rfl
attribute [local go_sem] meth_live
theorem held_pk : Tryd.prog.stoodInHeld 29 = false := by kernel_rfl
theorem fields_pk : Tryd.prog.underlying 29 = some (.struct (Tryd.prog.fieldsOf 29)) := by
 simp only [Program.fieldsOf, Tryd.underlying29 ]
theorem pk_eql (p q : Pk) (w : World) : (binOp .eql 29 p.val q.val).run Tryd.prog w = .ok (.bool (decide (p = q))) w := by
 obtain ⟨a0, a1, a2, a3, a4, a5, a6⟩ := p; obtain ⟨b0, b1, b2, b3, b4, b5, b6⟩ := q; unfold Pk.val; rw [run_eql_struct, show (10000 : Nat) = 9999 + 1 from rfl, run_equalIn_struct w 9999 29 _ _ fields_pk held_pk]; simp only [Program.fieldsOf, Tryd.underlying29, Pk.mk.injEq]
 by_cases h0 : a0 = b0
 ·by_cases h1 : a1 = b1
  ·by_cases h2 : a2 = b2
   ·by_cases h3 : a3 = b3
    ·by_cases h4 : a4 = b4
     ·by_cases h5 : a5 = b5
      ·by_cases h6 : a6 = b6
       ·simp [Op.eqFields, go_sem, h0, h1, h2, h3, h4, h5, h6]
       ·simp [Op.eqFields, go_sem, h0, h1, h2, h3, h4, h5, h6]
      ·simp [Op.eqFields, go_sem, h0, h1, h2, h3, h4, h5]
     ·simp [Op.eqFields, go_sem, h0, h1, h2, h3, h4]
    ·simp [Op.eqFields, go_sem, h0, h1, h2, h3]
   ·simp [Op.eqFields, go_sem, h0, h1, h2]
  ·simp [Op.eqFields, go_sem, h0, h1]
 ·simp [Op.eqFields, go_sem, h0]
theorem setN_one {x : StL} {q : Int} (h : setN x q = 1) : stB x = true ∧ 1 ≤ q ∧ q ≤ x.sent.length ∧ x.live.getD (q - 1).toNat false = true := by
 unfold setN at h
 split at h
 ·next hc =>
  refine ⟨hc.1, hc.2.1, hc.2.2, ?_⟩
  revert h
  cases x.live.getD (q - 1).toNat false <;> cases x.back.getD (q - 1).toNat false <;> simp [setOf]
 ·cases h
theorem has_live {x : StL} {p : Pk} (h : setN x p.s = 1) : fvN x p.s = .iface 80 (x.sent.getD (p.s - 1).toNat pk0).val ∧ hasB x p = decide (x.sent.getD (p.s - 1).toNat pk0 = p) := by
 obtain ⟨h1, h2, h3, h4⟩ := setN_one h
 constructor
 ·unfold fvN fateAtL fateV
  rw [if_pos ⟨h1, h2, h3⟩, h4]
  rfl
 ·unfold hasB
  simp only [decide_eq_decide]; exact ⟨fun h => h.2.2.2.1, fun h => ⟨h1, h2, h3, h, h4⟩⟩
theorem has_not {x : StL} {p : Pk} (h : setN x p.s ≠ 1) : hasB x p = false := by
 simp only [hasB, decide_eq_false_iff_not]; intro hc
 apply h
 unfold setN; rw [if_pos ⟨hc.1, hc.2.1, hc.2.2.1⟩, hc.2.2.2.2]
 rfl
theorem same_keep {w w' : World} {e : Ending} {v : Value} (h : e = .returned v ∧ w = w') : e = .returned v ∧ Keeps noBlk w w' := ⟨h.1, by obtain ⟨_, rfl⟩ := h; exact Keeps.refl _ _⟩

theorem implHas_any (x : StL) (A1 A2 A3 A4 : Option Addr) (c1 c2 c3 c4 : Nat) (p : Pk) (w : World) (hx : StAt w x A1 A2 A3 A4) (ht : Tabs w) :
  Calls Tryd.prog 16 #[stV x A1 A2 A3 A4 c1 c2 c3 c4, p.val] w fun e w' => e = .returned (.bool (hasB x p)) ∧ Keeps noBlk w w' := by
 have HK0 := hH (((Keeps.refl noBlk w).alloc (.cells (stC x A1 A2 A3 A4 c1 c2 c3 c4) 27)).alloc (.cells (pkC p) 29)); have HFA := hH (fateAt_any x A1 A2 A3 A4 c1 c2 c3 c4 p.s _ (hx.kept HK0.out) (ht.keeps HK0.out)); have HP0 := hH (Box.new (w.alloc (.cells (stC x A1 A2 A3 A4 c1 c2 c3 c4) 27)) (w.heap.size + 1) (by simp) 29 (pkC p)); have HSN := hH (fun W => setFv x p.s W); clear hx ht; unfold stV at HFA ⊢; unfold Pk.val
 go_enter Tryd.func16, Tryd.ntmps16
 go_wp2_with fail; refine HFA.out.mono ?_; rintro e w1 ⟨rfl, hk1⟩
 have hb := HP0.out.keeps hk1 fun h => h
 obtain ⟨p0, p1, p2, p3, p4, p5, p6⟩ := hb.cells7; have HK1 := hH (HK0.out.trans hk1); clear hb hk1; have HL := hH (@has_live x p); have HN := hH (@has_not x p)
 have p0 := fun U : GW w1 => GW.cell p0 U
 have p1 := fun U : GW w1 => GW.cell p1 U
 have p2 := fun U : GW w1 => GW.cell p2 U
 have p3 := fun U : GW w1 => GW.cell p3 U
 have p4 := fun U : GW w1 => GW.cell p4 U
 have p5 := fun U : GW w1 => GW.cell p5 U
 have p6 := fun U : GW w1 => GW.cell p6 U
 by_cases hn1 : setN x p.s = 1
 ·obtain ⟨hF, hB⟩ := HL.out hn1
  generalize x.sent.getD (p.s - 1).toNat pk0 = q at hF hB; have HBB := hH hB; rw [hF]; clear hF hB hn1 HL HN HSN; have HPL := hH (fun W => packet_live q W)
  have heq := fun W => pk_eql q p W
  generalize decide (q = p) = o at heq HBB; unfold Pk.val at HPL heq ⊢; go_wp2_with fail; refine wp_region_grow (by kernel_rfl) (by kernel_rfl) ?_
  repeat (go_big_quiet_step (first | (go_at_call 46; exact Calls.grow _ ((settled_live _ _).mono fun _ _ h => same_keep h)) | (go_at_call 129; exact Calls.grow _ (HPL.out _))))
  refine wpQuiet_nil ?_; rintro _ ⟨U1, rfl⟩; have HK2 := hH (HK1.out.trans U1.keep); go_wp2; go_ret; exact ⟨by simp [HBB.out], HK2.out⟩
 ·have HB := hH (HN.out hn1)
  generalize fvN x p.s = F at HSN ⊢; generalize setN x p.s = n at HSN hn1
  have hnd : (n == 1) = false := by simpa using hn1
  clear HL HN hn1; go_wp2_with fail; refine wp_region_grow (by kernel_rfl) (by kernel_rfl) ?_
  repeat (go_big_quiet_step ((go_at_call 46; exact Calls.grow _ ((HSN.out _).mono fun _ _ h => same_keep h))))
  refine wpQuiet_nil ?_; rintro _ ⟨U1, rfl⟩; have HK2 := hH (HK1.out.trans U1.keep); go_wp2; go_ret; exact ⟨by simp [HB.out], HK2.out⟩

def l3B (x : StL) (p : Pk) : Bool := decide (1 ≤ p.s ∧ p.s ≤ x.sent.length ∧ x.sent.getD (p.s - 1).toNat pk0 = p ∧ x.live.getD (p.s - 1).toNat false = true)
theorem l3B_lo {x : StL} {p : Pk} (h : p.s < 1) : l3B x p = false := by simp only [l3B, decide_eq_false_iff_not]; omega
theorem l3B_hi {x : StL} {p : Pk} (h : (x.sent.length : Int) < p.s) : l3B x p = false := by simp only [l3B, decide_eq_false_iff_not]; omega
theorem l3B_at {x : StL} {p : Pk} {k : Nat} (hk : p.s = (k : Int) + 1) (h : k < x.sent.length) : l3B x p = (decide (x.sent.getD k pk0 = p) && x.live.getD k false) := by
 unfold l3B
 have : (p.s - 1).toNat = k := by omega
 rw [this]
 cases hl : x.live.getD k false with
 | false => simp
 | true =>
  simp only [Bool.and_true, decide_eq_decide]; exact ⟨fun h => h.2.2.1, fun h => ⟨by omega, by omega, h, trivial⟩⟩
theorem l3Has_any (x : StL) (A1 A2 A3 A4 : Option Addr) (c1 c2 c3 c4 : Nat) (p : Pk) (w : World) (hx : StAt w x A1 A2 A3 A4) (hl : x.live.length = x.sent.length) :
  Calls Tryd.prog 47 #[stV x A1 A2 A3 A4 c1 c2 c3 c4, p.val] w fun e w' => e = .returned (.bool (l3B x p)) ∧ Keeps noBlk w w' := by
 have h63 := hx.2.1; unfold maxLen at h63; have HK0 := hH (((Keeps.refl noBlk w).alloc (.cells (stC x A1 A2 A3 A4 c1 c2 c3 c4) 27)).alloc (.cells (pkC p) 29)); have HX := hH (hx.kept HK0.out); have HS0 := hH ((Box.new w _ rfl 27 (stC x A1 A2 A3 A4 c1 c2 c3 c4)).alloc (.cells (pkC p) 29)); have HP0 := hH (Box.new (w.alloc (.cells (stC x A1 A2 A3 A4 c1 c2 c3 c4) 27)) (w.heap.size + 1) (by simp) 29 (pkC p)); have N1 := hH (@l3B_lo x p); have N2 := hH (@l3B_hi x p); have N3 := hH (fun k => @l3B_at x p k); have HL := hH hl; clear hx hl; unfold stV; have heq := hH (fun q W => pk_eql q p W); unfold Pk.val at heq ⊢
 go_enter Tryd.func47, Tryd.ntmps47
 go_wp2_with fail; generalize ((w.alloc (.cells (stC x A1 A2 A3 A4 c1 c2 c3 c4) 27)).alloc (.cells (pkC p) 29)) = W0 at HK0 HX HS0 HP0; have a3 := HS0.out.cell 3; have a4 := HS0.out.cell 4; have p0 := HP0.out.cell 0; have p1 := HP0.out.cell 1; have p2 := HP0.out.cell 2; have p3 := HP0.out.cell 3; have p4 := HP0.out.cell 4; have p5 := HP0.out.cell 5; have p6 := HP0.out.cell 6; simp at a3 a4 p0 p1 p2 p3 p4 p5 p6
 by_cases h1 : p.s < 1
 ·have HB := hH (N1.out h1)
  have d1 := in2_lo (hi := (x.sent.length : Int)) h1; have HIN := hH (fun W => (show Calls Tryd.prog 50 #[.int .i64 (p.s), .int .i64 1, .int .i64 (x.sent.length : Int)] W (fun e w' => e = .returned (.bool false) ∧ W = w') from by rw [← d1]; exact l6In_any _ _ _ W))
  have a3 := fun U : GW W0 => GW.cell a3 U
  have a4 := fun U : GW W0 => GW.cell a4 U
  have p0 := fun U : GW W0 => GW.cell p0 U
  have p1 := fun U : GW W0 => GW.cell p1 U
  have p2 := fun U : GW W0 => GW.cell p2 U
  have p3 := fun U : GW W0 => GW.cell p3 U
  have p4 := fun U : GW W0 => GW.cell p4 U
  have p5 := fun U : GW W0 => GW.cell p5 U
  have p6 := fun U : GW W0 => GW.cell p6 U
  refine wp_region_grow (by kernel_rfl) (by kernel_rfl) ?_
  repeat (go_big_quiet_step ((go_at_call 50; exact Calls.grow _ ((HIN.out _).mono fun _ _ h => same_keep h))))
  refine wpQuiet_nil ?_; rintro _ ⟨U1, rfl⟩; have HK1 := hH (HK0.out.trans U1.keep); go_wp2; go_ret; exact ⟨by simp [HB.out], HK1.out⟩
 ·by_cases h2 : p.s ≤ x.sent.length
  ·have d1 := in2_yes (show 1 ≤ p.s by omega) h2
   obtain ⟨k, hk⟩ : ∃ k : Nat, p.s = (k : Int) + 1 := ⟨(p.s - 1).toNat, by omega⟩
   have hlt : k < x.sent.length := by omega
   have hlt2 : k < x.live.length := by rw [HL.out]; exact hlt
   have HE := hH (N3.out k hk hlt); obtain ⟨b, off, rfl, _, q0, q1, q2, q3, q4, q5, q6⟩ := HX.out.1.1.at_ hlt; obtain ⟨b2, off2, rfl, _, d2⟩ := HX.out.1.2.1.at_ hlt2; have heq := heq.out (x.sent.getD k pk0); generalize x.sent.getD k pk0 = q at HE q0 q1 q2 q3 q4 q5 q6 heq; generalize x.live.getD k false = lv at HE d2; generalize decide (q = p) = o at HE heq
   have a3 := fun U : GW W0 => GW.cell a3 U
   have a4 := fun U : GW W0 => GW.cell a4 U
   have d2 := fun U : GW W0 => GW.cell d2 U
   have p0 := fun U : GW W0 => GW.cell p0 U
   have p1 := fun U : GW W0 => GW.cell p1 U
   have p2 := fun U : GW W0 => GW.cell p2 U
   have p3 := fun U : GW W0 => GW.cell p3 U
   have p4 := fun U : GW W0 => GW.cell p4 U
   have p5 := fun U : GW W0 => GW.cell p5 U
   have p6 := fun U : GW W0 => GW.cell p6 U
   have q0 := fun U : GW W0 => GW.cell q0 U
   have q1 := fun U : GW W0 => GW.cell q1 U
   have q2 := fun U : GW W0 => GW.cell q2 U
   have q3 := fun U : GW W0 => GW.cell q3 U
   have q4 := fun U : GW W0 => GW.cell q4 U
   have q5 := fun U : GW W0 => GW.cell q5 U
   have q6 := fun U : GW W0 => GW.cell q6 U
   rw [hk] at p0 d1 ⊢; have HIN := hH (fun W => (show Calls Tryd.prog 50 #[.int .i64 ((k : Int) + 1), .int .i64 1, .int .i64 (x.sent.length : Int)] W (fun e w' => e = .returned (.bool true) ∧ W = w') from by rw [← d1]; exact l6In_any _ _ _ W)); rw [hk] at heq; clear N1 N2 N3 h1 h2 hk
   cases o with
   | false =>
    refine wp_region_grow (by kernel_rfl) (by kernel_rfl) ?_
    repeat (go_big_quiet_step ((go_at_call 50; exact Calls.grow _ ((HIN.out _).mono fun _ _ h => same_keep h))))
    refine wpQuiet_nil ?_; rintro _ ⟨U1, rfl⟩; have HK1 := hH (HK0.out.trans U1.keep); go_wp2; go_ret; exact ⟨by simp [HE.out], HK1.out⟩
   | true =>
    refine wp_region_grow (by kernel_rfl) (by kernel_rfl) ?_
    repeat (go_big_quiet_step ((go_at_call 50; exact Calls.grow _ ((HIN.out _).mono fun _ _ h => same_keep h))))
    refine wpQuiet_nil ?_; rintro _ ⟨U1, rfl⟩; have HK1 := hH (HK0.out.trans U1.keep); go_wp2; go_ret; exact ⟨by simp [HE.out], HK1.out⟩
  ·have HB := hH (N2.out (by omega))
   have d1 := in2_hi (lo := 1) (Int.not_le.1 h2); have HIN := hH (fun W => (show Calls Tryd.prog 50 #[.int .i64 (p.s), .int .i64 1, .int .i64 (x.sent.length : Int)] W (fun e w' => e = .returned (.bool false) ∧ W = w') from by rw [← d1]; exact l6In_any _ _ _ W))
   have a3 := fun U : GW W0 => GW.cell a3 U
   have a4 := fun U : GW W0 => GW.cell a4 U
   have p0 := fun U : GW W0 => GW.cell p0 U
   have p1 := fun U : GW W0 => GW.cell p1 U
   have p2 := fun U : GW W0 => GW.cell p2 U
   have p3 := fun U : GW W0 => GW.cell p3 U
   have p4 := fun U : GW W0 => GW.cell p4 U
   have p5 := fun U : GW W0 => GW.cell p5 U
   have p6 := fun U : GW W0 => GW.cell p6 U
   refine wp_region_grow (by kernel_rfl) (by kernel_rfl) ?_
   repeat (go_big_quiet_step ((go_at_call 50; exact Calls.grow _ ((HIN.out _).mono fun _ _ h => same_keep h))))
   refine wpQuiet_nil ?_; rintro _ ⟨U1, rfl⟩; have HK1 := hH (HK0.out.trans U1.keep); go_wp2; go_ret; exact ⟨by simp [HB.out], HK1.out⟩

theorem hasB_bad {x : StL} {p : Pk} (h : stB x = false) : hasB x p = false := by simp [hasB, h]
theorem hasB_ok {x : StL} {p : Pk} (h : stB x = true) : hasB x p = l3B x p := by simp [hasB, l3B, h]
theorem specHas_any (x : StL) (A1 A2 A3 A4 : Option Addr) (c1 c2 c3 c4 : Nat) (p : Pk) (w : World) (hx : StAt w x A1 A2 A3 A4) :
  Calls Tryd.prog 17 #[stV x A1 A2 A3 A4 c1 c2 c3 c4, p.val] w fun e w' => e = .returned (.bool (hasB x p)) ∧ Keeps noBlk w w' := by
 have HK0 := hH (((Keeps.refl noBlk w).alloc (.cells (stC x A1 A2 A3 A4 c1 c2 c3 c4) 27)).alloc (.cells (pkC p) 29)); have HX := hH (hx.kept HK0.out); have HS0 := hH ((Box.new w _ rfl 27 (stC x A1 A2 A3 A4 c1 c2 c3 c4)).alloc (.cells (pkC p) 29)); have HP0 := hH (Box.new (w.alloc (.cells (stC x A1 A2 A3 A4 c1 c2 c3 c4) 27)) (w.heap.size + 1) (by simp) 29 (pkC p)); have HSP := hH (specSt_any x A1 A2 A3 A4 c1 c2 c3 c4 _ HX.out); have N1 := hH (@hasB_bad x p); have N2 := hH (@hasB_ok x p); have N5 := hH (@stB_ok x); have HL3 := hH (fun W h hl => l3Has_any x A1 A2 A3 A4 c1 c2 c3 c4 p W h hl); generalize stB x = o at HSP N1 N2 N5; clear hx; unfold stV at HSP HL3 ⊢; unfold Pk.val at HL3 ⊢
 go_enter Tryd.func17, Tryd.ntmps17
 go_wp2_with fail; refine HSP.out.mono ?_; rintro e w1 ⟨rfl, hk1⟩
 have hs := HS0.out.keeps hk1 fun h => h
 have hp := HP0.out.keeps hk1 fun h => h
 have a0 := hs.cell 0; have p0 := hp.cell 0; have a1 := hs.cell 1; have p1 := hp.cell 1; have a2 := hs.cell 2; have p2 := hp.cell 2; have a3 := hs.cell 3; have p3 := hp.cell 3; have a4 := hs.cell 4; have p4 := hp.cell 4; have a5 := hs.cell 5; have p5 := hp.cell 5; have a6 := hs.cell 6; have p6 := hp.cell 6; simp at a0 a1 a2 a3 a4 a5 a6 p0 p1 p2 p3 p4 p5 p6; have HK1 := hH (HK0.out.trans hk1); have HX1 := hH (HX.out.kept hk1); clear hs hp hk1
 cases o with
 | false =>
  have HE := hH (N1.out rfl); go_wp2; go_ret; exact ⟨by simp [HE.out], HK1.out⟩
 | true =>
  have HE := hH (N2.out rfl); have HLL := hH (N5.out rfl).2.2.1.1; go_wp2_with fail; refine (HL3.out _ HX1.out HLL.out).mono ?_; rintro e w2 ⟨rfl, hk2⟩; have HK2 := hH (HK1.out.trans hk2); clear hk2; generalize l3B x p = o at HE; go_wp2; go_ret; exact ⟨by simp [HE.out], HK2.out⟩
end Go.Proofs.YtjcbeihoeanhaaaDoor
