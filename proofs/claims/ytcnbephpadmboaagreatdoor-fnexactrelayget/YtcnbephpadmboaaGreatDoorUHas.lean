/- fateAt of the program; StateSettled of the program and of the model. StateHas of the program and of the model. -/
import Derived.Test.YtcnbephpadmboaaGreatDoorUFat
set_option linter.unusedVariables false
set_option linter.unusedSimpArgs false
/-! SSet -/
namespace Go.Proofs.YtcnbephpadmboaaGreatDoor
open Go.RowKit

theorem ownsRow_shape {w : World} {base n : Nat} {e : TypeId} {v : Value} {xs : List Value} (h : w.ownsRow base e 1 v n xs) :
    ∃ A cap, v = .slice A n cap ∧ (0 < n → ∃ g, A = some ⟨g, 0, none⟩ ∧ ∀ (j : Nat) u, xs[j]? = some u → w.cell? ⟨g, j, none⟩ = some u) := by
  rcases h.2 with ⟨h0, hn⟩ | ⟨g, cap, cur, hv, _⟩
  · subst h0
    obtain rfl : n = 0 := by
      have h1 := h.1
      simp_all
    exact ⟨none, 0, rfl, fun h => absurd h (by omega)⟩
  · subst hv
    refine ⟨some ⟨g, 0, none⟩, cap, rfl, fun _ => ⟨g, rfl, fun j u hj => ?_⟩⟩
    have h9 := h.cells (g := g) rfl j u hj
    by_cases h0 : j = 0
    · subst h0; simpa [Addr.add] using h9
    · simpa [Addr.add, h0] using h9
/-- The fate of packet number q, nil where there is none. -/
def fvN (x : StL) (q : Int) : Value := if stB x = true ∧ 1 ≤ q ∧ q ≤ x.sent.length then fateAtL x (q - 1).toNat else .nilIface
theorem fvN_bad {x : StL} {q : Int} (h : stB x = false) : fvN x q = .nilIface := by simp [fvN, h]
theorem fvN_lo {x : StL} {q : Int} (h : q < 1) : fvN x q = .nilIface := by unfold fvN; rw [if_neg (by omega)]
theorem fvN_hi {x : StL} {q : Int} (h : (x.sent.length : Int) < q) : fvN x q = .nilIface := by unfold fvN; rw [if_neg (by omega)]
theorem fvN_at {x : StL} {k : Nat} (h : stB x = true) (h2 : k < x.sent.length) : fvN x ((k : Int) + 1) = fateAtL x k := by
  unfold fvN
  rw [if_pos ⟨h, by omega, by omega⟩]
  congr 1
  omega
def setN (x : StL) (q : Int) : Int := if stB x = true ∧ 1 ≤ q ∧ q ≤ x.sent.length then setOf (x.live.getD (q - 1).toNat false) (x.back.getD (q - 1).toNat false) else 0
set_option maxHeartbeats 1000000 in
theorem fateAt_any (x : StL) (A1 A2 A3 A4 : Option Addr) (c1 c2 c3 c4 : Nat) (q : Int) (w : World) (hx : StAt w x A1 A2 A3 A4) (ht : Tabs w) :
    Calls Tryz.prog 105 #[stV x A1 A2 A3 A4 c1 c2 c3 c4, .int .i64 q] w fun e w' => e = .returned (fvN x q) ∧ Keeps noBlk w w' := by
  have HX := Lib.hid hx
  have HT := Lib.hid ht
  have h63 := hx.2.1
  unfold maxLen at h63
  clear hx ht
  have HK0 := Lib.hid ((Keeps.refl noBlk w).alloc (.cells #[.int .i64 x.way, .int .i64 x.ver, .int .i64 x.want, .slice A1 x.sent.length c1, .slice A2 x.live.length c2, .slice A3 x.back.length c3, .slice A4 x.got.length c4] 39))
  rcases Bool.eq_false_or_eq_true (stB x) with ho | ho
  · have HFO := Lib.hid (fatesOf_ok x A1 A2 A3 A4 c1 c2 c3 c4 _ (HX.out.kept HK0.out) (HT.out.keeps HK0.out) ho)
    have N4 := Lib.hid (fun k => @fvN_at x k ho)
    have N2 := Lib.hid (@fvN_lo x q)
    have N3 := Lib.hid (@fvN_hi x q)
    clear ho
    unfold stV at HFO ⊢
    go_enter Tryz.func105, Tryz.ntmps105
    go_wp2_with fail
    refine HFO.out.mono ?_
    rintro e w1 ⟨v, base, rfl, hbase, hown, hk1⟩
    have HK1 := Lib.hid (HK0.out.trans hk1)
    obtain ⟨A, cap, rfl, hsh⟩ := ownsRow_shape hown
    have HSH := Lib.hid hsh
    clear hbase hown hk1 hsh
    by_cases h1 : q < 1
    · have HE := Lib.hid (N2.out h1)
      go_wp2
      go_ret
      exact ⟨by simp [HE.out], HK1.out⟩
    · by_cases h2 : q ≤ x.sent.length
      · obtain ⟨k, hk⟩ : ∃ k : Nat, q = (k : Int) + 1 := ⟨(q - 1).toNat, by omega⟩
        subst hk
        have hlt : k < x.sent.length := by omega
        have HE := Lib.hid (N4.out k hlt)
        obtain ⟨g, rfl, hc⟩ := HSH.out (by omega)
        have d := hc k _ (fatesL_at x _ k hlt)
        generalize fateAtL x k = F at HE d
        clear hc N2 N3 N4
        go_wp2
        go_ret
        exact ⟨by simp [HE.out], HK1.out⟩
      · have HE := Lib.hid (N3.out (by omega))
        go_wp2
        go_ret
        exact ⟨by simp [HE.out], HK1.out⟩
  · have HFO := Lib.hid (fatesOf_bad x A1 A2 A3 A4 c1 c2 c3 c4 _ (HX.out.kept HK0.out) (HT.out.keeps HK0.out) ho)
    have HE := Lib.hid (@fvN_bad x q ho)
    clear ho
    unfold stV at HFO ⊢
    go_enter Tryz.func105, Tryz.ntmps105
    go_wp2_with fail
    refine HFO.out.mono ?_
    rintro e w1 ⟨rfl, hk1⟩
    have HK1 := Lib.hid (HK0.out.trans hk1)
    clear hk1
    by_cases h1 : q < 1
    · go_wp2
      go_ret
      exact ⟨by simp [HE.out], HK1.out⟩
    · have h2 : (0 : Int) < q := by omega
      go_wp2
      go_ret
      exact ⟨by simp [HE.out], HK1.out⟩

theorem setFv (x : StL) (q : Int) (W : World) : Calls Tryz.prog 106 #[fvN x q] W fun e w' => e = .returned (.int .i64 (setN x q)) ∧ W = w' := by
  unfold fvN setN
  split
  · exact settledNumber_any _ _ _ _
  · exact settled_nil _
end Go.Proofs.YtcnbephpadmboaaGreatDoor

/-! SHas -/
namespace Go.Proofs.YtcnbephpadmboaaGreatDoor
open Go.RowKit

def hasB (x : StL) (p : Pk) : Bool := decide (stB x = true ∧ 1 ≤ p.s ∧ p.s ≤ x.sent.length ∧ x.sent.getD (p.s - 1).toNat pk0 = p ∧ x.live.getD (p.s - 1).toNat false = true)
set_option maxHeartbeats 1000000 in
theorem packet_live (p : Pk) (w : World) : Calls Tryz.prog 161 #[p.val] w fun e w' => e = .returned p.val ∧ Keeps noBlk w w' := by
  unfold Pk.val
  go_enter Tryz.func161, Tryz.ntmps161
  go_wp2
  refine bodyPost_ret (v := .agg #[.int .i64 p.s, .int .i64 p.k, .int .i64 p.f, .int .i64 p.t, .int .i64 p.m, .int .i64 p.u, .int .i64 p.v]) (by simp [results, Tryz.results161, go_sem]) rfl ⟨rfl, ?_⟩
  repeat (first | exact Keeps.refl _ _ | refine Keeps.alloc ?_ _ | refine Keeps.setCell ?_ (.inl (by simp)) _)
theorem meth_live (v : Value) (w : World) : (Go.method 280 151 v "loop.example/hawser/impl.packet").run Tryz.prog w = .ok (161, v) w := by kernel_rfl
attribute [local go_sem] meth_live
theorem held_pk : Tryz.prog.stoodInHeld 47 = false := by kernel_rfl
theorem fields_pk : Tryz.prog.underlying 47 = some (.struct (Tryz.prog.fieldsOf 47)) := by
  simp only [Program.fieldsOf, Tryz.underlying47 ]
set_option maxRecDepth 100000 in
theorem pk_eql (p q : Pk) (w : World) : (binOp .eql 47 p.val q.val).run Tryz.prog w = .ok (.bool (decide (p = q))) w := by
  obtain ⟨a0, a1, a2, a3, a4, a5, a6⟩ := p
  obtain ⟨b0, b1, b2, b3, b4, b5, b6⟩ := q
  unfold Pk.val
  rw [run_eql_struct, show (10000 : Nat) = 9999 + 1 from rfl, run_equalIn_struct w 9999 47 _ _ fields_pk held_pk]
  simp only [Program.fieldsOf, Tryz.underlying47, Pk.mk.injEq]
  by_cases h0 : a0 = b0
  · by_cases h1 : a1 = b1
    · by_cases h2 : a2 = b2
      · by_cases h3 : a3 = b3
        · by_cases h4 : a4 = b4
          · by_cases h5 : a5 = b5
            · by_cases h6 : a6 = b6
              · simp [Op.eqFields, go_sem, h0, h1, h2, h3, h4, h5, h6]
              · simp [Op.eqFields, go_sem, h0, h1, h2, h3, h4, h5, h6]
            · simp [Op.eqFields, go_sem, h0, h1, h2, h3, h4, h5]
          · simp [Op.eqFields, go_sem, h0, h1, h2, h3, h4]
        · simp [Op.eqFields, go_sem, h0, h1, h2, h3]
      · simp [Op.eqFields, go_sem, h0, h1, h2]
    · simp [Op.eqFields, go_sem, h0, h1]
  · simp [Op.eqFields, go_sem, h0]
theorem setN_one {x : StL} {q : Int} (h : setN x q = 1) : stB x = true ∧ 1 ≤ q ∧ q ≤ x.sent.length ∧ x.live.getD (q - 1).toNat false = true := by
  unfold setN at h
  split at h
  · next hc =>
    refine ⟨hc.1, hc.2.1, hc.2.2, ?_⟩
    revert h
    cases x.live.getD (q - 1).toNat false <;> cases x.back.getD (q - 1).toNat false <;> simp [setOf]
  · cases h
theorem has_live {x : StL} {p : Pk} (h : setN x p.s = 1) : fvN x p.s = .iface 151 (x.sent.getD (p.s - 1).toNat pk0).val ∧ hasB x p = decide (x.sent.getD (p.s - 1).toNat pk0 = p) := by
  obtain ⟨h1, h2, h3, h4⟩ := setN_one h
  constructor
  · unfold fvN fateAtL fateV
    rw [if_pos ⟨h1, h2, h3⟩, h4]
    rfl
  · unfold hasB
    simp only [decide_eq_decide]
    exact ⟨fun h => h.2.2.2.1, fun h => ⟨h1, h2, h3, h, h4⟩⟩
theorem has_not {x : StL} {p : Pk} (h : setN x p.s ≠ 1) : hasB x p = false := by
  simp only [hasB, decide_eq_false_iff_not]
  intro hc
  apply h
  unfold setN
  rw [if_pos ⟨hc.1, hc.2.1, hc.2.2.1⟩, hc.2.2.2.2]
  rfl
theorem same_keep {w w' : World} {e : Ending} {v : Value} (h : e = .returned v ∧ w = w') : e = .returned v ∧ Keeps noBlk w w' := ⟨h.1, by obtain ⟨_, rfl⟩ := h; exact Keeps.refl _ _⟩

set_option maxRecDepth 100000 in
set_option maxHeartbeats 1000000 in
theorem implHas_any (x : StL) (A1 A2 A3 A4 : Option Addr) (c1 c2 c3 c4 : Nat) (p : Pk) (w : World) (hx : StAt w x A1 A2 A3 A4) (ht : Tabs w) :
    Calls Tryz.prog 79 #[stV x A1 A2 A3 A4 c1 c2 c3 c4, p.val] w fun e w' => e = .returned (.bool (hasB x p)) ∧ Keeps noBlk w w' := by
  have HK0 := Lib.hid (((Keeps.refl noBlk w).alloc (.cells #[.int .i64 x.way, .int .i64 x.ver, .int .i64 x.want, .slice A1 x.sent.length c1, .slice A2 x.live.length c2, .slice A3 x.back.length c3, .slice A4 x.got.length c4] 39)).alloc (.cells #[.int .i64 p.s, .int .i64 p.k, .int .i64 p.f, .int .i64 p.t, .int .i64 p.m, .int .i64 p.u, .int .i64 p.v] 47))
  have HFA := Lib.hid (fateAt_any x A1 A2 A3 A4 c1 c2 c3 c4 p.s _ (hx.kept HK0.out) (ht.keeps HK0.out))
  have HP0 := Lib.hid (Box.new (w.alloc (.cells #[.int .i64 x.way, .int .i64 x.ver, .int .i64 x.want, .slice A1 x.sent.length c1, .slice A2 x.live.length c2, .slice A3 x.back.length c3, .slice A4 x.got.length c4] 39)) (w.heap.size + 1) (by simp) 47 #[.int .i64 p.s, .int .i64 p.k, .int .i64 p.f, .int .i64 p.t, .int .i64 p.m, .int .i64 p.u, .int .i64 p.v])
  have HSN := Lib.hid (fun W => setFv x p.s W)
  clear hx ht
  unfold stV at HFA ⊢
  unfold Pk.val
  go_enter Tryz.func79, Tryz.ntmps79
  go_wp2_with fail
  refine HFA.out.mono ?_
  rintro e w1 ⟨rfl, hk1⟩
  have hb := HP0.out.keeps hk1 fun h => h
  have p0 := hb.cell 0
  have p1 := hb.cell 1
  have p2 := hb.cell 2
  have p3 := hb.cell 3
  have p4 := hb.cell 4
  have p5 := hb.cell 5
  have p6 := hb.cell 6
  simp at p0 p1 p2 p3 p4 p5 p6
  have HK1 := Lib.hid (HK0.out.trans hk1)
  clear hb hk1
  have HL := Lib.hid (@has_live x p)
  have HN := Lib.hid (@has_not x p)
  have p0 := fun U : GW w1 => GW.cell p0 U
  have p1 := fun U : GW w1 => GW.cell p1 U
  have p2 := fun U : GW w1 => GW.cell p2 U
  have p3 := fun U : GW w1 => GW.cell p3 U
  have p4 := fun U : GW w1 => GW.cell p4 U
  have p5 := fun U : GW w1 => GW.cell p5 U
  have p6 := fun U : GW w1 => GW.cell p6 U
  by_cases hn1 : setN x p.s = 1
  · obtain ⟨hF, hB⟩ := HL.out hn1
    generalize x.sent.getD (p.s - 1).toNat pk0 = q at hF hB
    have HBB := Lib.hid hB
    rw [hF]
    clear hF hB hn1 HL HN HSN
    have HPL := Lib.hid (fun W => packet_live q W)
    have heq := fun W => pk_eql q p W
    generalize decide (q = p) = o at heq HBB
    unfold Pk.val at HPL heq ⊢
    go_wp2_with fail
    refine wp_region_grow (by kernel_rfl) (by kernel_rfl) ?_
    repeat (go_big_quiet_step (first | (go_at_call 106; exact Calls.grow _ ((settled_live _ _).mono fun _ _ h => same_keep h)) | (go_at_call 161; exact Calls.grow _ (HPL.out _))))
    refine wpQuiet_nil ?_
    rintro _ ⟨U1, rfl⟩
    have HK2 := Lib.hid (HK1.out.trans U1.keep)
    go_wp2
    go_ret
    exact ⟨by simp [HBB.out], HK2.out⟩
  · have HB := Lib.hid (HN.out hn1)
    generalize fvN x p.s = F at HSN ⊢
    generalize setN x p.s = n at HSN hn1
    have hnd : (n == 1) = false := by simpa using hn1
    clear HL HN hn1
    go_wp2_with fail
    refine wp_region_grow (by kernel_rfl) (by kernel_rfl) ?_
    repeat (go_big_quiet_step ((go_at_call 106; exact Calls.grow _ ((HSN.out _).mono fun _ _ h => same_keep h))))
    refine wpQuiet_nil ?_
    rintro _ ⟨U1, rfl⟩
    have HK2 := Lib.hid (HK1.out.trans U1.keep)
    go_wp2
    go_ret
    exact ⟨by simp [HB.out], HK2.out⟩

def l3B (x : StL) (p : Pk) : Bool := decide (1 ≤ p.s ∧ p.s ≤ x.sent.length ∧ x.sent.getD (p.s - 1).toNat pk0 = p ∧ x.live.getD (p.s - 1).toNat false = true)
theorem l3B_lo {x : StL} {p : Pk} (h : p.s < 1) : l3B x p = false := by simp only [l3B, decide_eq_false_iff_not]; omega
theorem l3B_hi {x : StL} {p : Pk} (h : (x.sent.length : Int) < p.s) : l3B x p = false := by simp only [l3B, decide_eq_false_iff_not]; omega
theorem l3B_at {x : StL} {p : Pk} {k : Nat} (hk : p.s = (k : Int) + 1) (h : k < x.sent.length) : l3B x p = (decide (x.sent.getD k pk0 = p) && x.live.getD k false) := by
  unfold l3B
  have : (p.s - 1).toNat = k := by omega
  rw [this]
  cases hl : x.live.getD k false with
  | false => simp
  | true =>
    simp only [Bool.and_true, decide_eq_decide]
    exact ⟨fun h => h.2.2.1, fun h => ⟨by omega, by omega, h, trivial⟩⟩
set_option maxRecDepth 100000 in
set_option maxHeartbeats 1000000 in
theorem l3Has_any (x : StL) (A1 A2 A3 A4 : Option Addr) (c1 c2 c3 c4 : Nat) (p : Pk) (w : World) (hx : StAt w x A1 A2 A3 A4) (hl : x.live.length = x.sent.length) :
    Calls Tryz.prog 72 #[stV x A1 A2 A3 A4 c1 c2 c3 c4, p.val] w fun e w' => e = .returned (.bool (l3B x p)) ∧ Keeps noBlk w w' := by
  have h63 := hx.2.1
  unfold maxLen at h63
  have HK0 := Lib.hid (((Keeps.refl noBlk w).alloc (.cells #[.int .i64 x.way, .int .i64 x.ver, .int .i64 x.want, .slice A1 x.sent.length c1, .slice A2 x.live.length c2, .slice A3 x.back.length c3, .slice A4 x.got.length c4] 39)).alloc (.cells #[.int .i64 p.s, .int .i64 p.k, .int .i64 p.f, .int .i64 p.t, .int .i64 p.m, .int .i64 p.u, .int .i64 p.v] 47))
  have HX := Lib.hid (hx.kept HK0.out)
  have HS0 := Lib.hid ((Box.new w _ rfl 39 #[.int .i64 x.way, .int .i64 x.ver, .int .i64 x.want, .slice A1 x.sent.length c1, .slice A2 x.live.length c2, .slice A3 x.back.length c3, .slice A4 x.got.length c4]).alloc (.cells #[.int .i64 p.s, .int .i64 p.k, .int .i64 p.f, .int .i64 p.t, .int .i64 p.m, .int .i64 p.u, .int .i64 p.v] 47))
  have HP0 := Lib.hid (Box.new (w.alloc (.cells #[.int .i64 x.way, .int .i64 x.ver, .int .i64 x.want, .slice A1 x.sent.length c1, .slice A2 x.live.length c2, .slice A3 x.back.length c3, .slice A4 x.got.length c4] 39)) (w.heap.size + 1) (by simp) 47 #[.int .i64 p.s, .int .i64 p.k, .int .i64 p.f, .int .i64 p.t, .int .i64 p.m, .int .i64 p.u, .int .i64 p.v])
  have N1 := Lib.hid (@l3B_lo x p)
  have N2 := Lib.hid (@l3B_hi x p)
  have N3 := Lib.hid (fun k => @l3B_at x p k)
  have HL := Lib.hid hl
  clear hx hl
  unfold stV
  have heq := Lib.hid (fun q W => pk_eql q p W)
  unfold Pk.val at heq ⊢
  go_enter Tryz.func72, Tryz.ntmps72
  go_wp2_with fail
  generalize ((w.alloc (.cells #[.int .i64 x.way, .int .i64 x.ver, .int .i64 x.want, .slice A1 x.sent.length c1, .slice A2 x.live.length c2, .slice A3 x.back.length c3, .slice A4 x.got.length c4] 39)).alloc (.cells #[.int .i64 p.s, .int .i64 p.k, .int .i64 p.f, .int .i64 p.t, .int .i64 p.m, .int .i64 p.u, .int .i64 p.v] 47)) = W0 at HK0 HX HS0 HP0
  have a3 := HS0.out.cell 3
  have a4 := HS0.out.cell 4
  have p0 := HP0.out.cell 0
  have p1 := HP0.out.cell 1
  have p2 := HP0.out.cell 2
  have p3 := HP0.out.cell 3
  have p4 := HP0.out.cell 4
  have p5 := HP0.out.cell 5
  have p6 := HP0.out.cell 6
  simp at a3 a4 p0 p1 p2 p3 p4 p5 p6
  by_cases h1 : p.s < 1
  · have HB := Lib.hid (N1.out h1)
    have d1 := in2_lo (hi := (x.sent.length : Int)) h1
    have HIN := Lib.hid (fun W => (show Calls Tryz.prog 64 #[.int .i64 (p.s), .int .i64 1, .int .i64 (x.sent.length : Int)] W (fun e w' => e = .returned (.bool false) ∧ W = w') from by rw [← d1]; exact l6In_any _ _ _ W))
    have a3 := fun U : GW W0 => GW.cell a3 U
    have a4 := fun U : GW W0 => GW.cell a4 U
    have p0 := fun U : GW W0 => GW.cell p0 U
    have p1 := fun U : GW W0 => GW.cell p1 U
    have p2 := fun U : GW W0 => GW.cell p2 U
    have p3 := fun U : GW W0 => GW.cell p3 U
    have p4 := fun U : GW W0 => GW.cell p4 U
    have p5 := fun U : GW W0 => GW.cell p5 U
    have p6 := fun U : GW W0 => GW.cell p6 U
    refine wp_region_grow (by kernel_rfl) (by kernel_rfl) ?_
    repeat (go_big_quiet_step ((go_at_call 64; exact Calls.grow _ ((HIN.out _).mono fun _ _ h => same_keep h))))
    refine wpQuiet_nil ?_
    rintro _ ⟨U1, rfl⟩
    have HK1 := Lib.hid (HK0.out.trans U1.keep)
    go_wp2
    go_ret
    exact ⟨by simp [HB.out], HK1.out⟩
  · by_cases h2 : p.s ≤ x.sent.length
    · have d1 := in2_yes (show 1 ≤ p.s by omega) h2
      obtain ⟨k, hk⟩ : ∃ k : Nat, p.s = (k : Int) + 1 := ⟨(p.s - 1).toNat, by omega⟩
      have hlt : k < x.sent.length := by omega
      have hlt2 : k < x.live.length := by rw [HL.out]; exact hlt
      have HE := Lib.hid (N3.out k hk hlt)
      obtain ⟨b, off, rfl, _, q0, q1, q2, q3, q4, q5, q6⟩ := HX.out.1.1.at_ hlt
      obtain ⟨b2, off2, rfl, _, d2⟩ := HX.out.1.2.1.at_ hlt2
      have heq := heq.out (x.sent.getD k pk0)
      generalize x.sent.getD k pk0 = q at HE q0 q1 q2 q3 q4 q5 q6 heq
      generalize x.live.getD k false = lv at HE d2
      generalize decide (q = p) = o at HE heq
      have a3 := fun U : GW W0 => GW.cell a3 U
      have a4 := fun U : GW W0 => GW.cell a4 U
      have d2 := fun U : GW W0 => GW.cell d2 U
      have p0 := fun U : GW W0 => GW.cell p0 U
      have p1 := fun U : GW W0 => GW.cell p1 U
      have p2 := fun U : GW W0 => GW.cell p2 U
      have p3 := fun U : GW W0 => GW.cell p3 U
      have p4 := fun U : GW W0 => GW.cell p4 U
      have p5 := fun U : GW W0 => GW.cell p5 U
      have p6 := fun U : GW W0 => GW.cell p6 U
      have q0 := fun U : GW W0 => GW.cell q0 U
      have q1 := fun U : GW W0 => GW.cell q1 U
      have q2 := fun U : GW W0 => GW.cell q2 U
      have q3 := fun U : GW W0 => GW.cell q3 U
      have q4 := fun U : GW W0 => GW.cell q4 U
      have q5 := fun U : GW W0 => GW.cell q5 U
      have q6 := fun U : GW W0 => GW.cell q6 U
      rw [hk] at p0 d1 ⊢
      have HIN := Lib.hid (fun W => (show Calls Tryz.prog 64 #[.int .i64 ((k : Int) + 1), .int .i64 1, .int .i64 (x.sent.length : Int)] W (fun e w' => e = .returned (.bool true) ∧ W = w') from by rw [← d1]; exact l6In_any _ _ _ W))
      rw [hk] at heq
      clear N1 N2 N3 h1 h2 hk
      cases o with
      | false =>
        refine wp_region_grow (by kernel_rfl) (by kernel_rfl) ?_
        repeat (go_big_quiet_step ((go_at_call 64; exact Calls.grow _ ((HIN.out _).mono fun _ _ h => same_keep h))))
        refine wpQuiet_nil ?_
        rintro _ ⟨U1, rfl⟩
        have HK1 := Lib.hid (HK0.out.trans U1.keep)
        go_wp2
        go_ret
        exact ⟨by simp [HE.out], HK1.out⟩
      | true =>
        refine wp_region_grow (by kernel_rfl) (by kernel_rfl) ?_
        repeat (go_big_quiet_step ((go_at_call 64; exact Calls.grow _ ((HIN.out _).mono fun _ _ h => same_keep h))))
        refine wpQuiet_nil ?_
        rintro _ ⟨U1, rfl⟩
        have HK1 := Lib.hid (HK0.out.trans U1.keep)
        go_wp2
        go_ret
        exact ⟨by simp [HE.out], HK1.out⟩
    · have HB := Lib.hid (N2.out (by omega))
      have d1 := in2_hi (lo := 1) (Int.not_le.1 h2)
      have HIN := Lib.hid (fun W => (show Calls Tryz.prog 64 #[.int .i64 (p.s), .int .i64 1, .int .i64 (x.sent.length : Int)] W (fun e w' => e = .returned (.bool false) ∧ W = w') from by rw [← d1]; exact l6In_any _ _ _ W))
      have a3 := fun U : GW W0 => GW.cell a3 U
      have a4 := fun U : GW W0 => GW.cell a4 U
      have p0 := fun U : GW W0 => GW.cell p0 U
      have p1 := fun U : GW W0 => GW.cell p1 U
      have p2 := fun U : GW W0 => GW.cell p2 U
      have p3 := fun U : GW W0 => GW.cell p3 U
      have p4 := fun U : GW W0 => GW.cell p4 U
      have p5 := fun U : GW W0 => GW.cell p5 U
      have p6 := fun U : GW W0 => GW.cell p6 U
      refine wp_region_grow (by kernel_rfl) (by kernel_rfl) ?_
      repeat (go_big_quiet_step ((go_at_call 64; exact Calls.grow _ ((HIN.out _).mono fun _ _ h => same_keep h))))
      refine wpQuiet_nil ?_
      rintro _ ⟨U1, rfl⟩
      have HK1 := Lib.hid (HK0.out.trans U1.keep)
      go_wp2
      go_ret
      exact ⟨by simp [HB.out], HK1.out⟩

theorem hasB_ok {x : StL} {p : Pk} (h : stB x = true) : hasB x p = l3B x p := by simp [hasB, l3B, h]
end Go.Proofs.YtcnbephpadmboaaGreatDoor
