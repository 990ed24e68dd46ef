/- FnStateForm: a state wants the next version just while it makes the way new, whatever is drawn. FnStateForm: a state wants the next version just while it makes the way new, whatever is drawn. The tables read as the program's text lays them. -/
import Derived.Test.YtjcbeihoeanhaaaDoorPlU5
import Derived.Test.YtjcbeihoeanhaaaDoorUSte
set_option linter.unusedVariables false
set_option linter.unusedSimpArgs false
/-! LStateFormW -/
set_option maxHeartbeats 8000000
set_option maxRecDepth 100000
namespace Go.Proofs.YtjcbeihoeanhaaaDoor
open Go.RowKit Go.ChangeShapes Go.WideShapes Go.ChangeAt Go.Joins
theorem stB_want10 {x : StL} (h : stB x = true) : stB { x with want := 10 } = false := by
 unfold stB
 refine decide_eq_false fun h9 => ?_
 have h1 := h9.1.2.2
 dsimp only at h1
 by_cases hw : x.way = 4
 ·have := h1.1 hw; omega
 ·have := h1.2 hw; omega
theorem walk_lstform (w : World) (ht : Tabs w) (a0 : Option Addr) (len0 cap0 : Nat) (z0 : List Int) (h : Bytes w a0 len0 z0) (e0 : len0 ≤ cap0) (f0 : cap0 ≤ maxLen) :
  Calls Tryd.prog 7 #[.slice a0 len0 cap0] w fun e w' => e = .returned (.bool true) ∧ Below w.heap.size w w' := by
 have HT := hH ht
 have HD := hH (drawStOk_any a0 len0 cap0 z0 w h e0 f0)
 clear h ht e0 f0
 by_cases hs : (len0 : Int) ≤ 1048576
 case neg =>
  go_enter Tryd.func7, Tryd.ntmps7
  go_wp2
  go_ret
  exact ⟨rfl, Below.refl _ _⟩
 go_enter Tryd.func7, Tryd.ntmps7
 go_wp2_with fail
 refine HD.out.mono ?_
 rintro e w1 ⟨s, rfl, hat, hk1⟩
 have HA := hH hat
 have HK := hH hk1
 have sz1 := hk1.size
 clear hat hk1 HD
 dsimp only [StM.val]
 replace HA := hH ((HA.out).kept ((Keeps.refl noBlk w1).alloc (.cells (smC s) 27)))
 replace HK := hH (HK.out.alloc (.cells (smC s) 27))
 have HBs := hH (Box.new w1 _ rfl 27 (smC s))
 go_wp2_with fail
 refine (implSt_any s.x s.A1 s.A2 s.A3 s.A4 s.c1 s.c2 s.c3 s.c4 _ HA.out (HT.out.keeps HK.out)).mono ?_
 rintro e w2 ⟨rfl, hk2⟩
 replace HBs := hH (HBs.out.keeps hk2 (fun h => h))
 replace HA := hH ((HA.out).kept hk2)
 replace HK := hH (HK.out.trans hk2)
 have sz2 := hk2.size
 (try simp at sz2)
 clear hk2
 have hb := HBs.out
 obtain ⟨s0, s1, s2, s3, s4, s5, s6⟩ := hb.cells7
 have zs := hb.lt
 clear hb
 rcases Bool.eq_false_or_eq_true (stB s.x) with ho | ho
 ·skip
  go_wp2_with fail
  refine (specSt_any s.x s.A1 s.A2 s.A3 s.A4 s.c1 s.c2 s.c3 s.c4 _ HA.out).mono ?_
  rintro e w3 ⟨rfl, hk3⟩
  clear s0 s1 s2 s3 s4 s5 s6 zs
  replace HBs := hH (HBs.out.keeps hk3 (fun h => h))
  replace HA := hH ((HA.out).kept hk3)
  replace HK := hH (HK.out.trans hk3)
  have sz3 := hk3.size
  (try simp at sz3)
  clear hk3
  have hb := HBs.out
  obtain ⟨s0, s1, s2, s3, s4, s5, s6⟩ := hb.cells7
  have zs := hb.lt
  clear hb
  go_wp2
  have HO := hH ho
  clear ho
  clear s0 s1 s2 s3 s4 s5 s6 zs
  have h8 : s.x.sent.length ≤ 8 := (stB_ok HO.out).2.1.small
  go_loopg [5] (s.x.sent.length) (fun gk ii wr => ∃ i : Nat, i + gk = s.x.sent.length ∧ ii = .int .i64 i ∧ StAt wr s.x s.A1 s.A2 s.A3 s.A4 ∧ Box wr (w1.heap.size) 27 (smC s) ∧ Keeps noBlk w wr)
  case atStart => exact ⟨0, by omega, rfl, HA.out, HBs.out, HK.out⟩
  case round =>
   clear HA HBs HK
   obtain ⟨i, hig, rfl, ha, hb, hk⟩ := hrel
   have HA := hH ha
   have HBs := hH hb
   have HK := hH hk
   clear ha hb hk
   by_cases hlt : i < s.x.sent.length
   ·have hli : (i : Int) < (s.x.sent.length : Int) := by omega
    have hi8 : (i : Int) < 8 := by omega
    have hw1 : IntKind.i64.wrap ((i : Int) + 1) = (i : Int) + 1 := IntWalk.i64_in _ (by omega)
    obtain ⟨b, off, eA, hb, d0, d1, d2, d3, d4, d5, d6⟩ := HA.out.1.1.at_ hlt
    have hfa := (stB_ok HO.out).2.2.1
    have hll : s.x.live.length = s.x.sent.length := hfa.1
    have hbl : s.x.back.length = s.x.sent.length := hfa.2.1
    have hlb := hfa.2.2 i hlt
    have hpk := (stB_ok HO.out).2.1 i hlt
    obtain ⟨b2, off2, eL, hb2, dl⟩ := HA.out.1.2.1.at_ (show i < s.x.live.length by omega)
    obtain ⟨b3, off3, eB, hb3, db⟩ := HA.out.1.2.2.1.at_ (show i < s.x.back.length by omega)
    have hl2 : (i : Int) < (s.x.live.length : Int) := by omega
    have hl3 : (i : Int) < (s.x.back.length : Int) := by omega
    generalize s.x.sent.getD i pk0 = pp at d0 d1 d2 d3 d4 d5 d6 hpk
    generalize s.x.live.getD i false = lv at dl hlb
    generalize s.x.back.getD i false = bv at db hlb
    obtain ⟨hpo, hps, hpv⟩ := hpk
    have hdv : decide (s.x.ver < pp.v) = false := decide_eq_false (by omega)
    have hdw : ¬ s.x.ver < pp.v := by omega
    rw [hps] at d0
    have hpo' : pkB ((i : Int) + 1) pp.k pp.f pp.t pp.m pp.u pp.v = true := by rw [← hps]; exact hpo
    have FP := hH (fun W (hT : Tabs W) => (show Calls Tryd.prog 32 #[.agg #[.int .i64 ((i : Int) + 1), .int .i64 pp.k, .int .i64 pp.f, .int .i64 pp.t, .int .i64 pp.m, .int .i64 pp.u, .int .i64 pp.v]] W (fun e w' => e = .returned (.bool true) ∧ Keeps noBlk W w') from by rw [← hpo']; exact implPk_any _ _ _ _ _ _ _ W hT))
    clear hpo hps hpo' hfa
    have Hhll := hH hll
    clear hll
    have Hhbl := hH hbl
    clear hbl
    have hb := HBs.out
    obtain ⟨s0, s1, s2, s3, s4, s5, s6⟩ := hb.cells7
    have zs := hb.lt
    clear hb
    rw [eA] at s3
    rw [eL] at s4
    rw [eB] at s5
    have HeA := hH eA
    clear eA
    have HeL := hH eL
    clear eL
    have HeB := hH eB
    clear eB
    have d0 := fun U : GW wr => GW.cell d0 U
    have s0 := fun U : GW wr => GW.cell s0 U
    have d1 := fun U : GW wr => GW.cell d1 U
    have s1 := fun U : GW wr => GW.cell s1 U
    have d2 := fun U : GW wr => GW.cell d2 U
    have s2 := fun U : GW wr => GW.cell s2 U
    have d3 := fun U : GW wr => GW.cell d3 U
    have s3 := fun U : GW wr => GW.cell s3 U
    have d4 := fun U : GW wr => GW.cell d4 U
    have s4 := fun U : GW wr => GW.cell s4 U
    have d5 := fun U : GW wr => GW.cell d5 U
    have s5 := fun U : GW wr => GW.cell s5 U
    have d6 := fun U : GW wr => GW.cell d6 U
    have s6 := fun U : GW wr => GW.cell s6 U
    have dl := fun U : GW wr => GW.cell dl U
    have db := fun U : GW wr => GW.cell db U
    have hcc : (lv = true ∧ bv = false) ∨ lv = false := by cases lv <;> cases bv <;> simp at hlb ⊢
    clear hlb
    rcases hcc with ⟨rfl, rfl⟩ | rfl
    all_goals
     go_wp2_with fail
     refine wp_region_grow (by kernel_rfl) (by kernel_rfl) ?_
     repeat (go_big_quiet_step (first | (go_at_call 32; exact Calls.grow _ (FP.out _ (HT.out.keeps (HK.out.trans (GW.keep _)))))))
     refine wpQuiet_nil ?_
     rintro _ ⟨U1, rfl⟩
     have HA1 := hH (HA.out.kept U1.keep)
     have HB1 := hH (HBs.out.keeps U1.keep fun h => h)
     have HK1 := hH (HK.out.trans U1.keep)
     go_wp2
     go_roundg (gk - 1)
     case measure => omega
     case rel =>
     exact ⟨i + 1, by omega, by go_num, HA1.out, HB1.out, HK1.out⟩
   ·obtain rfl : i = s.x.sent.length := by omega
    have hwo := (stB_ok HO.out).1
    have hx10 := stB_want10 HO.out
    obtain ⟨⟨v1, v2⟩, _, w4, wn⟩ := hwo
    have FX := hH (fun W (h : StAt W s.x s.A1 s.A2 s.A3 s.A4) (hT : Tabs W) => (show Calls Tryd.prog 31 #[.agg #[.int .i64 s.x.way, .int .i64 s.x.ver, .int .i64 10, .slice s.A1 s.x.sent.length s.c1, .slice s.A2 s.x.live.length s.c2, .slice s.A3 s.x.back.length s.c3, .slice s.A4 s.x.got.length s.c4]] W (fun e w' => e = .returned (.bool false) ∧ Keeps noBlk W w') from by rw [← hx10]; exact implSt_any { s.x with want := 10 } s.A1 s.A2 s.A3 s.A4 s.c1 s.c2 s.c3 s.c4 W h hT))
    clear hx10
    have hw1 : IntKind.i64.wrap (s.x.ver + 1) = s.x.ver + 1 := IntWalk.i64_in _ (by omega)
    have zs := HBs.out.lt
    have : ¬ w1.heap.size = wr.heap.size := by omega
    have : ¬ wr.heap.size = w1.heap.size := by omega
    clear zs
    by_cases hw : s.x.way = 4
    ·skip
     have hwn := (w4 hw).1
     have hwb : (s.x.way == 4) = true := by simp [hw]
     have hb := HBs.out
     obtain ⟨s0, s1, s2, s3, s4, s5, s6⟩ := hb.cells7
     have zs := hb.lt
     clear hb
     rw [hwn] at s2
     have Hhwn := hH hwn
     clear hwn
     have Hhw := hH hw
     clear hw
     clear w4 wn
     go_wp2_with fail
     refine (FX.out _ (HA.out.kept ((Keeps.refl noBlk wr).alloc (.cells #[.int .i64 s.x.way, .int .i64 s.x.ver, .int .i64 10, .slice s.A1 s.x.sent.length s.c1, .slice s.A2 s.x.live.length s.c2, .slice s.A3 s.x.back.length s.c3, .slice s.A4 s.x.got.length s.c4] 27))) (HT.out.keeps (HK.out.trans ((Keeps.refl noBlk wr).alloc (.cells #[.int .i64 s.x.way, .int .i64 s.x.ver, .int .i64 10, .slice s.A1 s.x.sent.length s.c1, .slice s.A2 s.x.live.length s.c2, .slice s.A3 s.x.back.length s.c3, .slice s.A4 s.x.got.length s.c4] 27))))).mono ?_
     rintro e w9 ⟨rfl, hk9⟩
     have HK9 := hH ((HK.out.trans ((Keeps.refl noBlk wr).alloc (.cells #[.int .i64 s.x.way, .int .i64 s.x.ver, .int .i64 10, .slice s.A1 s.x.sent.length s.c1, .slice s.A2 s.x.live.length s.c2, .slice s.A3 s.x.back.length s.c3, .slice s.A4 s.x.got.length s.c4] 27))).trans hk9)
     clear hk9
     go_wp2
     go_ret
     exact ⟨rfl, HK9.out.below⟩
    ·skip
     have hwn := wn hw
     have hwb : (s.x.way == 4) = false := by simp [hw]
     have hb := HBs.out
     obtain ⟨s0, s1, s2, s3, s4, s5, s6⟩ := hb.cells7
     have zs := hb.lt
     clear hb
     rw [hwn] at s2
     have Hhwn := hH hwn
     clear hwn
     have Hhw := hH hw
     clear hw
     clear w4 wn
     go_wp2_with fail
     refine (FX.out _ (HA.out.kept ((Keeps.refl noBlk wr).alloc (.cells #[.int .i64 s.x.way, .int .i64 s.x.ver, .int .i64 10, .slice s.A1 s.x.sent.length s.c1, .slice s.A2 s.x.live.length s.c2, .slice s.A3 s.x.back.length s.c3, .slice s.A4 s.x.got.length s.c4] 27))) (HT.out.keeps (HK.out.trans ((Keeps.refl noBlk wr).alloc (.cells #[.int .i64 s.x.way, .int .i64 s.x.ver, .int .i64 10, .slice s.A1 s.x.sent.length s.c1, .slice s.A2 s.x.live.length s.c2, .slice s.A3 s.x.back.length s.c3, .slice s.A4 s.x.got.length s.c4] 27))))).mono ?_
     rintro e w9 ⟨rfl, hk9⟩
     have HK9 := hH ((HK.out.trans ((Keeps.refl noBlk wr).alloc (.cells #[.int .i64 s.x.way, .int .i64 s.x.ver, .int .i64 10, .slice s.A1 s.x.sent.length s.c1, .slice s.A2 s.x.live.length s.c2, .slice s.A3 s.x.back.length s.c3, .slice s.A4 s.x.got.length s.c4] 27))).trans hk9)
     clear hk9
     go_wp2
     go_ret
     exact ⟨rfl, HK9.out.below⟩
 ·skip
  go_wp2_with fail
  refine (specSt_any s.x s.A1 s.A2 s.A3 s.A4 s.c1 s.c2 s.c3 s.c4 _ HA.out).mono ?_
  rintro e w3 ⟨rfl, hk3⟩
  clear s0 s1 s2 s3 s4 s5 s6 zs
  replace HBs := hH (HBs.out.keeps hk3 (fun h => h))
  replace HA := hH ((HA.out).kept hk3)
  replace HK := hH (HK.out.trans hk3)
  have sz3 := hk3.size
  (try simp at sz3)
  clear hk3
  have hb := HBs.out
  obtain ⟨s0, s1, s2, s3, s4, s5, s6⟩ := hb.cells7
  have zs := hb.lt
  clear hb
  go_wp2_with fail
  refine (specSt_any s.x s.A1 s.A2 s.A3 s.A4 s.c1 s.c2 s.c3 s.c4 _ HA.out).mono ?_
  rintro e w4 ⟨rfl, hk4⟩
  clear s0 s1 s2 s3 s4 s5 s6 zs
  replace HBs := hH (HBs.out.keeps hk4 (fun h => h))
  replace HA := hH ((HA.out).kept hk4)
  replace HK := hH (HK.out.trans hk4)
  have sz4 := hk4.size
  (try simp at sz4)
  clear hk4
  go_wp2
  go_ret
  exact ⟨rfl, HK.out.below⟩
set_option maxRecDepth 100000
namespace lstform
theorem lifted (os : Os) (started : os.Started) (H : Type) (enc : TypeId × Value → H) :
  ReturnsInHanded {} Tryd.checked os 7 .any (fun w args => (Rows.fnStateFormSpec.pre enc Tryd.prog Tryd.f7 [] false w args ∧ laidMetH Tryd.prog Rows.fnStateFormRow.laid w) ∧ sizedMet enc Tryd.prog Tryd.f7 (OpenSpec.ofChange Rows.fnStateFormSpec) false w args)
   (Rows.fnStateFormSpec.post enc Tryd.prog Tryd.f7 false true false false) := by
 refine returnsInHanded_of_change_and (C := Tryd.checked) (X := fun w _ => laidMetH Tryd.prog Rows.fnStateFormRow.laid w) (fun _ _ _ hh h => h.of_heap hh) own started (by kernel_rfl) Tryd.func7
  (ChangeSpec.witness_shaped (enc := enc) (C := Tryd.checked) (os := os) (X := fun w _ => laidMetH Tryd.prog Rows.fnStateFormRow.laid w) false (World.doorLaid Tryd.prog 101 os) #[.slice none 0 0] 8 rfl (World.shaped_of_RefB (by kernel_rfl) (by kernel_rfl)) (by kernel_rfl) (by kernel_rfl) (by kernel_rfl) (door_met os _)) ?_
 intro W base args ds gs before hval0 hW _ _ hL _
 have hval : ∀ (j : Nat) t v, Tryd.f7.params[j]? = some t → args[j]? = some v → Value.okWide Tryd.prog W .any base t v := hval0
 have hW' := hW
 obtain ⟨p, q, hA0, hV, rfl, hfz, hnd⟩ := hW
 have hA : DataW.TrodAll enc Tryd.prog W 0 (fun _ => true) true Tryd.f7.params.toList args.toList ds p := hA0
 rw [Tryd.params7 ] at hA hval
 obtain ⟨g0, g1, rfl⟩ := vars2 hV
 obtain ⟨v0, d0, rfl, rfl, h0⟩ := trodAll_one hA
 obtain ⟨a0, len0, cap0, rfl⟩ := okWide_slice Tryd.underlying22 (hval 0 22 v0 rfl rfl)
 have k0 := h0
 have lt0 : ∀ x ∈ p, x.block < W.heap.size := by obtain ⟨m, hm⟩ := k0; exact DataW.trod_lt m _ _ _ hm
 obtain ⟨z0, w0, e0, f0⟩ := bytes_of_trod h0
 clear hA0 hval0
 refine (walk_lstform W (tabs_of_laid hL) a0 len0 cap0 z0 w0 e0 f0).mono fun e W' ⟨he, bel⟩ => ?_
 subst he
 exact ⟨_, rfl, _, _, _, [], _, _, hW', trodAll_mk1 (shut_bool Tryd.underlying4 _), (trodAll_mk1 (Below.trod laidOut (by kernel_rfl) (of_decide_eq_true (by kernel_rfl)) k0 bel lt0)), Below.trodVars laidOut bel (by kernel_rfl) hV, bel.frame _, fun h => by cases h⟩
end lstform

theorem fnStateForm_row : Rows.FnStateFormSaid :=
 OpenClaim.holds_of_wide 7 Tryd.f7 rfl rfl rfl rfl rfl rfl rfl ⟨rfl, rfl, rfl, rfl, rfl⟩ rfl rfl rfl rfl rfl (by kernel_rfl) Tryd.func7 (by kernel_rfl)
  (of_decide_eq_true (by kernel_rfl)) (by unfold Func.isWrapper; first | (rw [if_pos (by decide +kernel)]; kernel_rfl) | (rw [if_neg (by decide +kernel)]; exact ⟨rfl, rfl⟩))
  (fun os started H enc _ => lstform.lifted os started H enc)

theorem fnStateForm_card : Rows.FnStateFormCardSaid :=
 Claim7.holds_tied_plain_at .later [] Rows.fnStateFormCard.laidKinds true Rows.fnStateFormCard.stood.harness true
  fnStateForm_row (fun _ h => by cases h) (by kernel_rfl) (fun _ h => by cases h) fnStateForm_row_tie rfl ⟨rfl, rfl⟩ (by kernel_rfl) rfl
  (fun g fn hg hfn => by
   obtain rfl : g = 7 := Option.some.inj ((show Tryd.prog.funcNamed Rows.fnStateFormRow.func = some 7 by kernel_rfl).symm.trans hg) |>.symm
   obtain rfl : fn = Tryd.f7 := (Option.some.inj (Tryd.func7.symm.trans hfn)).symm
   refine ⟨by kernel_rfl, fun j t ht => ?_⟩
   have h3 : ∀ t ∈ Tryd.f7.params.toList, Tryd.prog.wantsStandIn t = false := of_decide_eq_true (by kernel_rfl)
   exact h3 t (Array.mem_toList_iff.2 (Array.mem_of_getElem? ht)))
  (by kernel_rfl)
#print axioms fnStateForm_card
end Go.Proofs.YtjcbeihoeanhaaaDoor
