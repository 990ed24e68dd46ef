/- FnWayOpen: a way is opened step by step, by what the other end did, whatever is drawn. FnWayOpen: a way is opened step by step, by what the other end did, whatever is drawn. The tables read as the program's text lays them. -/
import Derived.Test.YtjcbeihoeanhaaaDoorUPlX
import Derived.Test.YtjcbeihoeanhaaaDoorUIWy
import Derived.Test.YtjcbeihoeanhaaaDoorUSte
set_option maxRecDepth 100000
set_option maxHeartbeats 8000000
set_option linter.unusedVariables false
set_option linter.unusedSimpArgs false
/-! LWayOpenW -/
namespace Go.Proofs.YtjcbeihoeanhaaaDoor
open Go.RowKit Go.ChangeShapes Go.WideShapes Go.ChangeAt Go.Joins
theorem wmayB_cases {x y : StL} {k : Int} (h : wmayB x y k = true) : (k = 1 ∧ x.way = 0) ∨ (k = 2 ∧ x.way ≤ 1 ∧ 1 ≤ y.way) ∨ (k = 3 ∧ x.way = 1 ∧ 2 ≤ y.way) ∨ (k = 4 ∧ x.way = 2 ∧ 2 ≤ y.way) ∨ (((k = 5 ∨ k = 6) ∨ k = 7) ∧ 3 ≤ x.way) := by
 have hm : mayB x y k = true := by unfold wmayB at h; simp only [Bool.and_eq_true] at h; exact h.2
 unfold mayB at hm
 split at hm
 ·rename_i h1; exact .inl ⟨h1, of_decide_eq_true hm⟩
 split at hm
 ·rename_i h1; have h2 := of_decide_eq_true hm; exact .inr (.inl ⟨h1, h2.1, by omega⟩)
 split at hm
 ·rename_i h1; have h2 := of_decide_eq_true hm; exact .inr (.inr (.inl ⟨h1, h2⟩))
 split at hm
 ·rename_i h1; have h2 := of_decide_eq_true hm; exact .inr (.inr (.inr (.inl ⟨h1, h2⟩)))
 split at hm
 ·rename_i h1; have h2 := of_decide_eq_true hm; exact .inr (.inr (.inr (.inr ⟨.inl (.inl h1), by omega⟩)))
 split at hm
 ·rename_i h1; have h2 := of_decide_eq_true hm; exact .inr (.inr (.inr (.inr ⟨.inl (.inr h1), by omega⟩)))
 split at hm
 ·rename_i h1; have h2 := of_decide_eq_true hm; exact .inr (.inr (.inr (.inr ⟨.inr h1, by omega⟩)))
 ·cases hm
theorem walk_lwayopen (w : World) (ht : Tabs w) (a0 : Option Addr) (len0 cap0 : Nat) (z0 : List Int) (h : Bytes w a0 len0 z0) (e0 : len0 ≤ cap0) (f0 : cap0 ≤ maxLen) :
  Calls Tryd.prog 11 #[.slice a0 len0 cap0] w fun e w' => e = .returned (.bool true) ∧ Below w.heap.size w w' := by
 have HT := hH ht; have HD := hH (drawWayMay_any a0 len0 cap0 z0 w h e0 f0); clear h ht e0 f0
 by_cases hs : (len0 : Int) ≤ 1048576
 case neg =>
  go_enter Tryd.func11, Tryd.ntmps11
  go_wp2; go_ret; exact ⟨rfl, Below.refl _ _⟩
 go_enter Tryd.func11, Tryd.ntmps11
 go_wp2_with fail; refine HD.out.mono ?_; rintro e w1 ⟨s, o, k, rfl, hs, ho, -, -, hk1⟩; obtain ⟨b, hb9⟩ : ∃ b, wmayB s.x o.x k = b := ⟨_, rfl⟩; have HIM := hH (fun W (hx : StAt W s.x s.A1 s.A2 s.A3 s.A4) (hy : StAt W o.x o.A1 o.A2 o.A3 o.A4) (hT : Tabs W) => (show Calls Tryd.prog 35 #[stV s.x s.A1 s.A2 s.A3 s.A4 s.c1 s.c2 s.c3 s.c4, stV o.x o.A1 o.A2 o.A3 o.A4 o.c1 o.c2 o.c3 o.c4, .int .i64 k] W (fun e w' => e = .returned (.bool b) ∧ Keeps noBlk W w') from by have h9 := implMay_any s.x o.x s.A1 s.A2 s.A3 s.A4 o.A1 o.A2 o.A3 o.A4 s.c1 s.c2 s.c3 s.c4 o.c1 o.c2 o.c3 o.c4 k W hx hy hT; rw [hb9] at h9; exact h9)); have HSM := hH (fun W (hx : StAt W s.x s.A1 s.A2 s.A3 s.A4) (hy : StAt W o.x o.A1 o.A2 o.A3 o.A4) => (show Calls Tryd.prog 36 #[stV s.x s.A1 s.A2 s.A3 s.A4 s.c1 s.c2 s.c3 s.c4, stV o.x o.A1 o.A2 o.A3 o.A4 o.c1 o.c2 o.c3 o.c4, .int .i64 k] W (fun e w' => e = .returned (.bool b) ∧ Keeps noBlk W w') from by have h9 := specMay_any s.x o.x s.A1 s.A2 s.A3 s.A4 o.A1 o.A2 o.A3 o.A4 s.c1 s.c2 s.c3 s.c4 o.c1 o.c2 o.c3 o.c4 k W hx hy; rw [hb9] at h9; exact h9)); have HA := hH (hs.kept (((Keeps.refl noBlk w1).alloc (.cells (smC s) 27)).alloc (.cells (smC o) 27))); have HO := hH (ho.kept (((Keeps.refl noBlk w1).alloc (.cells (smC s) 27)).alloc (.cells (smC o) 27))); have HK := hH ((hk1.alloc (.cells (smC s) 27)).alloc (.cells (smC o) 27)); have sz1 := hk1.size; clear hs ho hk1 HD; dsimp only [StM.val]; have HBs := hH ((Box.new w1 _ rfl 27 (smC s)).alloc (.cells (smC o) 27)); have HBo := hH (Box.new (w1.alloc (.cells (smC s) 27)) (w1.heap.size + 1) (by simp) 27 (smC o)); go_wp2_with fail; refine (HIM.out _ HA.out HO.out (HT.out.keeps HK.out)).mono ?_; rintro e w2 ⟨rfl, hk2⟩; replace HBs := hH (HBs.out.keeps hk2 (fun h => h)); replace HBo := hH (HBo.out.keeps hk2 (fun h => h)); replace HA := hH ((HA.out).kept hk2); replace HO := hH ((HO.out).kept hk2); replace HK := hH (HK.out.trans hk2); have sz2 := hk2.size
 (try simp at sz2)
 clear hk2; have hb := HBs.out; obtain ⟨s0, s1, s2, s3, s4, s5, s6⟩ := hb.cells7; have zs := hb.lt; clear hb; have hb := HBo.out; obtain ⟨o0, o1, o2, o3, o4, o5, o6⟩ := hb.cells7; have zo := hb.lt; clear hb; go_wp2_with fail; refine (HSM.out _ HA.out HO.out).mono ?_; rintro e w3 ⟨rfl, hk3⟩; clear s0 s1 s2 s3 s4 s5 s6 o0 o1 o2 o3 o4 o5 o6 zs zo; replace HBs := hH (HBs.out.keeps hk3 (fun h => h)); replace HBo := hH (HBo.out.keeps hk3 (fun h => h)); replace HA := hH ((HA.out).kept hk3); replace HO := hH ((HO.out).kept hk3); replace HK := hH (HK.out.trans hk3); have sz3 := hk3.size
 (try simp at sz3)
 clear hk3; have hb := HBs.out; obtain ⟨s0, s1, s2, s3, s4, s5, s6⟩ := hb.cells7; have zs := hb.lt; clear hb; have hb := HBo.out; obtain ⟨o0, o1, o2, o3, o4, o5, o6⟩ := hb.cells7; have zo := hb.lt; clear hb; have HB9 := hH hb9; clear hb9
 cases b with
 | false =>
  go_wp2_with fail; refine (HSM.out _ HA.out HO.out).mono ?_; rintro e w4 ⟨rfl, hk4⟩; clear s0 s1 s2 s3 s4 s5 s6 o0 o1 o2 o3 o4 o5 o6 zs zo; replace HBs := hH (HBs.out.keeps hk4 (fun h => h)); replace HBo := hH (HBo.out.keeps hk4 (fun h => h)); replace HA := hH ((HA.out).kept hk4); replace HO := hH ((HO.out).kept hk4); replace HK := hH (HK.out.trans hk4); have sz4 := hk4.size
  (try simp at sz4)
  clear hk4; go_wp2; go_ret; exact ⟨rfl, HK.out.below⟩
 | true =>
  clear HIM HSM
  rcases wmayB_cases HB9.out with ⟨rfl, h1⟩ | ⟨rfl, h1, h2⟩ | ⟨rfl, h1, h2⟩ | ⟨rfl, h1, h2⟩ | ⟨(rfl | rfl) | rfl, h1⟩
  all_goals clear HB9
  ·skip
   have hd : (s.x.way == 0) = true := by rw [h1]; rfl
   clear h1; go_wp2; go_ret; exact ⟨rfl, HK.out.below⟩
  ·skip
   have hd : decide (s.x.way ≤ 1) = true := decide_eq_true h1; have hd2 : decide (1 ≤ o.x.way) = true := decide_eq_true h2; go_wp2; go_ret; exact ⟨rfl, HK.out.below⟩
  ·skip
   have hd : (s.x.way == 1) = true := by rw [h1]; rfl
   have hd2 : decide (2 ≤ o.x.way) = true := decide_eq_true h2; clear h1; go_wp2; go_ret; exact ⟨rfl, HK.out.below⟩
  ·skip
   have hd : (s.x.way == 2) = true := by rw [h1]; rfl
   have hd2 : decide (2 ≤ o.x.way) = true := decide_eq_true h2; clear h1; go_wp2; go_ret; exact ⟨rfl, HK.out.below⟩
  ·skip
   have hd : decide (3 ≤ s.x.way) = true := decide_eq_true h1; go_wp2; go_ret; exact ⟨rfl, HK.out.below⟩
  ·skip
   have hd : decide (3 ≤ s.x.way) = true := decide_eq_true h1; go_wp2; go_ret; exact ⟨rfl, HK.out.below⟩
  ·skip
   have hd : decide (3 ≤ s.x.way) = true := decide_eq_true h1; go_wp2; go_ret; exact ⟨rfl, HK.out.below⟩
namespace lwayopen
theorem lifted (os : Os) (started : os.Started) (H : Type) (enc : TypeId × Value → H) :
  ReturnsInHanded {} Tryd.checked os 11 .any (fun w args => (Rows.fnWayOpenSpec.pre enc Tryd.prog Tryd.f11 [] false w args ∧ laidMetH Tryd.prog Rows.fnWayOpenRow.laid w) ∧ sizedMet enc Tryd.prog Tryd.f11 (OpenSpec.ofChange Rows.fnWayOpenSpec) false w args)
   (Rows.fnWayOpenSpec.post enc Tryd.prog Tryd.f11 false true false false) := by
 refine returnsInHanded_of_change_and (C := Tryd.checked) (X := fun w _ => laidMetH Tryd.prog Rows.fnWayOpenRow.laid w) (fun _ _ _ hh h => h.of_heap hh) own started (by kernel_rfl) Tryd.func11
  (ChangeSpec.witness_shaped (enc := enc) (C := Tryd.checked) (os := os) (X := fun w _ => laidMetH Tryd.prog Rows.fnWayOpenRow.laid w) false (World.doorLaid Tryd.prog 101 os) #[.slice none 0 0] 8 rfl (World.shaped_of_RefB (by kernel_rfl) (by kernel_rfl)) (by kernel_rfl) (by kernel_rfl) (by kernel_rfl) (door_met os _)) ?_
 intro W base args ds gs before hval0 hW _ _ hL _; have hval : ∀ (j : Nat) t v, Tryd.f11.params[j]? = some t → args[j]? = some v → Value.okWide Tryd.prog W .any base t v := hval0; have hW' := hW; obtain ⟨p, q, hA0, hV, rfl, hfz, hnd⟩ := hW; have hA : DataW.TrodAll enc Tryd.prog W 0 (fun _ => true) true Tryd.f11.params.toList args.toList ds p := hA0; rw [Tryd.params11 ] at hA hval; obtain ⟨g0, g1, rfl⟩ := vars2 hV; obtain ⟨v0, d0, rfl, rfl, h0⟩ := trodAll_one hA; obtain ⟨a0, len0, cap0, rfl⟩ := okWide_slice Tryd.underlying22 (hval 0 22 v0 rfl rfl); have k0 := h0
 have lt0 : ∀ x ∈ p, x.block < W.heap.size := by obtain ⟨m, hm⟩ := k0; exact DataW.trod_lt m _ _ _ hm
 obtain ⟨z0, w0, e0, f0⟩ := bytes_of_trod h0; clear hA0 hval0
 refine (walk_lwayopen W (tabs_of_laid hL) a0 len0 cap0 z0 w0 e0 f0).mono fun e W' ⟨he, bel⟩ => ?_
 subst he; exact ⟨_, rfl, _, _, _, [], _, _, hW', trodAll_mk1 (shut_bool Tryd.underlying4 _), (trodAll_mk1 (Below.trod laidOut (by kernel_rfl) (of_decide_eq_true (by kernel_rfl)) k0 bel lt0)), Below.trodVars laidOut bel (by kernel_rfl) hV, bel.frame _, fun h => by cases h⟩
end lwayopen

theorem fnWayOpen_row : Rows.FnWayOpenSaid :=
 OpenClaim.holds_of_wide 11 Tryd.f11 rfl rfl rfl rfl rfl rfl rfl ⟨rfl, rfl, rfl, rfl, rfl⟩ rfl rfl rfl rfl rfl (by kernel_rfl) Tryd.func11 (by kernel_rfl)
  (of_decide_eq_true (by kernel_rfl)) (by unfold Func.isWrapper; first | (rw [if_pos (by decide +kernel)]; kernel_rfl) | (rw [if_neg (by decide +kernel)]; exact ⟨rfl, rfl⟩))
  (fun os started H enc _ => lwayopen.lifted os started H enc)

theorem fnWayOpen_card : Rows.FnWayOpenCardSaid :=
 Claim7.holds_tied_plain_at .later [] Rows.fnWayOpenCard.laidKinds true Rows.fnWayOpenCard.stood.harness true
  fnWayOpen_row (fun _ h => by cases h) (by kernel_rfl) (fun _ h => by cases h) fnWayOpen_row_tie rfl ⟨rfl, rfl⟩ (by kernel_rfl) rfl
  (fun g fn hg hfn => by
   obtain rfl : g = 11 := Option.some.inj ((show Tryd.prog.funcNamed Rows.fnWayOpenRow.func = some 11 by kernel_rfl).symm.trans hg) |>.symm
   obtain rfl : fn = Tryd.f11 := (Option.some.inj (Tryd.func11.symm.trans hfn)).symm; refine ⟨by kernel_rfl, fun j t ht => ?_⟩; have h3 : ∀ t ∈ Tryd.f11.params.toList, Tryd.prog.wantsStandIn t = false := of_decide_eq_true (by kernel_rfl)
   exact h3 t (Array.mem_toList_iff.2 (Array.mem_of_getElem? ht)))
  (by kernel_rfl)
#print axioms fnWayOpen_card
end Go.Proofs.YtjcbeihoeanhaaaDoor
