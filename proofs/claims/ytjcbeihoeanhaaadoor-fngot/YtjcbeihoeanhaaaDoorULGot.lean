/- FnGot: what became of a packet stands by its number, whatever is drawn. FnGot: what became of a packet stands by its number, whatever is drawn. The tables read as the program's text lays them. -/
import Derived.Test.YtjcbeihoeanhaaaDoorPlU2
import Derived.Test.YtjcbeihoeanhaaaDoorUSte
set_option linter.unusedVariables false
set_option linter.unusedSimpArgs false
/-! LGotW -/
set_option maxHeartbeats 8000000
set_option maxRecDepth 100000
namespace Go.Proofs.YtjcbeihoeanhaaaDoor
open Go.RowKit Go.ChangeShapes Go.WideShapes Go.ChangeAt Go.Joins
theorem gotN_in {x : StL} (h : stB x = true) {j : Nat} (hj : j < 8) : gotN x ((j : Int) + 1) = x.got.getD j 0 := by
 unfold gotN
 rw [if_pos ⟨h, by omega, by omega⟩, show ((j : Int) + 1 - 1).toNat = j by omega]
theorem gotN_out {x : StL} {q : Int} (h : q < 1 ∨ 8 < q) : gotN x q = 0 := by
 unfold gotN
 rw [if_neg]
 omega
theorem walk_lstgot (w : World) (ht : Tabs w) (a0 : Option Addr) (len0 cap0 : Nat) (z0 : List Int) (h : Bytes w a0 len0 z0) (e0 : len0 ≤ cap0) (f0 : cap0 ≤ maxLen) :
  Calls Tryd.prog 4 #[.slice a0 len0 cap0] w fun e w' => e = .returned (.bool true) ∧ Below w.heap.size w w' := by
 have HT := hH ht
 have HD := hH (drawStGot_any a0 len0 cap0 z0 w h e0 f0)
 clear h ht e0 f0
 by_cases hs : (len0 : Int) ≤ 1048576
 case neg =>
  go_enter Tryd.func4, Tryd.ntmps4
  go_wp2
  go_ret
  exact ⟨rfl, Below.refl _ _⟩
 go_enter Tryd.func4, Tryd.ntmps4
 go_wp2_with fail
 refine HD.out.mono ?_
 rintro e w1 ⟨s, q, rfl, hat, hk1⟩
 obtain ⟨n, hn⟩ : ∃ n, gotN s.x q = n := ⟨_, rfl⟩
 have HIG := hH (fun W (h : StAt W s.x s.A1 s.A2 s.A3 s.A4) (hT : Tabs W) => (show Calls Tryd.prog 21 #[stV s.x s.A1 s.A2 s.A3 s.A4 s.c1 s.c2 s.c3 s.c4, .int .i64 q] W (fun e w' => e = .returned (.int .i64 n) ∧ Keeps noBlk W w') from by rw [← hn]; exact implGot_any s.x s.A1 s.A2 s.A3 s.A4 s.c1 s.c2 s.c3 s.c4 q W h hT))
 have HSG := hH (fun W (h : StAt W s.x s.A1 s.A2 s.A3 s.A4) => (show Calls Tryd.prog 22 #[stV s.x s.A1 s.A2 s.A3 s.A4 s.c1 s.c2 s.c3 s.c4, .int .i64 q] W (fun e w' => e = .returned (.int .i64 n) ∧ Keeps noBlk W w') from by rw [← hn]; exact specGot_any s.x s.A1 s.A2 s.A3 s.A4 s.c1 s.c2 s.c3 s.c4 q W h))
 have HA := hH hat
 have HK := hH hk1
 have sz1 := hk1.size
 clear hat hk1 HD
 dsimp only [StM.val]
 replace HA := hH ((HA.out).kept ((Keeps.refl noBlk w1).alloc (.cells (smC s) 27)))
 replace HK := hH (HK.out.alloc (.cells (smC s) 27))
 have HBs := hH (Box.new w1 _ rfl 27 (smC s))
 go_wp2_with fail
 refine (HIG.out _ HA.out (HT.out.keeps HK.out)).mono ?_
 rintro e w2 ⟨rfl, hk2⟩
 replace HBs := hH (HBs.out.keeps hk2 (fun h => h))
 replace HA := hH ((HA.out).kept hk2)
 replace HK := hH (HK.out.trans hk2)
 have sz2 := hk2.size
 (try simp at sz2)
 clear hk2
 have hb := HBs.out
 obtain ⟨s0, s1, s2, s3, s4, s5, s6⟩ := hb.cells7
 have zs := hb.lt
 clear hb
 go_wp2_with fail
 refine (HSG.out _ HA.out).mono ?_
 rintro e w3 ⟨rfl, hk3⟩
 clear s0 s1 s2 s3 s4 s5 s6 zs
 replace HBs := hH (HBs.out.keeps hk3 (fun h => h))
 replace HA := hH ((HA.out).kept hk3)
 replace HK := hH (HK.out.trans hk3)
 have sz3 := hk3.size
 (try simp at sz3)
 clear hk3
 have hb := HBs.out
 obtain ⟨s0, s1, s2, s3, s4, s5, s6⟩ := hb.cells7
 have zs := hb.lt
 clear hb
 rcases Bool.eq_false_or_eq_true (stB s.x) with ho | ho
 ·skip
  go_wp2_with fail
  refine (specSt_any s.x s.A1 s.A2 s.A3 s.A4 s.c1 s.c2 s.c3 s.c4 _ HA.out).mono ?_
  rintro e w4 ⟨rfl, hk4⟩
  clear s0 s1 s2 s3 s4 s5 s6 zs
  replace HBs := hH (HBs.out.keeps hk4 (fun h => h))
  replace HA := hH ((HA.out).kept hk4)
  replace HK := hH (HK.out.trans hk4)
  have sz4 := hk4.size
  (try simp at sz4)
  clear hk4
  have hb := HBs.out
  obtain ⟨s0, s1, s2, s3, s4, s5, s6⟩ := hb.cells7
  have zs := hb.lt
  clear hb
  by_cases hin : 1 ≤ q ∧ q ≤ 8
  ·obtain ⟨hq1, hq8⟩ := hin
   obtain ⟨j, rfl⟩ : ∃ j : Nat, q = (j : Int) + 1 := ⟨(q - 1).toNat, by omega⟩
   have hj : j < 8 := by omega
   have hgl : s.x.got.length = 8 := (stB_ok ho).2.2.2.1
   have hji : (j : Int) < (s.x.got.length : Int) := by omega
   rw [gotN_in ho hj] at hn
   have HGL := hH hgl
   obtain ⟨bg, og, eG, hbg, dg⟩ := HA.out.1.2.2.2.at_ (show j < s.x.got.length by rw [hgl]; exact hj)
   rw [hn] at dg
   have HAE := hH (show StAt w4 s.x s.A1 s.A2 s.A3 (some ⟨bg, og, none⟩) from by rw [← eG]; exact HA.out)
   rw [eG] at s6
   have HN := hH hn
   have HEG := hH eG; clear eG hgl hn
   have hw1 : IntKind.i64.wrap ((j : Int) + 1 - 1) = (j : Int) := by rw [show (j : Int) + 1 - 1 = (j : Int) by omega]; exact IntWalk.i64_in _ (by omega)
   have hw2 : (j : Int) + 1 - 1 = (j : Int) := by omega
   have hw3 : IntKind.i64.wrap (j : Int) = (j : Int) := IntWalk.i64_in _ (by omega)
   have HI0 := hH (fun W (h : StAt W s.x s.A1 s.A2 s.A3 (some ⟨bg, og, none⟩)) (hT : Tabs W) => (show Calls Tryd.prog 21 #[stV s.x s.A1 s.A2 s.A3 (some ⟨bg, og, none⟩) s.c1 s.c2 s.c3 s.c4, .int .i64 0] W (fun e w' => e = .returned (.int .i64 0) ∧ Keeps noBlk W w') from by have h0 := gotN_out (x := s.x) (q := 0) (by omega); have h1 := implGot_any s.x s.A1 s.A2 s.A3 (some ⟨bg, og, none⟩) s.c1 s.c2 s.c3 s.c4 0 W h hT; rw [h0] at h1; exact h1))
   have HI9 := hH (fun W (h : StAt W s.x s.A1 s.A2 s.A3 (some ⟨bg, og, none⟩)) (hT : Tabs W) => (show Calls Tryd.prog 21 #[stV s.x s.A1 s.A2 s.A3 (some ⟨bg, og, none⟩) s.c1 s.c2 s.c3 s.c4, .int .i64 9] W (fun e w' => e = .returned (.int .i64 0) ∧ Keeps noBlk W w') from by have h0 := gotN_out (x := s.x) (q := 9) (by omega); have h1 := implGot_any s.x s.A1 s.A2 s.A3 (some ⟨bg, og, none⟩) s.c1 s.c2 s.c3 s.c4 9 W h hT; rw [h0] at h1; exact h1))
   have hr := HBs.out
   go_wp2_with fail
   refine (HI0.out _ HAE.out (HT.out.keeps HK.out)).mono ?_
   rintro e w5 ⟨rfl, hk9⟩
   clear s0 s1 s2 s3 s4 s5 s6 zs
   (try clear dg)
   replace HBs := hH (HBs.out.keeps hk9 (fun h => h))
   replace HAE := hH (HAE.out.kept hk9)
   have h1 := HK.out.trans hk9
   clear HK
   have HK := hH h1
   clear h1 hk9
   have hb := HBs.out
   obtain ⟨s0, s1, s2, s3, s4, s5, s6⟩ := hb.cells7
   have zs := hb.lt
   clear hb
   rw [HEG.out] at s6
   go_wp2_with fail
   refine (HI9.out _ HAE.out (HT.out.keeps HK.out)).mono ?_
   rintro e w6 ⟨rfl, hk9⟩
   clear s0 s1 s2 s3 s4 s5 s6 zs
   (try clear dg)
   replace HBs := hH (HBs.out.keeps hk9 (fun h => h))
   replace HAE := hH (HAE.out.kept hk9)
   have h1 := HK.out.trans hk9
   clear HK
   have HK := hH h1
   clear h1 hk9
   have hb := HBs.out
   obtain ⟨s0, s1, s2, s3, s4, s5, s6⟩ := hb.cells7
   have zs := hb.lt
   clear hb
   rw [HEG.out] at s6
   go_wp2
   go_ret
   exact ⟨rfl, HK.out.below⟩
  ·have hq9 : q < 1 ∨ 8 < q := by omega
   rw [gotN_out hq9] at hn
   subst hn
   rcases hq9 with hq9 | hq9
   ·skip
    go_wp2
    go_ret
    exact ⟨rfl, HK.out.below⟩
   ·skip
    go_wp2
    go_ret
    exact ⟨rfl, HK.out.below⟩
 ·skip
  go_wp2_with fail
  refine (specSt_any s.x s.A1 s.A2 s.A3 s.A4 s.c1 s.c2 s.c3 s.c4 _ HA.out).mono ?_
  rintro e w4 ⟨rfl, hk4⟩
  clear s0 s1 s2 s3 s4 s5 s6 zs
  replace HBs := hH (HBs.out.keeps hk4 (fun h => h))
  replace HA := hH ((HA.out).kept hk4)
  replace HK := hH (HK.out.trans hk4)
  have sz4 := hk4.size
  (try simp at sz4)
  clear hk4
  have hb := HBs.out
  obtain ⟨s0, s1, s2, s3, s4, s5, s6⟩ := hb.cells7
  have zs := hb.lt
  clear hb
  go_wp2_with fail
  refine (HSG.out _ HA.out).mono ?_
  rintro e w5 ⟨rfl, hk5⟩
  clear s0 s1 s2 s3 s4 s5 s6 zs
  replace HBs := hH (HBs.out.keeps hk5 (fun h => h))
  replace HA := hH ((HA.out).kept hk5)
  replace HK := hH (HK.out.trans hk5)
  have sz5 := hk5.size
  (try simp at sz5)
  clear hk5
  go_wp2
  go_ret
  exact ⟨rfl, HK.out.below⟩
set_option maxRecDepth 100000
namespace lstgot
theorem lifted (os : Os) (started : os.Started) (H : Type) (enc : TypeId × Value → H) :
  ReturnsInHanded {} Tryd.checked os 4 .any (fun w args => (Rows.fnGotSpec.pre enc Tryd.prog Tryd.f4 [] false w args ∧ laidMetH Tryd.prog Rows.fnGotRow.laid w) ∧ sizedMet enc Tryd.prog Tryd.f4 (OpenSpec.ofChange Rows.fnGotSpec) false w args)
   (Rows.fnGotSpec.post enc Tryd.prog Tryd.f4 false true false false) := by
 refine returnsInHanded_of_change_and (C := Tryd.checked) (X := fun w _ => laidMetH Tryd.prog Rows.fnGotRow.laid w) (fun _ _ _ hh h => h.of_heap hh) own started (by kernel_rfl) Tryd.func4
  (ChangeSpec.witness_shaped (enc := enc) (C := Tryd.checked) (os := os) (X := fun w _ => laidMetH Tryd.prog Rows.fnGotRow.laid w) false (World.doorLaid Tryd.prog 101 os) #[.slice none 0 0] 8 rfl (World.shaped_of_RefB (by kernel_rfl) (by kernel_rfl)) (by kernel_rfl) (by kernel_rfl) (by kernel_rfl) (door_met os _)) ?_
 intro W base args ds gs before hval0 hW _ _ hL _
 have hval : ∀ (j : Nat) t v, Tryd.f4.params[j]? = some t → args[j]? = some v → Value.okWide Tryd.prog W .any base t v := hval0
 have hW' := hW
 obtain ⟨p, q, hA0, hV, rfl, hfz, hnd⟩ := hW
 have hA : DataW.TrodAll enc Tryd.prog W 0 (fun _ => true) true Tryd.f4.params.toList args.toList ds p := hA0
 rw [Tryd.params4 ] at hA hval
 obtain ⟨g0, g1, rfl⟩ := vars2 hV
 obtain ⟨v0, d0, rfl, rfl, h0⟩ := trodAll_one hA
 obtain ⟨a0, len0, cap0, rfl⟩ := okWide_slice Tryd.underlying22 (hval 0 22 v0 rfl rfl)
 have k0 := h0
 have lt0 : ∀ x ∈ p, x.block < W.heap.size := by obtain ⟨m, hm⟩ := k0; exact DataW.trod_lt m _ _ _ hm
 obtain ⟨z0, w0, e0, f0⟩ := bytes_of_trod h0
 clear hA0 hval0
 refine (walk_lstgot W (tabs_of_laid hL) a0 len0 cap0 z0 w0 e0 f0).mono fun e W' ⟨he, bel⟩ => ?_
 subst he
 exact ⟨_, rfl, _, _, _, [], _, _, hW', trodAll_mk1 (shut_bool Tryd.underlying4 _), (trodAll_mk1 (Below.trod laidOut (by kernel_rfl) (of_decide_eq_true (by kernel_rfl)) k0 bel lt0)), Below.trodVars laidOut bel (by kernel_rfl) hV, bel.frame _, fun h => by cases h⟩
end lstgot

theorem fnGot_row : Rows.FnGotSaid :=
 OpenClaim.holds_of_wide 4 Tryd.f4 rfl rfl rfl rfl rfl rfl rfl ⟨rfl, rfl, rfl, rfl, rfl⟩ rfl rfl rfl rfl rfl (by kernel_rfl) Tryd.func4 (by kernel_rfl)
  (of_decide_eq_true (by kernel_rfl)) (by unfold Func.isWrapper; first | (rw [if_pos (by decide +kernel)]; kernel_rfl) | (rw [if_neg (by decide +kernel)]; exact ⟨rfl, rfl⟩))
  (fun os started H enc _ => lstgot.lifted os started H enc)

theorem fnGot_card : Rows.FnGotCardSaid :=
 Claim7.holds_tied_plain_at .later [] Rows.fnGotCard.laidKinds true Rows.fnGotCard.stood.harness true
  fnGot_row (fun _ h => by cases h) (by kernel_rfl) (fun _ h => by cases h) fnGot_row_tie rfl ⟨rfl, rfl⟩ (by kernel_rfl) rfl
  (fun g fn hg hfn => by
   obtain rfl : g = 4 := Option.some.inj ((show Tryd.prog.funcNamed Rows.fnGotRow.func = some 4 by kernel_rfl).symm.trans hg) |>.symm
   obtain rfl : fn = Tryd.f4 := (Option.some.inj (Tryd.func4.symm.trans hfn)).symm
   refine ⟨by kernel_rfl, fun j t ht => ?_⟩
   have h3 : ∀ t ∈ Tryd.f4.params.toList, Tryd.prog.wantsStandIn t = false := of_decide_eq_true (by kernel_rfl)
   exact h3 t (Array.mem_toList_iff.2 (Array.mem_of_getElem? ht)))
  (by kernel_rfl)
#print axioms fnGot_card
end Go.Proofs.YtjcbeihoeanhaaaDoor
