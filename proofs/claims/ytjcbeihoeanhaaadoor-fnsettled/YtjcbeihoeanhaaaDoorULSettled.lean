/- FnSettled: a packet is not settled, came, or was given back, whatever is drawn. FnSettled: a packet is not settled, came, or was given back, whatever is drawn. The tables read as the program's text lays them. -/
import Derived.Test.YtjcbeihoeanhaaaDoorPlU3
import Derived.Test.YtjcbeihoeanhaaaDoorUSte
set_option linter.unusedVariables false
set_option linter.unusedSimpArgs false
/-! LSettledW -/
set_option maxHeartbeats 8000000
set_option maxRecDepth 100000
namespace Go.Proofs.YtjcbeihoeanhaaaDoor
open Go.RowKit Go.ChangeShapes Go.WideShapes Go.ChangeAt Go.Joins
theorem liveTo_mem {x : StL} {n j : Nat} (hj : j < n) : ((j : Int) + 1 ∈ liveTo x n) ↔ x.live.getD j false = true := by
 induction n with
 | zero => omega
 | succ n ih =>
  have hb : ∀ m, ∀ z ∈ liveTo x m, z ≤ (m : Int) := by
   intro m
   induction m with
   | zero => intro z hz; simp [liveTo] at hz
   | succ m im =>
    intro z hz
    rw [liveTo] at hz
    split at hz
    ·rcases List.mem_append.1 hz with h | h
     ·have := im z h; omega
     ·rw [List.mem_singleton] at h; omega
    ·have := im z hz; omega
  cases hv : x.live.getD n false with
  | true =>
   rw [liveTo_yes hv, List.mem_append, List.mem_singleton]
   rcases Nat.lt_or_ge j n with h | h
   ·rw [ih h]
    constructor
    ·rintro (h1 | h1)
     ·exact h1
     ·omega
    ·exact .inl
   ·obtain rfl : j = n := by omega
    exact ⟨fun _ => hv, fun _ => .inr rfl⟩
  | false =>
   rw [liveTo_no hv]
   rcases Nat.lt_or_ge j n with h | h
   ·exact ih h
   ·obtain rfl : j = n := by omega
    constructor
    ·intro h1
     have := hb _ _ h1
     omega
    ·intro h1
     rw [hv] at h1
     cases h1
theorem setN_in {x : StL} (h : stB x = true) {j : Nat} (hj : j < x.sent.length) : setN x ((j : Int) + 1) = setOf (x.live.getD j false) (x.back.getD j false) := by
 unfold setN
 rw [if_pos ⟨h, by omega, by omega⟩, show ((j : Int) + 1 - 1).toNat = j by omega]
theorem setN_out {x : StL} {q : Int} (h : q < 1 ∨ (x.sent.length : Int) < q) : setN x q = 0 := by
 unfold setN
 rw [if_neg]
 omega
theorem walk_lstset (w : World) (ht : Tabs w) (a0 : Option Addr) (len0 cap0 : Nat) (z0 : List Int) (h : Bytes w a0 len0 z0) (e0 : len0 ≤ cap0) (f0 : cap0 ≤ maxLen) :
  Calls Tryd.prog 5 #[.slice a0 len0 cap0] w fun e w' => e = .returned (.bool true) ∧ Below w.heap.size w w' := by
 have HT := hH ht
 have HD := hH (drawStSettled_any a0 len0 cap0 z0 w h e0 f0)
 clear h ht e0 f0
 by_cases hs : (len0 : Int) ≤ 1048576
 case neg =>
  go_enter Tryd.func5, Tryd.ntmps5
  go_wp2
  go_ret
  exact ⟨rfl, Below.refl _ _⟩
 go_enter Tryd.func5, Tryd.ntmps5
 go_wp2_with fail
 refine HD.out.mono ?_
 rintro e w1 ⟨s, q, rfl, hat, hk1⟩
 have hm := hat.2.1
 obtain ⟨n, hn⟩ : ∃ n, setN s.x q = n := ⟨_, rfl⟩
 have HIG := hH (fun W (h : StAt W s.x s.A1 s.A2 s.A3 s.A4) (hT : Tabs W) => (show Calls Tryd.prog 25 #[stV s.x s.A1 s.A2 s.A3 s.A4 s.c1 s.c2 s.c3 s.c4, .int .i64 q] W (fun e w' => e = .returned (.int .i64 n) ∧ Keeps noBlk W w') from by rw [← hn]; exact implSet_any s.x s.A1 s.A2 s.A3 s.A4 s.c1 s.c2 s.c3 s.c4 q W h hT))
 have HSG := hH (fun W (h : StAt W s.x s.A1 s.A2 s.A3 s.A4) => (show Calls Tryd.prog 26 #[stV s.x s.A1 s.A2 s.A3 s.A4 s.c1 s.c2 s.c3 s.c4, .int .i64 q] W (fun e w' => e = .returned (.int .i64 n) ∧ Keeps noBlk W w') from by rw [← hn]; exact specSet_any s.x s.A1 s.A2 s.A3 s.A4 s.c1 s.c2 s.c3 s.c4 q W h))
 have HA := hH hat
 have HK := hH hk1
 have sz1 := hk1.size
 clear hat hk1 HD
 dsimp only [StM.val]
 replace HA := hH ((HA.out).kept ((Keeps.refl noBlk w1).alloc (.cells (smC s) 27)))
 replace HK := hH (HK.out.alloc (.cells (smC s) 27))
 have HBs := hH (Box.new w1 _ rfl 27 (smC s))
 go_wp2_with fail
 refine (HIG.out _ HA.out (HT.out.keeps HK.out)).mono ?_
 rintro e w2 ⟨rfl, hk2⟩
 replace HBs := hH (HBs.out.keeps hk2 (fun h => h))
 replace HA := hH ((HA.out).kept hk2)
 replace HK := hH (HK.out.trans hk2)
 have sz2 := hk2.size
 (try simp at sz2)
 clear hk2
 have hb := HBs.out
 obtain ⟨s0, s1, s2, s3, s4, s5, s6⟩ := hb.cells7
 have zs := hb.lt
 clear hb
 go_wp2_with fail
 refine (HSG.out _ HA.out).mono ?_
 rintro e w3 ⟨rfl, hk3⟩
 clear s0 s1 s2 s3 s4 s5 s6 zs
 replace HBs := hH (HBs.out.keeps hk3 (fun h => h))
 replace HA := hH ((HA.out).kept hk3)
 replace HK := hH (HK.out.trans hk3)
 have sz3 := hk3.size
 (try simp at sz3)
 clear hk3
 have hb := HBs.out
 obtain ⟨s0, s1, s2, s3, s4, s5, s6⟩ := hb.cells7
 have zs := hb.lt
 clear hb
 rcases Bool.eq_false_or_eq_true (stB s.x) with ho | ho
 ·skip
  go_wp2_with fail
  refine (specSt_any s.x s.A1 s.A2 s.A3 s.A4 s.c1 s.c2 s.c3 s.c4 _ HA.out).mono ?_
  rintro e w4 ⟨rfl, hk4⟩
  clear s0 s1 s2 s3 s4 s5 s6 zs
  replace HBs := hH (HBs.out.keeps hk4 (fun h => h))
  replace HA := hH ((HA.out).kept hk4)
  replace HK := hH (HK.out.trans hk4)
  have sz4 := hk4.size
  (try simp at sz4)
  clear hk4
  have hb := HBs.out
  obtain ⟨s0, s1, s2, s3, s4, s5, s6⟩ := hb.cells7
  have zs := hb.lt
  clear hb
  have h8 : s.x.sent.length ≤ 8 := (stB_ok ho).2.1.small
  have h8i : (s.x.sent.length : Int) ≤ 8 := by omega
  by_cases hin : 1 ≤ q ∧ q ≤ s.x.sent.length
  ·obtain ⟨hq1, hq8⟩ := hin
   obtain ⟨j, rfl⟩ : ∃ j : Nat, q = (j : Int) + 1 := ⟨(q - 1).toNat, by omega⟩
   have hj : j < s.x.sent.length := by omega
   have hfa := (stB_ok ho).2.2.1
   have hbl : s.x.back.length = s.x.sent.length := hfa.2.1
   have hlb := hfa.2.2 j hj
   have hji : (j : Int) < (s.x.back.length : Int) := by omega
   rw [setN_in ho hj] at hn
   have hmm := liveTo_mem (x := s.x) hj
   obtain ⟨L, hL⟩ : ∃ L, liveL s.x = L := ⟨_, rfl⟩
   have HIL := hH (fun W (h : StAt W s.x s.A1 s.A2 s.A3 s.A4) (hT : Tabs W) => (show Calls Tryd.prog 19 #[stV s.x s.A1 s.A2 s.A3 s.A4 s.c1 s.c2 s.c3 s.c4] W (RetOwn W L) from by rw [← hL]; exact implLive_any s.x s.A1 s.A2 s.A3 s.A4 s.c1 s.c2 s.c3 s.c4 W h hT))
   rw [liveL_ok ho] at hL
   rw [hL] at hmm
   have hLm : L.length ≤ maxLen := by have := liveTo_len s.x s.x.sent.length; rw [hL] at this; omega
   obtain ⟨bb, ob, eB, hbb, db⟩ := HA.out.1.2.2.1.at_ (show j < s.x.back.length by omega)
   generalize s.x.back.getD j false = bv at db hn hlb
   generalize s.x.live.getD j false = lv at hn hmm hlb
   have hdm : decide ((j : Int) + 1 ∈ L) = lv := by cases lv <;> simp [hmm]
   have HAM := hH (fun A c W (h : Ints W A L.length L) => (show Calls Tryd.prog 18 #[.slice A L.length c, .int .i64 ((j : Int) + 1)] W (fun e w' => e = .returned (.bool lv) ∧ Keeps noBlk W w') from by rw [← hdm]; exact lwAmong_any A c L _ W h hLm))
   have HEB := hH eB
   have HLM := hH hLm
   clear eB hdm hmm hL hfa hLm
   have HBL := hH hbl
   clear hbl
   have hw1 : IntKind.i64.wrap ((j : Int) + 1 - 1) = (j : Int) := by rw [show (j : Int) + 1 - 1 = (j : Int) by omega]; exact IntWalk.i64_in _ (by omega)
   have hw2 : (j : Int) + 1 - 1 = (j : Int) := by omega
   have hw3 : IntKind.i64.wrap (j : Int) = (j : Int) := IntWalk.i64_in _ (by omega)
   have HNN := hH hn
   have HLB := hH hlb
   clear hn hlb
   have HDB := hH (fun W (hk : Keeps noBlk w4 W) => (show W.cell? ⟨bb, ob + j, none⟩ = some (.bool bv) from (hk.cell hbb fun h => h).trans db))
   clear db
   have HKK := hH (Keeps.refl noBlk w4)
   go_wp2_with fail
   refine (HIL.out _ HA.out (HT.out.keeps HK.out)).mono ?_
   rintro e w5 ⟨v2, rfl, ho2, hk5⟩
   obtain ⟨GA, Gc, rfl, hg0, _⟩ := Row.of_own ho2
   have HG := hH hg0.ints
   clear ho2 hg0
   clear s0 s1 s2 s3 s4 s5 s6 zs
   replace HBs := hH (HBs.out.keeps hk5 (fun h => h))
   replace HA := hH ((HA.out).kept hk5)
   replace HKK := hH ((HKK.out).trans hk5)
   replace HK := hH (HK.out.trans hk5)
   have sz5 := hk5.size
   (try simp at sz5)
   clear hk5
   have hb := HBs.out
   obtain ⟨s0, s1, s2, s3, s4, s5, s6⟩ := hb.cells7
   have zs := hb.lt
   clear hb
   go_wp2_with fail
   refine (HAM.out GA Gc _ HG.out).mono ?_
   rintro e w6 ⟨rfl, hk6⟩
   clear s0 s1 s2 s3 s4 s5 s6 zs
   replace HBs := hH (HBs.out.keeps hk6 (fun h => h))
   replace HA := hH ((HA.out).kept hk6)
   replace HKK := hH ((HKK.out).trans hk6)
   replace HG := hH ((HG.out).keeps hk6 (fun _ _ h => h))
   replace HK := hH (HK.out.trans hk6)
   have sz6 := hk6.size
   (try simp at sz6)
   clear hk6
   have hb := HBs.out
   obtain ⟨s0, s1, s2, s3, s4, s5, s6⟩ := hb.cells7
   have zs := hb.lt
   clear hb
   rw [HEB.out] at s5
   have db := HDB.out _ HKK.out
   have hnn := HNN.out
   have hlb := HLB.out
   clear HNN HLB
   cases lv <;> cases bv <;> simp [setOf] at hnn hlb <;> subst hnn
   all_goals
    go_wp2
    go_ret
    exact ⟨rfl, HK.out.below⟩
  ·have hq9 : q < 1 ∨ (s.x.sent.length : Int) < q := by omega
   rw [setN_out hq9] at hn
   subst hn
   rcases hq9 with hq9 | hq9
   ·skip
    go_wp2
    go_ret
    exact ⟨rfl, HK.out.below⟩
   ·by_cases hq0 : q < 1
    ·skip
     go_wp2
     go_ret
     exact ⟨rfl, HK.out.below⟩
    ·skip
     go_wp2
     go_ret
     exact ⟨rfl, HK.out.below⟩
 ·skip
  go_wp2_with fail
  refine (specSt_any s.x s.A1 s.A2 s.A3 s.A4 s.c1 s.c2 s.c3 s.c4 _ HA.out).mono ?_
  rintro e w4 ⟨rfl, hk4⟩
  clear s0 s1 s2 s3 s4 s5 s6 zs
  replace HBs := hH (HBs.out.keeps hk4 (fun h => h))
  replace HA := hH ((HA.out).kept hk4)
  replace HK := hH (HK.out.trans hk4)
  have sz4 := hk4.size
  (try simp at sz4)
  clear hk4
  have hb := HBs.out
  obtain ⟨s0, s1, s2, s3, s4, s5, s6⟩ := hb.cells7
  have zs := hb.lt
  clear hb
  go_wp2_with fail
  refine (HSG.out _ HA.out).mono ?_
  rintro e w5 ⟨rfl, hk5⟩
  clear s0 s1 s2 s3 s4 s5 s6 zs
  replace HBs := hH (HBs.out.keeps hk5 (fun h => h))
  replace HA := hH ((HA.out).kept hk5)
  replace HK := hH (HK.out.trans hk5)
  have sz5 := hk5.size
  (try simp at sz5)
  clear hk5
  go_wp2
  go_ret
  exact ⟨rfl, HK.out.below⟩
set_option maxRecDepth 100000
namespace lstset
theorem lifted (os : Os) (started : os.Started) (H : Type) (enc : TypeId × Value → H) :
  ReturnsInHanded {} Tryd.checked os 5 .any (fun w args => (Rows.fnSettledSpec.pre enc Tryd.prog Tryd.f5 [] false w args ∧ laidMetH Tryd.prog Rows.fnSettledRow.laid w) ∧ sizedMet enc Tryd.prog Tryd.f5 (OpenSpec.ofChange Rows.fnSettledSpec) false w args)
   (Rows.fnSettledSpec.post enc Tryd.prog Tryd.f5 false true false false) := by
 refine returnsInHanded_of_change_and (C := Tryd.checked) (X := fun w _ => laidMetH Tryd.prog Rows.fnSettledRow.laid w) (fun _ _ _ hh h => h.of_heap hh) own started (by kernel_rfl) Tryd.func5
  (ChangeSpec.witness_shaped (enc := enc) (C := Tryd.checked) (os := os) (X := fun w _ => laidMetH Tryd.prog Rows.fnSettledRow.laid w) false (World.doorLaid Tryd.prog 101 os) #[.slice none 0 0] 8 rfl (World.shaped_of_RefB (by kernel_rfl) (by kernel_rfl)) (by kernel_rfl) (by kernel_rfl) (by kernel_rfl) (door_met os _)) ?_
 intro W base args ds gs before hval0 hW _ _ hL _
 have hval : ∀ (j : Nat) t v, Tryd.f5.params[j]? = some t → args[j]? = some v → Value.okWide Tryd.prog W .any base t v := hval0
 have hW' := hW
 obtain ⟨p, q, hA0, hV, rfl, hfz, hnd⟩ := hW
 have hA : DataW.TrodAll enc Tryd.prog W 0 (fun _ => true) true Tryd.f5.params.toList args.toList ds p := hA0
 rw [Tryd.params5 ] at hA hval
 obtain ⟨g0, g1, rfl⟩ := vars2 hV
 obtain ⟨v0, d0, rfl, rfl, h0⟩ := trodAll_one hA
 obtain ⟨a0, len0, cap0, rfl⟩ := okWide_slice Tryd.underlying22 (hval 0 22 v0 rfl rfl)
 have k0 := h0
 have lt0 : ∀ x ∈ p, x.block < W.heap.size := by obtain ⟨m, hm⟩ := k0; exact DataW.trod_lt m _ _ _ hm
 obtain ⟨z0, w0, e0, f0⟩ := bytes_of_trod h0
 clear hA0 hval0
 refine (walk_lstset W (tabs_of_laid hL) a0 len0 cap0 z0 w0 e0 f0).mono fun e W' ⟨he, bel⟩ => ?_
 subst he
 exact ⟨_, rfl, _, _, _, [], _, _, hW', trodAll_mk1 (shut_bool Tryd.underlying4 _), (trodAll_mk1 (Below.trod laidOut (by kernel_rfl) (of_decide_eq_true (by kernel_rfl)) k0 bel lt0)), Below.trodVars laidOut bel (by kernel_rfl) hV, bel.frame _, fun h => by cases h⟩
end lstset

theorem fnSettled_row : Rows.FnSettledSaid :=
 OpenClaim.holds_of_wide 5 Tryd.f5 rfl rfl rfl rfl rfl rfl rfl ⟨rfl, rfl, rfl, rfl, rfl⟩ rfl rfl rfl rfl rfl (by kernel_rfl) Tryd.func5 (by kernel_rfl)
  (of_decide_eq_true (by kernel_rfl)) (by unfold Func.isWrapper; first | (rw [if_pos (by decide +kernel)]; kernel_rfl) | (rw [if_neg (by decide +kernel)]; exact ⟨rfl, rfl⟩))
  (fun os started H enc _ => lstset.lifted os started H enc)

theorem fnSettled_card : Rows.FnSettledCardSaid :=
 Claim7.holds_tied_plain_at .later [] Rows.fnSettledCard.laidKinds true Rows.fnSettledCard.stood.harness true
  fnSettled_row (fun _ h => by cases h) (by kernel_rfl) (fun _ h => by cases h) fnSettled_row_tie rfl ⟨rfl, rfl⟩ (by kernel_rfl) rfl
  (fun g fn hg hfn => by
   obtain rfl : g = 5 := Option.some.inj ((show Tryd.prog.funcNamed Rows.fnSettledRow.func = some 5 by kernel_rfl).symm.trans hg) |>.symm
   obtain rfl : fn = Tryd.f5 := (Option.some.inj (Tryd.func5.symm.trans hfn)).symm
   refine ⟨by kernel_rfl, fun j t ht => ?_⟩
   have h3 : ∀ t ∈ Tryd.f5.params.toList, Tryd.prog.wantsStandIn t = false := of_decide_eq_true (by kernel_rfl)
   exact h3 t (Array.mem_toList_iff.2 (Array.mem_of_getElem? ht)))
  (by kernel_rfl)
#print axioms fnSettled_card
end Go.Proofs.YtjcbeihoeanhaaaDoor
