/- FnWayFresh: a way is new when nothing is on it, whatever is drawn. FnWayFresh: a way is new when nothing is on it, whatever is drawn. The tables read as the program's text lays them. -/
import Derived.Test.YtjcbeihoeanhaaaDoorUPlX
import Derived.Test.YtjcbeihoeanhaaaDoorUIWy
import Derived.Test.YtjcbeihoeanhaaaDoorUSte
set_option maxRecDepth 100000
set_option maxHeartbeats 8000000
set_option linter.unusedVariables false
set_option linter.unusedSimpArgs false
/-! LWayFreshW -/
namespace Go.Proofs.YtjcbeihoeanhaaaDoor
open Go.RowKit Go.ChangeShapes Go.WideShapes Go.ChangeAt Go.Joins
theorem wmay7 {x y : StL} (hx : stB x = true) (hy : stB y = true) {r : Bool} (hr : r = decide (y.way = 4 ∧ y.want = x.want ∧ liveN y = 0)) : wmayB x y 7 = decide (x.way = 4 ∧ liveN x = 0 ∧ (r = true ∨ y.ver = x.want)) := by
 unfold wmayB; rw [hx, hy, hr]; simp [mayB]
theorem live0 {x : StL} (h : stB x = true) : (liveL x).length = 0 ↔ liveN x = 0 := liveL_zero h (stB_ok h).2.2.1.1
theorem walk_lwayfresh (w : World) (ht : Tabs w) (a0 : Option Addr) (len0 cap0 : Nat) (z0 : List Int) (h : Bytes w a0 len0 z0) (e0 : len0 ≤ cap0) (f0 : cap0 ≤ maxLen) :
  Calls Tryd.prog 12 #[.slice a0 len0 cap0] w fun e w' => e = .returned (.bool true) ∧ Below w.heap.size w w' := by
 have HT := hH ht; have HD := hH (drawWayMay_any a0 len0 cap0 z0 w h e0 f0); clear h ht e0 f0
 by_cases hs : (len0 : Int) ≤ 1048576
 case neg =>
  go_enter Tryd.func12, Tryd.ntmps12
  go_wp2; go_ret; exact ⟨rfl, Below.refl _ _⟩
 go_enter Tryd.func12, Tryd.ntmps12
 go_wp2_with fail; refine HD.out.mono ?_; rintro e w1 ⟨s, o, k, rfl, hs, ho, -, -, hk1⟩; obtain ⟨b, hb9⟩ : ∃ b, wmayB s.x o.x k = b := ⟨_, rfl⟩
 have hbb : (b != b) = false := by cases b <;> rfl
 have hbe : (b == b) = true := by cases b <;> rfl
 have HIM := hH (fun W (hx : StAt W s.x s.A1 s.A2 s.A3 s.A4) (hy : StAt W o.x o.A1 o.A2 o.A3 o.A4) (hT : Tabs W) => (show Calls Tryd.prog 35 #[stV s.x s.A1 s.A2 s.A3 s.A4 s.c1 s.c2 s.c3 s.c4, stV o.x o.A1 o.A2 o.A3 o.A4 o.c1 o.c2 o.c3 o.c4, .int .i64 k] W (fun e w' => e = .returned (.bool b) ∧ Keeps noBlk W w') from by have h9 := implMay_any s.x o.x s.A1 s.A2 s.A3 s.A4 o.A1 o.A2 o.A3 o.A4 s.c1 s.c2 s.c3 s.c4 o.c1 o.c2 o.c3 o.c4 k W hx hy hT; rw [hb9] at h9; exact h9)); have HSM := hH (fun W (hx : StAt W s.x s.A1 s.A2 s.A3 s.A4) (hy : StAt W o.x o.A1 o.A2 o.A3 o.A4) => (show Calls Tryd.prog 36 #[stV s.x s.A1 s.A2 s.A3 s.A4 s.c1 s.c2 s.c3 s.c4, stV o.x o.A1 o.A2 o.A3 o.A4 o.c1 o.c2 o.c3 o.c4, .int .i64 k] W (fun e w' => e = .returned (.bool b) ∧ Keeps noBlk W w') from by have h9 := specMay_any s.x o.x s.A1 s.A2 s.A3 s.A4 o.A1 o.A2 o.A3 o.A4 s.c1 s.c2 s.c3 s.c4 o.c1 o.c2 o.c3 o.c4 k W hx hy; rw [hb9] at h9; exact h9)); clear hb9; have HA := hH (hs.kept (((Keeps.refl noBlk w1).alloc (.cells (smC s) 27)).alloc (.cells (smC o) 27))); have HO := hH (ho.kept (((Keeps.refl noBlk w1).alloc (.cells (smC s) 27)).alloc (.cells (smC o) 27))); have HK := hH ((hk1.alloc (.cells (smC s) 27)).alloc (.cells (smC o) 27)); have sz1 := hk1.size; clear hs ho hk1 HD; dsimp only [StM.val]; have HBs := hH ((Box.new w1 _ rfl 27 (smC s)).alloc (.cells (smC o) 27)); have HBo := hH (Box.new (w1.alloc (.cells (smC s) 27)) (w1.heap.size + 1) (by simp) 27 (smC o)); go_wp2_with fail; refine (HIM.out _ HA.out HO.out (HT.out.keeps HK.out)).mono ?_; rintro e w2 ⟨rfl, hk2⟩; replace HBs := hH (HBs.out.keeps hk2 (fun h => h)); replace HBo := hH (HBo.out.keeps hk2 (fun h => h)); replace HA := hH ((HA.out).kept hk2); replace HO := hH ((HO.out).kept hk2); replace HK := hH (HK.out.trans hk2); have sz2 := hk2.size
 (try simp at sz2)
 clear hk2; have hb := HBs.out; obtain ⟨s0, s1, s2, s3, s4, s5, s6⟩ := hb.cells7; have zs := hb.lt; clear hb; have hb := HBo.out; obtain ⟨o0, o1, o2, o3, o4, o5, o6⟩ := hb.cells7; have zo := hb.lt; clear hb; go_wp2_with fail; refine (HSM.out _ HA.out HO.out).mono ?_; rintro e w3 ⟨rfl, hk3⟩; clear s0 s1 s2 s3 s4 s5 s6 o0 o1 o2 o3 o4 o5 o6 zs zo; replace HBs := hH (HBs.out.keeps hk3 (fun h => h)); replace HBo := hH (HBo.out.keeps hk3 (fun h => h)); replace HA := hH ((HA.out).kept hk3); replace HO := hH ((HO.out).kept hk3); replace HK := hH (HK.out.trans hk3); have sz3 := hk3.size
 (try simp at sz3)
 clear hk3; have hb := HBs.out; obtain ⟨s0, s1, s2, s3, s4, s5, s6⟩ := hb.cells7; have zs := hb.lt; clear hb; have hb := HBo.out; obtain ⟨o0, o1, o2, o3, o4, o5, o6⟩ := hb.cells7; have zo := hb.lt; clear hb
 rcases Bool.eq_false_or_eq_true (stB s.x) with h1 | h1
 ·skip
  go_wp2_with fail; refine (specSt_any s.x s.A1 s.A2 s.A3 s.A4 s.c1 s.c2 s.c3 s.c4 _ HA.out).mono ?_; rintro e w4 ⟨rfl, hk4⟩; clear s0 s1 s2 s3 s4 s5 s6 o0 o1 o2 o3 o4 o5 o6 zs zo; replace HBs := hH (HBs.out.keeps hk4 (fun h => h)); replace HBo := hH (HBo.out.keeps hk4 (fun h => h)); replace HA := hH ((HA.out).kept hk4); replace HO := hH ((HO.out).kept hk4); replace HK := hH (HK.out.trans hk4); have sz4 := hk4.size
  (try simp at sz4)
  clear hk4; have hb := HBs.out; obtain ⟨s0, s1, s2, s3, s4, s5, s6⟩ := hb.cells7; have zs := hb.lt; clear hb; have hb := HBo.out; obtain ⟨o0, o1, o2, o3, o4, o5, o6⟩ := hb.cells7; have zo := hb.lt; clear hb
  rcases Bool.eq_false_or_eq_true (stB o.x) with h2 | h2
  ·skip
   go_wp2_with fail; refine (specSt_any o.x o.A1 o.A2 o.A3 o.A4 o.c1 o.c2 o.c3 o.c4 _ HO.out).mono ?_; rintro e w5 ⟨rfl, hk5⟩; clear s0 s1 s2 s3 s4 s5 s6 o0 o1 o2 o3 o4 o5 o6 zs zo; replace HBs := hH (HBs.out.keeps hk5 (fun h => h)); replace HBo := hH (HBo.out.keeps hk5 (fun h => h)); replace HA := hH ((HA.out).kept hk5); replace HO := hH ((HO.out).kept hk5); replace HK := hH (HK.out.trans hk5); have sz5 := hk5.size
   (try simp at sz5)
   clear hk5; have hb := HBs.out; obtain ⟨s0, s1, s2, s3, s4, s5, s6⟩ := hb.cells7; have zs := hb.lt; clear hb; have hb := HBo.out; obtain ⟨o0, o1, o2, o3, o4, o5, o6⟩ := hb.cells7; have zo := hb.lt; clear hb; obtain ⟨b7, h7⟩ : ∃ b7, wmayB s.x o.x 7 = b7 := ⟨_, rfl⟩; have HI7 := hH (fun W (hx : StAt W s.x s.A1 s.A2 s.A3 s.A4) (hy : StAt W o.x o.A1 o.A2 o.A3 o.A4) (hT : Tabs W) => (show Calls Tryd.prog 35 #[stV s.x s.A1 s.A2 s.A3 s.A4 s.c1 s.c2 s.c3 s.c4, stV o.x o.A1 o.A2 o.A3 o.A4 o.c1 o.c2 o.c3 o.c4, .int .i64 7] W (fun e w' => e = .returned (.bool b7) ∧ Keeps noBlk W w') from by have h9 := implMay_any s.x o.x s.A1 s.A2 s.A3 s.A4 o.A1 o.A2 o.A3 o.A4 s.c1 s.c2 s.c3 s.c4 o.c1 o.c2 o.c3 o.c4 7 W hx hy hT; rw [h7] at h9; exact h9)); go_wp2_with fail; refine (HI7.out _ HA.out HO.out (HT.out.keeps HK.out)).mono ?_; rintro e w6 ⟨rfl, hk6⟩; clear s0 s1 s2 s3 s4 s5 s6 o0 o1 o2 o3 o4 o5 o6 zs zo; replace HBs := hH (HBs.out.keeps hk6 (fun h => h)); replace HBo := hH (HBo.out.keeps hk6 (fun h => h)); replace HA := hH ((HA.out).kept hk6); replace HO := hH ((HO.out).kept hk6); replace HK := hH (HK.out.trans hk6); have sz6 := hk6.size
   (try simp at sz6)
   clear hk6; have hb := HBs.out; obtain ⟨s0, s1, s2, s3, s4, s5, s6⟩ := hb.cells7; have zs := hb.lt; clear hb; have hb := HBo.out; obtain ⟨o0, o1, o2, o3, o4, o5, o6⟩ := hb.cells7; have zo := hb.lt; clear hb; have H1 := hH h1; have H2 := hH h2; have H7 := hH h7; clear h7 HIM HSM HI7; have HLS := hH (fun W (h : StAt W s.x s.A1 s.A2 s.A3 s.A4) (hT : Tabs W) => implLive_any s.x s.A1 s.A2 s.A3 s.A4 s.c1 s.c2 s.c3 s.c4 W h hT); have HLO := hH (fun W (h : StAt W o.x o.A1 o.A2 o.A3 o.A4) (hT : Tabs W) => implLive_any o.x o.A1 o.A2 o.A3 o.A4 o.c1 o.c2 o.c3 o.c4 W h hT); have HLZ := hH (live0 h1); have HOZ := hH (live0 h2); generalize liveL s.x = Ls at HLS HLZ; generalize liveL o.x = Lo at HLO HOZ
   go_upto_region 8 with fail
   clear h1 h2; clear s0 s1 s2 s3 s4 s5 s6 o0 o1 o2 o3 o4 o5 o6 zs zo
   go_cut [8] from 47 to 62 (fun so wx => ∃ r : Bool, so = .bool r ∧ r = decide (o.x.way = 4 ∧ o.x.want = s.x.want ∧ liveN o.x = 0) ∧ StAt wx s.x s.A1 s.A2 s.A3 s.A4 ∧ StAt wx o.x o.A1 o.A2 o.A3 o.A4 ∧ Box wx (w1.heap.size) 27 (smC s) ∧ Box wx (w1.heap.size + 1) 27 (smC o) ∧ Keeps noBlk w wx)
   case first =>
    have hb := HBs.out; obtain ⟨s0, s1, s2, s3, s4, s5, s6⟩ := hb.cells7; have zs := hb.lt; clear hb; have hb := HBo.out; obtain ⟨o0, o1, o2, o3, o4, o5, o6⟩ := hb.cells7; have zo := hb.lt; clear hb
    by_cases a1 : o.x.way = 4
    ·have d1 : (o.x.way == 4) = true := by rw [beq_iff_eq]; exact a1
     by_cases a2 : o.x.want = s.x.want
     ·have d2 : (o.x.want == s.x.want) = true := by rw [beq_iff_eq]; exact a2
      have A12 := hH (And.intro a1 a2); clear a1 a2; go_wp2_with fail; refine (HLO.out _ HO.out (HT.out.keeps HK.out)).mono ?_; rintro e w7 ⟨v2, rfl, ho2, hk7⟩; obtain ⟨GA, Gc, rfl, hg0, _⟩ := Row.of_own ho2; clear ho2 hg0; clear s0 s1 s2 s3 s4 s5 s6 o0 o1 o2 o3 o4 o5 o6 zs zo; replace HBs := hH (HBs.out.keeps hk7 (fun h => h)); replace HBo := hH (HBo.out.keeps hk7 (fun h => h)); replace HA := hH ((HA.out).kept hk7); replace HO := hH ((HO.out).kept hk7); replace HK := hH (HK.out.trans hk7); have sz7 := hk7.size
      (try simp at sz7)
      clear hk7; go_wp2_with fail
      go_meet
      exact ⟨_, rfl, by rw [Bool.eq_iff_iff]; simp only [decide_eq_true_eq, beq_iff_eq]; have h9 := HOZ.out; obtain ⟨q1, q2⟩ := A12.out; exact ⟨fun h => ⟨q1, q2, h9.1 (by omega)⟩, fun h => by have := h9.2 h.2.2; omega⟩, HA.out, HO.out, HBs.out, HBo.out, HK.out⟩
     ·have d2 : (o.x.want == s.x.want) = false := by rw [beq_eq_false_iff_ne]; exact a2
      have A2 := hH a2; clear a1 a2; go_wp2_with fail
      go_meet
      exact ⟨false, rfl, (decide_eq_false fun h => A2.out h.2.1).symm, HA.out, HO.out, HBs.out, HBo.out, HK.out⟩
    ·have d1 : (o.x.way == 4) = false := by rw [beq_eq_false_iff_ne]; exact a1
     have A1 := hH a1; clear a1; go_wp2_with fail
     go_meet
     exact ⟨false, rfl, (decide_eq_false fun h => A1.out h.1).symm, HA.out, HO.out, HBs.out, HBo.out, HK.out⟩
   case rest =>
    obtain ⟨r, rfl, hr, ha, ho, hbs, hbo, hk⟩ := hcut; clear HA HO HBs HBo HK; have HA := hH ha; have HO := hH ho; have HBs := hH hbs; have HBo := hH hbo; have HK := hH hk; have h7 := wmay7 H1.out H2.out hr; rw [H7.out] at h7; clear ha ho hbs hbo hk hr; obtain ⟨w20, hww⟩ : ∃ x, x = wc := ⟨_, rfl⟩; subst hww; have hb := HBs.out; obtain ⟨s0, s1, s2, s3, s4, s5, s6⟩ := hb.cells7; have zs := hb.lt; clear hb; have hb := HBo.out; obtain ⟨o0, o1, o2, o3, o4, o5, o6⟩ := hb.cells7; have zo := hb.lt; clear hb
    by_cases c1 : s.x.way = 4
    ·have d1 : (s.x.way == 4) = true := by rw [beq_iff_eq]; exact c1
     have C1 := hH c1; have H7' := hH h7; clear c1 h7; go_wp2_with fail; refine (HLS.out _ HA.out (HT.out.keeps HK.out)).mono ?_; rintro e w7 ⟨v2, rfl, ho2, hk7⟩; obtain ⟨GA, Gc, rfl, hg0, _⟩ := Row.of_own ho2; clear ho2 hg0; clear s0 s1 s2 s3 s4 s5 s6 o0 o1 o2 o3 o4 o5 o6 zs zo; replace HBs := hH (HBs.out.keeps hk7 (fun h => h)); replace HBo := hH (HBo.out.keeps hk7 (fun h => h)); replace HA := hH ((HA.out).kept hk7); replace HO := hH ((HO.out).kept hk7); replace HK := hH (HK.out.trans hk7); have sz7 := hk7.size
     (try simp at sz7)
     clear hk7; have hb := HBs.out; obtain ⟨s0, s1, s2, s3, s4, s5, s6⟩ := hb.cells7; have zs := hb.lt; clear hb; have hb := HBo.out; obtain ⟨o0, o1, o2, o3, o4, o5, o6⟩ := hb.cells7; have zo := hb.lt; clear hb
     by_cases c2 : Ls.length = 0
     ·have d2 : ((Ls.length : Int) == 0) = true := by rw [beq_iff_eq]; omega
      have hl := HLZ.out.1 c2; have h7 := H7'.out; simp only [C1.out, hl, true_and] at h7; clear c2 hl
      cases r with
      | true =>
       obtain rfl : b7 = true := by rw [h7]; simp
       clear h7; go_wp2; go_ret; exact ⟨rfl, HK.out.below⟩
      | false =>
       by_cases c3 : o.x.ver = s.x.want
       ·have d3 : (o.x.ver == s.x.want) = true := by rw [beq_iff_eq]; exact c3
        obtain rfl : b7 = true := by rw [h7]; simp [c3]
        clear h7 c3; go_wp2; go_ret; exact ⟨rfl, HK.out.below⟩
       ·have d3 : (o.x.ver == s.x.want) = false := by rw [beq_eq_false_iff_ne]; exact c3
        obtain rfl : b7 = false := by rw [h7]; simp [c3]
        clear h7 c3; go_wp2; go_ret; exact ⟨rfl, HK.out.below⟩
     ·have d2 : ((Ls.length : Int) == 0) = false := by rw [beq_eq_false_iff_ne]; omega
      obtain rfl : b7 = false := by rw [H7'.out]; exact decide_eq_false fun h => c2 (HLZ.out.2 h.2.1)
      clear c2; go_wp2; go_ret; exact ⟨rfl, HK.out.below⟩
    ·have d1 : (s.x.way == 4) = false := by rw [beq_eq_false_iff_ne]; exact c1
     obtain rfl : b7 = false := by rw [h7]; exact decide_eq_false fun h => c1 h.1
     clear h7 c1; go_wp2; go_ret; exact ⟨rfl, HK.out.below⟩
  ·skip
   go_wp2_with fail; refine (specSt_any o.x o.A1 o.A2 o.A3 o.A4 o.c1 o.c2 o.c3 o.c4 _ HO.out).mono ?_; rintro e w5 ⟨rfl, hk5⟩; clear s0 s1 s2 s3 s4 s5 s6 o0 o1 o2 o3 o4 o5 o6 zs zo; replace HBs := hH (HBs.out.keeps hk5 (fun h => h)); replace HBo := hH (HBo.out.keeps hk5 (fun h => h)); replace HA := hH ((HA.out).kept hk5); replace HO := hH ((HO.out).kept hk5); replace HK := hH (HK.out.trans hk5); have sz5 := hk5.size
   (try simp at sz5)
   clear hk5; have hb := HBs.out; obtain ⟨s0, s1, s2, s3, s4, s5, s6⟩ := hb.cells7; have zs := hb.lt; clear hb; have hb := HBo.out; obtain ⟨o0, o1, o2, o3, o4, o5, o6⟩ := hb.cells7; have zo := hb.lt; clear hb; go_wp2_with fail; refine (HSM.out _ HA.out HO.out).mono ?_; rintro e w6 ⟨rfl, hk6⟩; clear s0 s1 s2 s3 s4 s5 s6 o0 o1 o2 o3 o4 o5 o6 zs zo; replace HBs := hH (HBs.out.keeps hk6 (fun h => h)); replace HBo := hH (HBo.out.keeps hk6 (fun h => h)); replace HA := hH ((HA.out).kept hk6); replace HO := hH ((HO.out).kept hk6); replace HK := hH (HK.out.trans hk6); have sz6 := hk6.size
   (try simp at sz6)
   clear hk6; go_wp2; go_ret; exact ⟨rfl, HK.out.below⟩
 ·skip
  go_wp2_with fail; refine (specSt_any s.x s.A1 s.A2 s.A3 s.A4 s.c1 s.c2 s.c3 s.c4 _ HA.out).mono ?_; rintro e w4 ⟨rfl, hk4⟩; clear s0 s1 s2 s3 s4 s5 s6 o0 o1 o2 o3 o4 o5 o6 zs zo; replace HBs := hH (HBs.out.keeps hk4 (fun h => h)); replace HBo := hH (HBo.out.keeps hk4 (fun h => h)); replace HA := hH ((HA.out).kept hk4); replace HO := hH ((HO.out).kept hk4); replace HK := hH (HK.out.trans hk4); have sz4 := hk4.size
  (try simp at sz4)
  clear hk4; have hb := HBs.out; obtain ⟨s0, s1, s2, s3, s4, s5, s6⟩ := hb.cells7; have zs := hb.lt; clear hb; have hb := HBo.out; obtain ⟨o0, o1, o2, o3, o4, o5, o6⟩ := hb.cells7; have zo := hb.lt; clear hb; go_wp2_with fail; refine (HSM.out _ HA.out HO.out).mono ?_; rintro e w5 ⟨rfl, hk5⟩; clear s0 s1 s2 s3 s4 s5 s6 o0 o1 o2 o3 o4 o5 o6 zs zo; replace HBs := hH (HBs.out.keeps hk5 (fun h => h)); replace HBo := hH (HBo.out.keeps hk5 (fun h => h)); replace HA := hH ((HA.out).kept hk5); replace HO := hH ((HO.out).kept hk5); replace HK := hH (HK.out.trans hk5); have sz5 := hk5.size
  (try simp at sz5)
  clear hk5; go_wp2; go_ret; exact ⟨rfl, HK.out.below⟩
namespace lwayfresh
theorem lifted (os : Os) (started : os.Started) (H : Type) (enc : TypeId × Value → H) :
  ReturnsInHanded {} Tryd.checked os 12 .any (fun w args => (Rows.fnWayFreshSpec.pre enc Tryd.prog Tryd.f12 [] false w args ∧ laidMetH Tryd.prog Rows.fnWayFreshRow.laid w) ∧ sizedMet enc Tryd.prog Tryd.f12 (OpenSpec.ofChange Rows.fnWayFreshSpec) false w args)
   (Rows.fnWayFreshSpec.post enc Tryd.prog Tryd.f12 false true false false) := by
 refine returnsInHanded_of_change_and (C := Tryd.checked) (X := fun w _ => laidMetH Tryd.prog Rows.fnWayFreshRow.laid w) (fun _ _ _ hh h => h.of_heap hh) own started (by kernel_rfl) Tryd.func12
  (ChangeSpec.witness_shaped (enc := enc) (C := Tryd.checked) (os := os) (X := fun w _ => laidMetH Tryd.prog Rows.fnWayFreshRow.laid w) false (World.doorLaid Tryd.prog 101 os) #[.slice none 0 0] 8 rfl (World.shaped_of_RefB (by kernel_rfl) (by kernel_rfl)) (by kernel_rfl) (by kernel_rfl) (by kernel_rfl) (door_met os _)) ?_
 intro W base args ds gs before hval0 hW _ _ hL _; have hval : ∀ (j : Nat) t v, Tryd.f12.params[j]? = some t → args[j]? = some v → Value.okWide Tryd.prog W .any base t v := hval0; have hW' := hW; obtain ⟨p, q, hA0, hV, rfl, hfz, hnd⟩ := hW; have hA : DataW.TrodAll enc Tryd.prog W 0 (fun _ => true) true Tryd.f12.params.toList args.toList ds p := hA0; rw [Tryd.params12 ] at hA hval; obtain ⟨g0, g1, rfl⟩ := vars2 hV; obtain ⟨v0, d0, rfl, rfl, h0⟩ := trodAll_one hA; obtain ⟨a0, len0, cap0, rfl⟩ := okWide_slice Tryd.underlying22 (hval 0 22 v0 rfl rfl); have k0 := h0
 have lt0 : ∀ x ∈ p, x.block < W.heap.size := by obtain ⟨m, hm⟩ := k0; exact DataW.trod_lt m _ _ _ hm
 obtain ⟨z0, w0, e0, f0⟩ := bytes_of_trod h0; clear hA0 hval0
 refine (walk_lwayfresh W (tabs_of_laid hL) a0 len0 cap0 z0 w0 e0 f0).mono fun e W' ⟨he, bel⟩ => ?_
 subst he; exact ⟨_, rfl, _, _, _, [], _, _, hW', trodAll_mk1 (shut_bool Tryd.underlying4 _), (trodAll_mk1 (Below.trod laidOut (by kernel_rfl) (of_decide_eq_true (by kernel_rfl)) k0 bel lt0)), Below.trodVars laidOut bel (by kernel_rfl) hV, bel.frame _, fun h => by cases h⟩
end lwayfresh

theorem fnWayFresh_row : Rows.FnWayFreshSaid :=
 OpenClaim.holds_of_wide 12 Tryd.f12 rfl rfl rfl rfl rfl rfl rfl ⟨rfl, rfl, rfl, rfl, rfl⟩ rfl rfl rfl rfl rfl (by kernel_rfl) Tryd.func12 (by kernel_rfl)
  (of_decide_eq_true (by kernel_rfl)) (by unfold Func.isWrapper; first | (rw [if_pos (by decide +kernel)]; kernel_rfl) | (rw [if_neg (by decide +kernel)]; exact ⟨rfl, rfl⟩))
  (fun os started H enc _ => lwayfresh.lifted os started H enc)

theorem fnWayFresh_card : Rows.FnWayFreshCardSaid :=
 Claim7.holds_tied_plain_at .later [] Rows.fnWayFreshCard.laidKinds true Rows.fnWayFreshCard.stood.harness true
  fnWayFresh_row (fun _ h => by cases h) (by kernel_rfl) (fun _ h => by cases h) fnWayFresh_row_tie rfl ⟨rfl, rfl⟩ (by kernel_rfl) rfl
  (fun g fn hg hfn => by
   obtain rfl : g = 12 := Option.some.inj ((show Tryd.prog.funcNamed Rows.fnWayFreshRow.func = some 12 by kernel_rfl).symm.trans hg) |>.symm
   obtain rfl : fn = Tryd.f12 := (Option.some.inj (Tryd.func12.symm.trans hfn)).symm; refine ⟨by kernel_rfl, fun j t ht => ?_⟩; have h3 : ∀ t ∈ Tryd.f12.params.toList, Tryd.prog.wantsStandIn t = false := of_decide_eq_true (by kernel_rfl)
   exact h3 t (Array.mem_toList_iff.2 (Array.mem_of_getElem? ht)))
  (by kernel_rfl)
#print axioms fnWayFresh_card
end Go.Proofs.YtjcbeihoeanhaaaDoor
