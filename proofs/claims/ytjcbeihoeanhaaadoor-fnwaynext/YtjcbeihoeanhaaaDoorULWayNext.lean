/- FnWayNext: what may be done is told, whatever is drawn. FnWayNext: what may be done is told, whatever is drawn. The tables read as the program's text lays them. -/
import Derived.Test.YtjcbeihoeanhaaaDoorUPlX
import Derived.Test.YtjcbeihoeanhaaaDoorINext
import Derived.Test.YtjcbeihoeanhaaaDoorULw
import Derived.Test.YtjcbeihoeanhaaaDoorUSte
set_option maxRecDepth 100000
set_option maxHeartbeats 8000000
set_option linter.unusedVariables false
set_option linter.unusedSimpArgs false
/-! LWayNextW -/
namespace Go.Proofs.YtjcbeihoeanhaaaDoor
open Go.RowKit Go.ChangeShapes Go.WideShapes Go.ChangeAt Go.Joins
theorem nextTo_pre (x y : StL) {i n : Nat} (h : i ≤ n) : ∃ l, nextTo x y n = nextTo x y i ++ l := by
 induction n with
 | zero => exact ⟨[], by rw [show i = 0 by omega, List.append_nil]⟩
 | succ n ih =>
  rcases Nat.lt_or_ge n i with h1 | h1
  ·exact ⟨[], by rw [show i = n + 1 by omega, List.append_nil]⟩
  ·obtain ⟨l, hl⟩ := ih h1
   cases hv : wmayB x y ((n : Int) + 1) with
   | true => exact ⟨l ++ [(n : Int) + 1], by rw [nextTo_yes hv, hl, List.append_assoc]⟩
   | false => exact ⟨l, by rw [nextTo_no hv, hl]⟩
theorem nextTo_at {x y : StL} {i n : Nat} (h : i < n) (hv : wmayB x y ((i : Int) + 1) = true) : (nextTo x y i).length < (nextTo x y n).length ∧ (nextTo x y n).getD (nextTo x y i).length 0 = (i : Int) + 1 := by
 obtain ⟨l, hl⟩ := nextTo_pre x y (show i + 1 ≤ n from h); rw [nextTo_yes hv] at hl; rw [hl]; refine ⟨by simp only [List.length_append, List.length_singleton]; omega, ?_⟩; rw [List.append_assoc, List.getD_eq_getElem?_getD, List.getElem?_append_right (Nat.le_refl _), Nat.sub_self]
 rfl
theorem wmay_rng {x y : StL} {k : Int} (h : wmayB x y k = true) : 1 ≤ k ∧ k ≤ 7 ∧ (k ≤ 4 → x.way < 3) ∧ (5 ≤ k → 3 ≤ x.way) := by
 have hm : mayB x y k = true := by unfold wmayB at h; simp only [Bool.and_eq_true] at h; exact h.2
 unfold mayB at hm
 split at hm
 ·have h2 := of_decide_eq_true hm; omega
 split at hm
 ·have h2 := of_decide_eq_true hm; omega
 split at hm
 ·have h2 := of_decide_eq_true hm; omega
 split at hm
 ·have h2 := of_decide_eq_true hm; omega
 split at hm
 ·have h2 := of_decide_eq_true hm; omega
 split at hm
 ·have h2 := of_decide_eq_true hm; omega
 split at hm
 ·have h2 := of_decide_eq_true hm; omega
 ·cases hm
def nxC (x y : StL) (i : Nat) : Nat := (nextTo x y (min (i - 1) 7)).length
theorem nxC_le (x y : StL) (i : Nat) : nxC x y i ≤ 7 := Nat.le_trans (nextTo_len x y _) (Nat.min_le_right _ _)
theorem nxC_end (x y : StL) : nxC x y 9 = (nextL x y).length := rfl
theorem nxC_no {x y : StL} {i : Nat} (h : wmayB x y (i : Int) = false) : nxC x y (i + 1) = nxC x y i := by
 unfold nxC
 rcases i with _ | j
 ·rfl
 ·rcases Nat.lt_or_ge j 7 with hj | hj
  ·rw [show min (j + 1 + 1 - 1) 7 = j + 1 by omega, show min (j + 1 - 1) 7 = j by omega, nextTo_no (by rw [← h]; congr 1)]
  ·rw [show min (j + 1 + 1 - 1) 7 = 7 by omega, show min (j + 1 - 1) 7 = 7 by omega]
theorem nxC_yes {x y : StL} {i : Nat} (h : wmayB x y (i : Int) = true) : nxC x y i < (nextL x y).length ∧ (nextL x y).getD (nxC x y i) 0 = (i : Int) ∧ nxC x y (i + 1) = nxC x y i + 1 := by
 have hr := wmay_rng h; obtain ⟨j, rfl⟩ : ∃ j, i = j + 1 := ⟨i - 1, by omega⟩
 have hj : j < 7 := by omega
 have h' : wmayB x y ((j : Int) + 1) = true := by rw [← h]; congr 1
 have h1 := nextTo_at hj h'; unfold nxC nextL; rw [show min (j + 1 + 1 - 1) 7 = j + 1 by omega, show min (j + 1 - 1) 7 = j by omega]; refine ⟨h1.1, by rw [h1.2]; omega, by rw [nextTo_yes h']; simp⟩
theorem walk_lwaynext (w : World) (ht : Tabs w) (a0 : Option Addr) (len0 cap0 : Nat) (z0 : List Int) (h : Bytes w a0 len0 z0) (e0 : len0 ≤ cap0) (f0 : cap0 ≤ maxLen) :
  Calls Tryd.prog 13 #[.slice a0 len0 cap0] w fun e w' => e = .returned (.bool true) ∧ Below w.heap.size w w' := by
 have HT := hH ht; have HD := hH (drawWayNext_any a0 len0 cap0 z0 w h e0 f0); clear h ht e0 f0
 by_cases hs : (len0 : Int) ≤ 1048576
 case neg =>
  go_enter Tryd.func13, Tryd.ntmps13
  go_wp2; go_ret; exact ⟨rfl, Below.refl _ _⟩
 go_enter Tryd.func13, Tryd.ntmps13
 go_wp2_with fail; refine HD.out.mono ?_; rintro e w1 ⟨s, o, rfl, hs, ho, hk1⟩; obtain ⟨L, hL⟩ : ∃ L, nextL s.x o.x = L := ⟨_, rfl⟩
 have hLm : L.length ≤ maxLen := by rw [← hL]; have := nextTo_len s.x o.x 7; unfold nextL maxLen; omega
 have HIN := hH (fun W (hx : StAt W s.x s.A1 s.A2 s.A3 s.A4) (hy : StAt W o.x o.A1 o.A2 o.A3 o.A4) (hT : Tabs W) => (show Calls Tryd.prog 38 #[stV s.x s.A1 s.A2 s.A3 s.A4 s.c1 s.c2 s.c3 s.c4, stV o.x o.A1 o.A2 o.A3 o.A4 o.c1 o.c2 o.c3 o.c4] W (RetInts W L) from by rw [← hL]; exact implNext_any s.x o.x s.A1 s.A2 s.A3 s.A4 o.A1 o.A2 o.A3 o.A4 s.c1 s.c2 s.c3 s.c4 o.c1 o.c2 o.c3 o.c4 W hx hy hT)); have HSN := hH (fun W (hx : StAt W s.x s.A1 s.A2 s.A3 s.A4) (hy : StAt W o.x o.A1 o.A2 o.A3 o.A4) => (show Calls Tryd.prog 39 #[stV s.x s.A1 s.A2 s.A3 s.A4 s.c1 s.c2 s.c3 s.c4, stV o.x o.A1 o.A2 o.A3 o.A4 o.c1 o.c2 o.c3 o.c4] W (RetInts W L) from by rw [← hL]; exact specNext_any s.x o.x s.A1 s.A2 s.A3 s.A4 o.A1 o.A2 o.A3 o.A4 s.c1 s.c2 s.c3 s.c4 o.c1 o.c2 o.c3 o.c4 W hx hy)); have HL := hH hL; clear hL; have HA := hH (hs.kept (((Keeps.refl noBlk w1).alloc (.cells (smC s) 27)).alloc (.cells (smC o) 27))); have HO := hH (ho.kept (((Keeps.refl noBlk w1).alloc (.cells (smC s) 27)).alloc (.cells (smC o) 27))); have HK := hH ((hk1.alloc (.cells (smC s) 27)).alloc (.cells (smC o) 27)); have sz1 := hk1.size; clear hs ho hk1 HD; dsimp only [StM.val]; have HBs := hH ((Box.new w1 _ rfl 27 (smC s)).alloc (.cells (smC o) 27)); have HBo := hH (Box.new (w1.alloc (.cells (smC s) 27)) (w1.heap.size + 1) (by simp) 27 (smC o)); go_wp2_with fail; refine (HIN.out _ HA.out HO.out (HT.out.keeps HK.out)).mono ?_; rintro e w2 ⟨GA, Gc, rfl, ho2, -, hk2⟩; have HG := hH (owns_ints ho2); clear ho2; replace HBs := hH (HBs.out.keeps hk2 (fun h => h)); replace HBo := hH (HBo.out.keeps hk2 (fun h => h)); replace HA := hH ((HA.out).kept hk2); replace HO := hH ((HO.out).kept hk2); replace HK := hH (HK.out.trans hk2); have sz2 := hk2.size
 (try simp at sz2)
 clear hk2; have hb := HBs.out; obtain ⟨s0, s1, s2, s3, s4, s5, s6⟩ := hb.cells7; have zs := hb.lt; clear hb; have hb := HBo.out; obtain ⟨o0, o1, o2, o3, o4, o5, o6⟩ := hb.cells7; have zo := hb.lt; clear hb; go_wp2_with fail; refine (HSN.out _ HA.out HO.out).mono ?_; rintro e w3 ⟨WA, Wc, rfl, ho2, -, hk3⟩; have HW := hH (owns_ints ho2); clear ho2; clear s0 s1 s2 s3 s4 s5 s6 o0 o1 o2 o3 o4 o5 o6 zs zo; replace HBs := hH (HBs.out.keeps hk3 (fun h => h)); replace HBo := hH (HBo.out.keeps hk3 (fun h => h)); replace HA := hH ((HA.out).kept hk3); replace HO := hH ((HO.out).kept hk3); replace HG := hH ((HG.out).keeps hk3 (fun _ _ h => h)); replace HK := hH (HK.out.trans hk3); have sz3 := hk3.size
 (try simp at sz3)
 clear hk3; have hb := HBs.out; obtain ⟨s0, s1, s2, s3, s4, s5, s6⟩ := hb.cells7; have zs := hb.lt; clear hb; have hb := HBo.out; obtain ⟨o0, o1, o2, o3, o4, o5, o6⟩ := hb.cells7; have zo := hb.lt; clear hb; go_wp2_with fail; refine (lwInts_yes GA WA _ _ _ L _ HG.out HW.out hLm).mono ?_; rintro e w4 ⟨rfl, hq⟩; have hk4 := hq.keeps noBlk; clear hq; clear s0 s1 s2 s3 s4 s5 s6 o0 o1 o2 o3 o4 o5 o6 zs zo; replace HBs := hH (HBs.out.keeps hk4 (fun h => h)); replace HBo := hH (HBo.out.keeps hk4 (fun h => h)); replace HA := hH ((HA.out).kept hk4); replace HO := hH ((HO.out).kept hk4); replace HG := hH ((HG.out).keeps hk4 (fun _ _ h => h)); replace HW := hH ((HW.out).keeps hk4 (fun _ _ h => h)); replace HK := hH (HK.out.trans hk4); have sz4 := hk4.size
 (try simp at sz4)
 clear hk4; have hb := HBs.out; obtain ⟨s0, s1, s2, s3, s4, s5, s6⟩ := hb.cells7; have zs := hb.lt; clear hb; have hb := HBo.out; obtain ⟨o0, o1, o2, o3, o4, o5, o6⟩ := hb.cells7; have zo := hb.lt; clear hb
 rcases Bool.eq_false_or_eq_true (stB s.x) with h1 | h1
 ·skip
  go_wp2_with fail; refine (specSt_any s.x s.A1 s.A2 s.A3 s.A4 s.c1 s.c2 s.c3 s.c4 _ HA.out).mono ?_; rintro e w5 ⟨rfl, hk5⟩; clear s0 s1 s2 s3 s4 s5 s6 o0 o1 o2 o3 o4 o5 o6 zs zo; replace HBs := hH (HBs.out.keeps hk5 (fun h => h)); replace HBo := hH (HBo.out.keeps hk5 (fun h => h)); replace HA := hH ((HA.out).kept hk5); replace HO := hH ((HO.out).kept hk5); replace HG := hH ((HG.out).keeps hk5 (fun _ _ h => h)); replace HK := hH (HK.out.trans hk5); have sz5 := hk5.size
  (try simp at sz5)
  clear hk5; have hb := HBs.out; obtain ⟨s0, s1, s2, s3, s4, s5, s6⟩ := hb.cells7; have zs := hb.lt; clear hb; have hb := HBo.out; obtain ⟨o0, o1, o2, o3, o4, o5, o6⟩ := hb.cells7; have zo := hb.lt; clear hb
  rcases Bool.eq_false_or_eq_true (stB o.x) with h2 | h2
  ·skip
   go_wp2_with fail; refine (specSt_any o.x o.A1 o.A2 o.A3 o.A4 o.c1 o.c2 o.c3 o.c4 _ HO.out).mono ?_; rintro e w6 ⟨rfl, hk6⟩; clear s0 s1 s2 s3 s4 s5 s6 o0 o1 o2 o3 o4 o5 o6 zs zo; replace HBs := hH (HBs.out.keeps hk6 (fun h => h)); replace HBo := hH (HBo.out.keeps hk6 (fun h => h)); replace HA := hH ((HA.out).kept hk6); replace HO := hH ((HO.out).kept hk6); replace HG := hH ((HG.out).keeps hk6 (fun _ _ h => h)); replace HK := hH (HK.out.trans hk6); have sz6 := hk6.size
   (try simp at sz6)
   clear hk6; have hb := HBs.out; obtain ⟨s0, s1, s2, s3, s4, s5, s6⟩ := hb.cells7; have zs := hb.lt; clear hb; have hb := HBo.out; obtain ⟨o0, o1, o2, o3, o4, o5, o6⟩ := hb.cells7; have zo := hb.lt; clear hb; go_wp2; clear h1 h2 HSN HIN; clear s0 s1 s2 s3 s4 s5 s6 o0 o1 o2 o3 o4 o5 o6 zs zo
   go_loopg [6, 7] (9) (fun gk kk ii wr => ∃ i : Nat, i + gk = 9 ∧ ii = .int .i64 i ∧ kk = .int .i64 (nxC s.x o.x i) ∧ StAt wr s.x s.A1 s.A2 s.A3 s.A4 ∧ StAt wr o.x o.A1 o.A2 o.A3 o.A4 ∧ Ints wr GA L.length L ∧ Box wr (w1.heap.size) 27 (smC s) ∧ Box wr (w1.heap.size + 1) 27 (smC o) ∧ Keeps noBlk w wr)
   case atStart => exact ⟨0, by omega, rfl, rfl, HA.out, HO.out, HG.out, HBs.out, HBo.out, HK.out⟩
   case round =>
    clear HA HO HG HBs HBo HK; obtain ⟨i, hig, rfl, rfl, ha, ho, hg, hbs, hbo, hk⟩ := hrel; have HA := hH ha; have HO := hH ho; have HG := hH hg; have HBs := hH hbs; have HBo := hH hbo; have HK := hH hk; clear ha ho hg hbs hbo hk
    by_cases hlt : i ≤ 8
    ·have hli : (i : Int) ≤ 8 := by omega
     obtain ⟨b, hb9⟩ : ∃ b, wmayB s.x o.x (i : Int) = b := ⟨_, rfl⟩; have HM := hH (fun W (hx : StAt W s.x s.A1 s.A2 s.A3 s.A4) (hy : StAt W o.x o.A1 o.A2 o.A3 o.A4) (hT : Tabs W) => (show Calls Tryd.prog 35 #[stV s.x s.A1 s.A2 s.A3 s.A4 s.c1 s.c2 s.c3 s.c4, stV o.x o.A1 o.A2 o.A3 o.A4 o.c1 o.c2 o.c3 o.c4, .int .i64 (i : Int)] W (fun e w' => e = .returned (.bool b) ∧ Keeps noBlk W w') from by have h9 := implMay_any s.x o.x s.A1 s.A2 s.A3 s.A4 o.A1 o.A2 o.A3 o.A4 s.c1 s.c2 s.c3 s.c4 o.c1 o.c2 o.c3 o.c4 (i : Int) W hx hy hT; rw [hb9] at h9; exact h9)); have HB9 := hH hb9; clear hb9; have hc7 := nxC_le s.x o.x i; have hb := HBs.out; obtain ⟨s0, s1, s2, s3, s4, s5, s6⟩ := hb.cells7; have zs := hb.lt; clear hb; have hb := HBo.out; obtain ⟨o0, o1, o2, o3, o4, o5, o6⟩ := hb.cells7; have zo := hb.lt; clear hb; go_wp2_with fail; refine (HM.out _ HA.out HO.out (HT.out.keeps HK.out)).mono ?_; rintro e w7 ⟨rfl, hk7⟩; clear s0 s1 s2 s3 s4 s5 s6 o0 o1 o2 o3 o4 o5 o6 zs zo; replace HBs := hH (HBs.out.keeps hk7 (fun h => h)); replace HBo := hH (HBo.out.keeps hk7 (fun h => h)); replace HA := hH ((HA.out).kept hk7); replace HO := hH ((HO.out).kept hk7); replace HG := hH ((HG.out).keeps hk7 (fun _ _ h => h)); replace HK := hH (HK.out.trans hk7); have sz7 := hk7.size
     (try simp at sz7)
     clear hk7; have hb := HBs.out; obtain ⟨s0, s1, s2, s3, s4, s5, s6⟩ := hb.cells7; have zs := hb.lt; clear hb; have hb := HBo.out; obtain ⟨o0, o1, o2, o3, o4, o5, o6⟩ := hb.cells7; have zo := hb.lt; clear hb
     cases b with
     | false =>
      have HYC := hH (nxC_no HB9.out); go_wp2
      go_roundg (gk - 1)
      case measure => omega
      case rel =>
       exact ⟨i + 1, by omega, by go_num, by rw [HYC.out], HA.out, HO.out, HG.out, HBs.out, HBo.out, HK.out⟩
     | true =>
      obtain ⟨y1, y2, y3⟩ := nxC_yes HB9.out; rw [HL.out] at y1 y2; have hr := wmay_rng HB9.out; obtain ⟨bl, ol, rfl, hbl, dl⟩ := HG.out.at_ y1; rw [y2] at dl; have HYC := hH y3; clear y2 y3
      have hkc : ((nxC s.x o.x i : Nat) : Int) < (L.length : Int) := by omega
      have hkd : decide ((L.length : Int) ≤ ((nxC s.x o.x i : Nat) : Int)) = false := decide_eq_false (by omega)
      have hne : ((i : Int) != (i : Int)) = false := by simp
      by_cases h4 : i ≤ 4
      ·skip
       have d4 : decide ((i : Int) ≤ 4) = true := decide_eq_true (by omega); have d5 : decide (s.x.way < 3) = true := decide_eq_true (by omega); clear hr h4; go_wp2
       go_roundg (gk - 1)
       case measure => omega
       case rel =>
        exact ⟨i + 1, by omega, by go_num, by rw [HYC.out]; go_num, HA.out, HO.out, HG.out, HBs.out, HBo.out, HK.out⟩
      ·skip
       have d4 : decide ((i : Int) ≤ 4) = false := decide_eq_false (by omega); have d5 : decide (s.x.way < 3) = false := decide_eq_false (by omega); clear hr h4; go_wp2
       go_roundg (gk - 1)
       case measure => omega
       case rel =>
        exact ⟨i + 1, by omega, by go_num, by rw [HYC.out]; go_num, HA.out, HO.out, HG.out, HBs.out, HBo.out, HK.out⟩
    ·obtain rfl : i = 9 := by omega
     have hend := nxC_end s.x o.x; rw [HL.out] at hend; rw [hend]; clear hend; have hb := HBs.out; obtain ⟨s0, s1, s2, s3, s4, s5, s6⟩ := hb.cells7; have zs := hb.lt; clear hb; have hb := HBo.out; obtain ⟨o0, o1, o2, o3, o4, o5, o6⟩ := hb.cells7; have zo := hb.lt; clear hb; go_wp2; go_ret; exact ⟨rfl, HK.out.below⟩
  ·skip
   go_wp2_with fail; refine (specSt_any o.x o.A1 o.A2 o.A3 o.A4 o.c1 o.c2 o.c3 o.c4 _ HO.out).mono ?_; rintro e w6 ⟨rfl, hk6⟩; clear s0 s1 s2 s3 s4 s5 s6 o0 o1 o2 o3 o4 o5 o6 zs zo; replace HBs := hH (HBs.out.keeps hk6 (fun h => h)); replace HBo := hH (HBo.out.keeps hk6 (fun h => h)); replace HA := hH ((HA.out).kept hk6); replace HO := hH ((HO.out).kept hk6); replace HG := hH ((HG.out).keeps hk6 (fun _ _ h => h)); replace HK := hH (HK.out.trans hk6); have sz6 := hk6.size
   (try simp at sz6)
   clear hk6; have hb := HBs.out; obtain ⟨s0, s1, s2, s3, s4, s5, s6⟩ := hb.cells7; have zs := hb.lt; clear hb; have hb := HBo.out; obtain ⟨o0, o1, o2, o3, o4, o5, o6⟩ := hb.cells7; have zo := hb.lt; clear hb; go_wp2_with fail; refine (HSN.out _ HA.out HO.out).mono ?_; rintro e w7 ⟨WA, Wc, rfl, ho2, -, hk7⟩; have HW := hH (owns_ints ho2); clear ho2; clear s0 s1 s2 s3 s4 s5 s6 o0 o1 o2 o3 o4 o5 o6 zs zo; replace HBs := hH (HBs.out.keeps hk7 (fun h => h)); replace HBo := hH (HBo.out.keeps hk7 (fun h => h)); replace HA := hH ((HA.out).kept hk7); replace HO := hH ((HO.out).kept hk7); replace HG := hH ((HG.out).keeps hk7 (fun _ _ h => h)); replace HK := hH (HK.out.trans hk7); have sz7 := hk7.size
   (try simp at sz7)
   clear hk7; have hb := HBs.out; obtain ⟨s0, s1, s2, s3, s4, s5, s6⟩ := hb.cells7; have zs := hb.lt; clear hb; have hb := HBo.out; obtain ⟨o0, o1, o2, o3, o4, o5, o6⟩ := hb.cells7; have zo := hb.lt; clear hb; go_wp2_with fail; refine (lwInts_yes GA WA _ _ _ L _ HG.out HW.out hLm).mono ?_; rintro e w8 ⟨rfl, hq⟩; have hk8 := hq.keeps noBlk; clear hq; clear s0 s1 s2 s3 s4 s5 s6 o0 o1 o2 o3 o4 o5 o6 zs zo; replace HBs := hH (HBs.out.keeps hk8 (fun h => h)); replace HBo := hH (HBo.out.keeps hk8 (fun h => h)); replace HA := hH ((HA.out).kept hk8); replace HO := hH ((HO.out).kept hk8); replace HG := hH ((HG.out).keeps hk8 (fun _ _ h => h)); replace HW := hH ((HW.out).keeps hk8 (fun _ _ h => h)); replace HK := hH (HK.out.trans hk8); have sz8 := hk8.size
   (try simp at sz8)
   clear hk8; have hb := HBs.out; obtain ⟨s0, s1, s2, s3, s4, s5, s6⟩ := hb.cells7; have zs := hb.lt; clear hb; have hb := HBo.out; obtain ⟨o0, o1, o2, o3, o4, o5, o6⟩ := hb.cells7; have zo := hb.lt; clear hb; go_wp2; go_ret; exact ⟨rfl, HK.out.below⟩
 ·skip
  go_wp2_with fail; refine (specSt_any s.x s.A1 s.A2 s.A3 s.A4 s.c1 s.c2 s.c3 s.c4 _ HA.out).mono ?_; rintro e w5 ⟨rfl, hk5⟩; clear s0 s1 s2 s3 s4 s5 s6 o0 o1 o2 o3 o4 o5 o6 zs zo; replace HBs := hH (HBs.out.keeps hk5 (fun h => h)); replace HBo := hH (HBo.out.keeps hk5 (fun h => h)); replace HA := hH ((HA.out).kept hk5); replace HO := hH ((HO.out).kept hk5); replace HG := hH ((HG.out).keeps hk5 (fun _ _ h => h)); replace HK := hH (HK.out.trans hk5); have sz5 := hk5.size
  (try simp at sz5)
  clear hk5; have hb := HBs.out; obtain ⟨s0, s1, s2, s3, s4, s5, s6⟩ := hb.cells7; have zs := hb.lt; clear hb; have hb := HBo.out; obtain ⟨o0, o1, o2, o3, o4, o5, o6⟩ := hb.cells7; have zo := hb.lt; clear hb; go_wp2_with fail; refine (HSN.out _ HA.out HO.out).mono ?_; rintro e w6 ⟨WA, Wc, rfl, ho2, -, hk6⟩; have HW := hH (owns_ints ho2); clear ho2; clear s0 s1 s2 s3 s4 s5 s6 o0 o1 o2 o3 o4 o5 o6 zs zo; replace HBs := hH (HBs.out.keeps hk6 (fun h => h)); replace HBo := hH (HBo.out.keeps hk6 (fun h => h)); replace HA := hH ((HA.out).kept hk6); replace HO := hH ((HO.out).kept hk6); replace HG := hH ((HG.out).keeps hk6 (fun _ _ h => h)); replace HK := hH (HK.out.trans hk6); have sz6 := hk6.size
  (try simp at sz6)
  clear hk6; have hb := HBs.out; obtain ⟨s0, s1, s2, s3, s4, s5, s6⟩ := hb.cells7; have zs := hb.lt; clear hb; have hb := HBo.out; obtain ⟨o0, o1, o2, o3, o4, o5, o6⟩ := hb.cells7; have zo := hb.lt; clear hb; go_wp2_with fail; refine (lwInts_yes GA WA _ _ _ L _ HG.out HW.out hLm).mono ?_; rintro e w7 ⟨rfl, hq⟩; have hk7 := hq.keeps noBlk; clear hq; clear s0 s1 s2 s3 s4 s5 s6 o0 o1 o2 o3 o4 o5 o6 zs zo; replace HBs := hH (HBs.out.keeps hk7 (fun h => h)); replace HBo := hH (HBo.out.keeps hk7 (fun h => h)); replace HA := hH ((HA.out).kept hk7); replace HO := hH ((HO.out).kept hk7); replace HG := hH ((HG.out).keeps hk7 (fun _ _ h => h)); replace HW := hH ((HW.out).keeps hk7 (fun _ _ h => h)); replace HK := hH (HK.out.trans hk7); have sz7 := hk7.size
  (try simp at sz7)
  clear hk7; have hb := HBs.out; obtain ⟨s0, s1, s2, s3, s4, s5, s6⟩ := hb.cells7; have zs := hb.lt; clear hb; have hb := HBo.out; obtain ⟨o0, o1, o2, o3, o4, o5, o6⟩ := hb.cells7; have zo := hb.lt; clear hb; go_wp2; go_ret; exact ⟨rfl, HK.out.below⟩
namespace lwaynext
theorem lifted (os : Os) (started : os.Started) (H : Type) (enc : TypeId × Value → H) :
  ReturnsInHanded {} Tryd.checked os 13 .any (fun w args => (Rows.fnWayNextSpec.pre enc Tryd.prog Tryd.f13 [] false w args ∧ laidMetH Tryd.prog Rows.fnWayNextRow.laid w) ∧ sizedMet enc Tryd.prog Tryd.f13 (OpenSpec.ofChange Rows.fnWayNextSpec) false w args)
   (Rows.fnWayNextSpec.post enc Tryd.prog Tryd.f13 false true false false) := by
 refine returnsInHanded_of_change_and (C := Tryd.checked) (X := fun w _ => laidMetH Tryd.prog Rows.fnWayNextRow.laid w) (fun _ _ _ hh h => h.of_heap hh) own started (by kernel_rfl) Tryd.func13
  (ChangeSpec.witness_shaped (enc := enc) (C := Tryd.checked) (os := os) (X := fun w _ => laidMetH Tryd.prog Rows.fnWayNextRow.laid w) false (World.doorLaid Tryd.prog 101 os) #[.slice none 0 0] 8 rfl (World.shaped_of_RefB (by kernel_rfl) (by kernel_rfl)) (by kernel_rfl) (by kernel_rfl) (by kernel_rfl) (door_met os _)) ?_
 intro W base args ds gs before hval0 hW _ _ hL _; have hval : ∀ (j : Nat) t v, Tryd.f13.params[j]? = some t → args[j]? = some v → Value.okWide Tryd.prog W .any base t v := hval0; have hW' := hW; obtain ⟨p, q, hA0, hV, rfl, hfz, hnd⟩ := hW; have hA : DataW.TrodAll enc Tryd.prog W 0 (fun _ => true) true Tryd.f13.params.toList args.toList ds p := hA0; rw [Tryd.params13 ] at hA hval; obtain ⟨g0, g1, rfl⟩ := vars2 hV; obtain ⟨v0, d0, rfl, rfl, h0⟩ := trodAll_one hA; obtain ⟨a0, len0, cap0, rfl⟩ := okWide_slice Tryd.underlying22 (hval 0 22 v0 rfl rfl); have k0 := h0
 have lt0 : ∀ x ∈ p, x.block < W.heap.size := by obtain ⟨m, hm⟩ := k0; exact DataW.trod_lt m _ _ _ hm
 obtain ⟨z0, w0, e0, f0⟩ := bytes_of_trod h0; clear hA0 hval0
 refine (walk_lwaynext W (tabs_of_laid hL) a0 len0 cap0 z0 w0 e0 f0).mono fun e W' ⟨he, bel⟩ => ?_
 subst he; exact ⟨_, rfl, _, _, _, [], _, _, hW', trodAll_mk1 (shut_bool Tryd.underlying4 _), (trodAll_mk1 (Below.trod laidOut (by kernel_rfl) (of_decide_eq_true (by kernel_rfl)) k0 bel lt0)), Below.trodVars laidOut bel (by kernel_rfl) hV, bel.frame _, fun h => by cases h⟩
end lwaynext

theorem fnWayNext_row : Rows.FnWayNextSaid :=
 OpenClaim.holds_of_wide 13 Tryd.f13 rfl rfl rfl rfl rfl rfl rfl ⟨rfl, rfl, rfl, rfl, rfl⟩ rfl rfl rfl rfl rfl (by kernel_rfl) Tryd.func13 (by kernel_rfl)
  (of_decide_eq_true (by kernel_rfl)) (by unfold Func.isWrapper; first | (rw [if_pos (by decide +kernel)]; kernel_rfl) | (rw [if_neg (by decide +kernel)]; exact ⟨rfl, rfl⟩))
  (fun os started H enc _ => lwaynext.lifted os started H enc)

theorem fnWayNext_card : Rows.FnWayNextCardSaid :=
 Claim7.holds_tied_plain_at .later [] Rows.fnWayNextCard.laidKinds true Rows.fnWayNextCard.stood.harness true
  fnWayNext_row (fun _ h => by cases h) (by kernel_rfl) (fun _ h => by cases h) fnWayNext_row_tie rfl ⟨rfl, rfl⟩ (by kernel_rfl) rfl
  (fun g fn hg hfn => by
   obtain rfl : g = 13 := Option.some.inj ((show Tryd.prog.funcNamed Rows.fnWayNextRow.func = some 13 by kernel_rfl).symm.trans hg) |>.symm
   obtain rfl : fn = Tryd.f13 := (Option.some.inj (Tryd.func13.symm.trans hfn)).symm; refine ⟨by kernel_rfl, fun j t ht => ?_⟩; have h3 : ∀ t ∈ Tryd.f13.params.toList, Tryd.prog.wantsStandIn t = false := of_decide_eq_true (by kernel_rfl)
   exact h3 t (Array.mem_toList_iff.2 (Array.mem_of_getElem? ht)))
  (by kernel_rfl)
#print axioms fnWayNext_card
end Go.Proofs.YtjcbeihoeanhaaaDoor
