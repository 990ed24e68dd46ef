/- spec.StateOk answers stB. -/
import Derived.Test.YtjcbeihoeanhaaaDoorUSt
set_option maxHeartbeats 2000000
set_option linter.unusedVariables false
set_option linter.unusedSimpArgs false
namespace Go.Proofs.YtjcbeihoeanhaaaDoor
open Go.RowKit

theorem stB_way {x : StL} (h : in2 x.way 0 4 = false) : stB x = false := by
 simp only [stB, decide_eq_false_iff_not]; intro k; rw [in2_yes k.1.2.1.1 k.1.2.1.2] at h
 cases h
theorem stB_ver {x : StL} (h : in2 x.ver 1 9 = false) : stB x = false := by
 simp only [stB, decide_eq_false_iff_not]; intro k; rw [in2_yes k.1.1.1 k.1.1.2] at h
 cases h
theorem stB_n {x : StL} (h : 8 < x.sent.length) : stB x = false := by
 simp only [stB, decide_eq_false_iff_not]; intro k; have := k.2.1.small
 omega
theorem stB_live {x : StL} (h : x.live.length ≠ x.sent.length) : stB x = false := by
 simp only [stB, decide_eq_false_iff_not]
 exact fun k => h k.2.2.1.1
theorem stB_back {x : StL} (h : x.back.length ≠ x.sent.length) : stB x = false := by
 simp only [stB, decide_eq_false_iff_not]
 exact fun k => h k.2.2.1.2.1
theorem stB_got {x : StL} (h : x.got.length ≠ 8) : stB x = false := by
 simp only [stB, decide_eq_false_iff_not]
 exact fun k => h k.2.2.2.1
theorem stB_pk {x : StL} (i : Nat) (hi : i < x.sent.length) (h : ¬ (pkAt x.ver i (x.sent.getD i pk0) ∧ ¬ (x.live.getD i false = true ∧ x.back.getD i false = true))) : stB x = false := by
 simp only [stB, decide_eq_false_iff_not]
 exact fun k => h ⟨k.2.1 i hi, k.2.2.1.2.2 i hi⟩
theorem stB_g {x : StL} (i : Nat) (hi : i < 8) (h : in2 (x.got.getD i 0) 0 2 = false) : stB x = false := by
 simp only [stB, decide_eq_false_iff_not]; intro k; rw [k.2.2.2.2 i hi] at h
 cases h
theorem stB_end {x : StL} (h1 : in2 x.way 0 4 = true) (h2 : in2 x.ver 1 9 = true) (h4 : x.live.length = x.sent.length) (h5 : x.back.length = x.sent.length) (h6 : x.got.length = 8)
  (h7 : ∀ i, i < x.sent.length → pkAt x.ver i (x.sent.getD i pk0) ∧ ¬ (x.live.getD i false = true ∧ x.back.getD i false = true)) (h8 : ∀ i, i < 8 → in2 (x.got.getD i 0) 0 2 = true) :
  stB x = decide ((x.way = 4 → x.want = x.ver + 1 ∧ x.want ≤ 9) ∧ (x.way ≠ 4 → x.want = 0)) := by
 simp only [stB, decide_eq_decide]; have p1 := in2_parts h1; have p2 := in2_parts h2; exact ⟨fun k => k.1.2.2, fun k => ⟨⟨p2, p1, k⟩, fun i hi => (h7 i hi).1, ⟨h4, h5, fun i hi => (h7 i hi).2⟩, h6, h8⟩⟩
theorem upto_step {P : Nat → Prop} {k : Nat} (h : ∀ i, i < k → P i) (hk : P k) : ∀ i, i < k + 1 → P i := by
 intro i hi
 rcases Nat.lt_or_ge i k with hl | hl
 ·exact h i hl
 ·obtain rfl : i = k := by omega
  exact hk

theorem specSt_any (x : StL) (A1 A2 A3 A4 : Option Addr) (c1 c2 c3 c4 : Nat) (w : World) (hx : StAt w x A1 A2 A3 A4) :
  Calls Tryd.prog 23 #[stV x A1 A2 A3 A4 c1 c2 c3 c4] w fun e w' => e = .returned (.bool (stB x)) ∧ Keeps noBlk w w' := by
 have HX := hH hx; obtain ⟨m1, m2, m3, m4⟩ := hx.2; unfold maxLen at m1 m2 m3 m4; clear hx; have N1 := hH (@stB_way x); have N2 := hH (@stB_ver x); have N3 := hH (@stB_n x); have N4 := hH (@stB_live x); have N5 := hH (@stB_back x); have N6 := hH (@stB_got x); have N7 := hH (@stB_pk x); have N8 := hH (@stB_g x); have N9 := hH (@stB_end x); generalize stB x = o at N1 N2 N3 N4 N5 N6 N7 N8 N9; obtain ⟨way, ver, want, sent, live, back, got⟩ := x; dsimp only at m1 m2 m3 m4 N1 N2 N3 N4 N5 N6 N7 N8 N9; unfold stV; dsimp only
 rcases Bool.eq_false_or_eq_true (in2 way 0 4) with h1 | h1
 ·have P1 := hH h1
  rcases Bool.eq_false_or_eq_true (in2 ver 1 9) with h2 | h2
  ·have P2 := hH h2
   by_cases h3 : sent.length ≤ 8
   ·have h3' : ¬ (8 : Int) < (sent.length : Int) := by omega
    by_cases h4 : live.length = sent.length
    ·have P4 := hH h4
     have h4' : ((live.length : Int) != (sent.length : Int)) = false := by simp; omega
     clear h4
     by_cases h5 : back.length = sent.length
     ·have P5 := hH h5
      have h5' : ((back.length : Int) != (sent.length : Int)) = false := by simp; omega
      clear h5
      by_cases h6 : got.length = 8
      ·have P6 := hH h6
       have h6' : ((got.length : Int) != 8) = false := by simp; omega
       clear h6
       go_enter Tryd.func23, Tryd.ntmps23
       go_wp2_with (first | (go_at_call 50; refine (l6In_any _ _ _ _).mono ?_; rintro e w' ⟨rfl, rfl⟩))
       have HK0 := hH ((Keeps.refl noBlk w).alloc (.cells #[.int .i64 way, .int .i64 ver, .int .i64 want, .slice A1 sent.length c1, .slice A2 live.length c2, .slice A3 back.length c3, .slice A4 got.length c4] 27)); have HB0 := hH (Box.new w _ rfl 27 #[.int .i64 way, .int .i64 ver, .int .i64 want, .slice A1 sent.length c1, .slice A2 live.length c2, .slice A3 back.length c3, .slice A4 got.length c4]); have L1 := hH (rfl : sent.length = sent.length); generalize (w.alloc (.cells #[.int .i64 way, .int .i64 ver, .int .i64 want, .slice A1 sent.length c1, .slice A2 live.length c2, .slice A3 back.length c3, .slice A4 got.length c4] 27)) = w0 at HK0 HB0; generalize w.heap.size = g at HB0
       go_loopw [4] (fun i wr => ∃ k : Nat, k ≤ sent.length ∧ i = .int .i64 k ∧ (∀ j, j < k → pkAt ver j (sent.getD j pk0) ∧ ¬ (live.getD j false = true ∧ back.getD j false = true)) ∧ Keeps noBlk w0 wr) (fun i _ => sent.length - (intOf i).toNat)
       case atStart => exact ⟨0, Nat.zero_le _, rfl, fun j hj => absurd hj (by omega), Keeps.refl _ _⟩
       case round =>
        obtain ⟨k, hk, rfl, hok, hkp⟩ := hrel; have HO := hH hok; have HK := hH hkp; have hbx := HB0.out.keeps hkp (fun h => h); have HBX := hH hbx; obtain ⟨a0, a1, a2, a3, a4, a5, a6⟩ := hbx.cells7; clear hok hkp hbx; have HXr := hH ((HX.out.kept HK0.out).kept HK.out)
        by_cases hlt : k < sent.length
        ·obtain ⟨b, off, rfl, hb, q0, q1, q2, q3, q4, q5, q6⟩ := HXr.out.1.1.at_ hlt
         have hl2 : k < live.length := by rw [P4.out]; exact hlt
         have hl3 : k < back.length := by rw [P5.out]; exact hlt
         obtain ⟨b2, off2, rfl, hb2, d2⟩ := HXr.out.1.2.1.at_ hl2; obtain ⟨b3, off3, rfl, hb3, d3⟩ := HXr.out.1.2.2.1.at_ hl3; have HBAD := hH (fun h => N7.out k hlt h); have HGOOD := hH (fun h => upto_step HO.out (k := k) h); dsimp only at q0 q1 q2 q3 q4 q5 q6 d2 d3 HBAD HGOOD; generalize sent.getD k pk0 = p at q0 q1 q2 q3 q4 q5 q6 HBAD HGOOD; generalize live.getD k false = lv at d2 HBAD HGOOD; generalize back.getD k false = bk at d3 HBAD HGOOD; obtain ⟨s, kd, f, t, m, u, v⟩ := p; dsimp only at q0 q1 q2 q3 q4 q5 q6; have HOFF : Hid (b < wr.heap.size ∧ b2 < wr.heap.size ∧ b3 < wr.heap.size ∧ g < wr.heap.size) := hH ⟨hb, hb2, hb3, HBX.out.lt⟩; clear hb hb2 hb3
         have a1 := fun U : GW wr => GW.cell a1 U
         have a3 := fun U : GW wr => GW.cell a3 U
         have a4 := fun U : GW wr => GW.cell a4 U
         have a5 := fun U : GW wr => GW.cell a5 U
         have q0 := fun U : GW wr => GW.cell q0 U
         have q1 := fun U : GW wr => GW.cell q1 U
         have q2 := fun U : GW wr => GW.cell q2 U
         have q3 := fun U : GW wr => GW.cell q3 U
         have q4 := fun U : GW wr => GW.cell q4 U
         have q5 := fun U : GW wr => GW.cell q5 U
         have q6 := fun U : GW wr => GW.cell q6 U
         have d2 := fun U : GW wr => GW.cell d2 U
         have d3 := fun U : GW wr => GW.cell d3 U
         rcases Bool.eq_false_or_eq_true (pkB s kd f t m u v) with ho | ho
         ·have HPB := hH (show (Pk.mk s kd f t m u v).ok = true from ho)
          have hs := (pkB_parts ho).1; have HSP := hH (fun W => (show Calls Tryd.prog 51 #[.agg #[.int .i64 s, .int .i64 kd, .int .i64 f, .int .i64 t, .int .i64 m, .int .i64 u, .int .i64 v]] W (fun e w' => e = .returned (.bool true) ∧ Keeps noBlk W w') from by rw [← ho]; exact specPk_any s kd f t m u v W)); clear ho
          by_cases hseq : s = (k : Int) + 1
          ·have hsd : (s != (k : Int) + 1) = false := by simpa using hseq
           have HSQ := hH hseq; clear hseq
           by_cases hv : ver < v
           ·have HV := hH hv
            cases lv with
            | false =>
             have HB := hH (HBAD.out (fun h => by have := h.1.2.2; simp only at this; omega)); go_wp2_with fail; refine wp_region_grow (by kernel_rfl) (by kernel_rfl) ?_
             repeat (go_big_quiet_step ((go_at_call 51; exact Calls.grow _ (HSP.out _))))
             refine wpQuiet_nil ?_; rintro _ ⟨U1, rfl⟩; have HK1 := hH (HK.out.trans U1.keep); go_wp2; go_ret; exact ⟨by simp [HB.out], HK0.out.trans HK1.out⟩
            | true =>
             cases bk with
             | true =>
              have HB := hH (HBAD.out (fun h => h.2 ⟨rfl, rfl⟩)); go_wp2_with fail; refine wp_region_grow (by kernel_rfl) (by kernel_rfl) ?_
              repeat (go_big_quiet_step ((go_at_call 51; exact Calls.grow _ (HSP.out _))))
              refine wpQuiet_nil ?_; rintro _ ⟨U1, rfl⟩; have HK1 := hH (HK.out.trans U1.keep); go_wp2; go_ret; exact ⟨by simp [HB.out], HK0.out.trans HK1.out⟩
             | false =>
              have HB := hH (HBAD.out (fun h => by have := h.1.2.2; simp only at this; omega)); go_wp2_with fail; refine wp_region_grow (by kernel_rfl) (by kernel_rfl) ?_
              repeat (go_big_quiet_step ((go_at_call 51; exact Calls.grow _ (HSP.out _))))
              refine wpQuiet_nil ?_; rintro _ ⟨U1, rfl⟩; have HK1 := hH (HK.out.trans U1.keep); go_wp2; go_ret; exact ⟨by simp [HB.out], HK0.out.trans HK1.out⟩
           ·cases lv with
            | false =>
             have HN := hH (HGOOD.out ⟨⟨HPB.out, HSQ.out, by simp only; omega⟩, by simp⟩); go_wp2_with fail; refine wp_region_grow (by kernel_rfl) (by kernel_rfl) ?_
             repeat (go_big_quiet_step ((go_at_call 51; exact Calls.grow _ (HSP.out _))))
             refine wpQuiet_nil ?_; rintro _ ⟨U1, rfl⟩; have HK1 := hH (HK.out.trans U1.keep); go_wp2
             go_roundw
             case rel => exact ⟨k + 1, by omega, by go_num, HN.out, HK1.out⟩
             case measure => simp [intOf]; omega
            | true =>
             cases bk with
             | true =>
              have HB := hH (HBAD.out (fun h => h.2 ⟨rfl, rfl⟩)); go_wp2_with fail; refine wp_region_grow (by kernel_rfl) (by kernel_rfl) ?_
              repeat (go_big_quiet_step ((go_at_call 51; exact Calls.grow _ (HSP.out _))))
              refine wpQuiet_nil ?_; rintro _ ⟨U1, rfl⟩; have HK1 := hH (HK.out.trans U1.keep); go_wp2; go_ret; exact ⟨by simp [HB.out], HK0.out.trans HK1.out⟩
             | false =>
              have HN := hH (HGOOD.out ⟨⟨HPB.out, HSQ.out, by simp only; omega⟩, by simp⟩); go_wp2_with fail; refine wp_region_grow (by kernel_rfl) (by kernel_rfl) ?_
              repeat (go_big_quiet_step ((go_at_call 51; exact Calls.grow _ (HSP.out _))))
              refine wpQuiet_nil ?_; rintro _ ⟨U1, rfl⟩; have HK1 := hH (HK.out.trans U1.keep); go_wp2
              go_roundw
              case rel => exact ⟨k + 1, by omega, by go_num, HN.out, HK1.out⟩
              case measure => simp [intOf]; omega
          ·have hsd : (s != (k : Int) + 1) = true := by simpa using hseq
           have HB := hH (HBAD.out (fun h => by have := h.1.2.1; simp only at this; omega)); clear hseq; go_wp2_with fail; refine wp_region_grow (by kernel_rfl) (by kernel_rfl) ?_
           repeat (go_big_quiet_step ((go_at_call 51; exact Calls.grow _ (HSP.out _))))
           refine wpQuiet_nil ?_; rintro _ ⟨U1, rfl⟩; have HK1 := hH (HK.out.trans U1.keep); go_wp2; go_ret; exact ⟨by simp [HB.out], HK0.out.trans HK1.out⟩
         ·have HSP := hH (fun W => (show Calls Tryd.prog 51 #[.agg #[.int .i64 s, .int .i64 kd, .int .i64 f, .int .i64 t, .int .i64 m, .int .i64 u, .int .i64 v]] W (fun e w' => e = .returned (.bool false) ∧ Keeps noBlk W w') from by rw [← ho]; exact specPk_any s kd f t m u v W))
          have HB := hH (HBAD.out (fun h => by have h1 := h.1.1; unfold Pk.ok at h1; simp only at h1; rw [ho] at h1; cases h1)); clear ho; go_wp2_with fail; refine wp_region_grow (by kernel_rfl) (by kernel_rfl) ?_
          repeat (go_big_quiet_step ((go_at_call 51; exact Calls.grow _ (HSP.out _))))
          refine wpQuiet_nil ?_; rintro _ ⟨U1, rfl⟩; have HK1 := hH (HK.out.trans U1.keep); go_wp2; go_ret; exact ⟨by simp [HB.out], HK0.out.trans HK1.out⟩
        ·have HALL := hH (fun i (hi : i < sent.length) => HO.out i (by omega))
         go_wp2
         go_loopw [5] (fun i wr' => ∃ k : Nat, k ≤ 8 ∧ i = .int .i64 k ∧ (∀ j, j < k → in2 (got.getD j 0) 0 2 = true) ∧ Qt wr wr') (fun i _ => 8 - (intOf i).toNat)
         case atStart => exact ⟨0, Nat.zero_le _, rfl, fun j hj => absurd hj (by omega), Qt.refl _⟩
         case round =>
          obtain ⟨k2, hk2, rfl, hok2, q, rfl⟩ := hrel; have HO2 := hH hok2; clear hok2
          by_cases hlt2 : k2 < 8
          ·have hl4 : k2 < got.length := by rw [P6.out]; exact hlt2
           obtain ⟨b4, off4, rfl, hb4, d4⟩ := HXr.out.1.2.2.2.at_ hl4; have HBAD := hH (fun h => N8.out k2 hlt2 h); have HGOOD := hH (fun h => upto_step HO2.out (k := k2) h); dsimp only at d4 HBAD HGOOD; generalize got.getD k2 0 = gt at d4 HBAD HGOOD; have HIN := hH (fun W => l6In_any gt 0 2 W); generalize in2 gt 0 2 = ob at HIN HBAD HGOOD; go_wp2_with fail; refine (HIN.out _).mono ?_; rintro e w' ⟨rfl, rfl⟩
           cases ob with
           | false =>
            have HB := hH (HBAD.out rfl); go_wp2; go_ret; exact ⟨by simp [HB.out], HK0.out.trans (HK.out.drewN _)⟩
           | true =>
            have HN := hH (HGOOD.out rfl); go_wp2
            go_roundw
            case rel => exact ⟨k2 + 1, by omega, by go_num, HN.out, Qt.of _ _⟩
            case measure => simp [intOf]; omega
          ·have hge : ¬ k2 < got.length := by rw [P6.out]; omega
           have HE := hH (N9.out P1.out P2.out P4.out P5.out P6.out HALL.out (fun i hi => HO2.out i (by omega))); have pw := in2_parts P1.out; have pv := in2_parts P2.out
           by_cases hw4 : way = 4
           ·subst hw4
            by_cases hw : want = ver + 1
            ·have hwd : (want == ver + 1) = true := by simpa using hw
             have HW := hH hw; clear hw
             by_cases h9 : want ≤ 9
             ·go_wp2
              go_ret; exact ⟨by simp [HE.out, HW.out]; have := HW.out; omega, HK0.out.trans (HK.out.drewN _)⟩
             ·go_wp2
              go_ret; exact ⟨by simp [HE.out, HW.out]; have := HW.out; omega, HK0.out.trans (HK.out.drewN _)⟩
            ·have hwd : (want == ver + 1) = false := by simpa using hw
             have HW := hH hw; clear hw; go_wp2; go_ret; exact ⟨by simp [HE.out, HW.out], HK0.out.trans (HK.out.drewN _)⟩
           ·have hwd4 : (way == 4) = false := by simpa using hw4
            have HW4 := hH hw4; clear hw4
            by_cases hw : want = 0
            ·subst hw
             go_wp2; go_ret; exact ⟨by simp [HE.out, HW4.out], HK0.out.trans (HK.out.drewN _)⟩
            ·have hwd : (want == 0) = false := by simpa using hw
             have HW := hH hw; clear hw; go_wp2; go_ret; exact ⟨by simp [HE.out, HW4.out, HW.out], HK0.out.trans (HK.out.drewN _)⟩
      ·have HB := hH (N6.out h6)
       have h6' : ((got.length : Int) != 8) = true := by simp; omega
       clear h6
       go_enter Tryd.func23, Tryd.ntmps23
       go_wp2_with (first | (go_at_call 50; refine (l6In_any _ _ _ _).mono ?_; rintro e w' ⟨rfl, rfl⟩))
       go_ret; exact ⟨by simp [HB.out], (Keeps.refl _ _).alloc _⟩
     ·have HB := hH (N5.out h5)
      have h5' : ((back.length : Int) != (sent.length : Int)) = true := by simp; omega
      clear h5
      go_enter Tryd.func23, Tryd.ntmps23
      go_wp2_with (first | (go_at_call 50; refine (l6In_any _ _ _ _).mono ?_; rintro e w' ⟨rfl, rfl⟩))
      go_ret; exact ⟨by simp [HB.out], (Keeps.refl _ _).alloc _⟩
    ·have HB := hH (N4.out h4)
     have h4' : ((live.length : Int) != (sent.length : Int)) = true := by simp; omega
     clear h4
     go_enter Tryd.func23, Tryd.ntmps23
     go_wp2_with (first | (go_at_call 50; refine (l6In_any _ _ _ _).mono ?_; rintro e w' ⟨rfl, rfl⟩))
     go_ret; exact ⟨by simp [HB.out], (Keeps.refl _ _).alloc _⟩
   ·have HB := hH (N3.out (by omega))
    have h3' : (8 : Int) < (sent.length : Int) := by omega
    go_enter Tryd.func23, Tryd.ntmps23
    go_wp2_with (first | (go_at_call 50; refine (l6In_any _ _ _ _).mono ?_; rintro e w' ⟨rfl, rfl⟩))
    go_ret; exact ⟨by simp [HB.out], (Keeps.refl _ _).alloc _⟩
  ·have HB := hH (N2.out h2)
   go_enter Tryd.func23, Tryd.ntmps23
   go_wp2_with (first | (go_at_call 50; refine (l6In_any _ _ _ _).mono ?_; rintro e w' ⟨rfl, rfl⟩))
   go_ret; exact ⟨by simp [HB.out], (Keeps.refl _ _).alloc _⟩
 ·have HB := hH (N1.out h1)
  go_enter Tryd.func23, Tryd.ntmps23
  go_wp2_with (first | (go_at_call 50; refine (l6In_any _ _ _ _).mono ?_; rintro e w' ⟨rfl, rfl⟩))
  go_ret; exact ⟨by simp [HB.out], (Keeps.refl _ _).alloc _⟩
end Go.Proofs.YtjcbeihoeanhaaaDoor
