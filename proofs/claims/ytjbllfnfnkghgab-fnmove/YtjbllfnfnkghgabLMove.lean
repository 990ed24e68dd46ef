/- FnMove: what is moved is with the other one, whatever is drawn. -/
import Derived.Test.YtjbllfnfnkghgabRows
import Derived.Deep.RegionHeld3
import Derived.Deep.DrawnRows
import Derived.Test.YtjbllfnfnkghgabSAB
import Derived.Test.YtjbllfnfnkghgabIAB
import Derived.Test.YtjbllfnfnkghgabIMove
import Derived.Test.YtjbllfnfnkghgabTwo
import Derived.Test.YtjbllfnfnkghgabMv
import Derived.Test.YtjbllfnfnkghgabLw
import Derived.Test.YtjbllfnfnkghgabHas
import Derived.Test.YtjbllfnfnkghgabDMove
import Derived.Test.YtjbllfnfnkghgabFrameB
set_option linter.unusedVariables false
set_option linter.unusedSimpArgs false
namespace Go.Proofs.Ytjbllfnfnkghgab
open Go.RowKit Go.ChangeShapes Go.WideShapes Go.ChangeAt

attribute [local go_sem ↓] Go.wp_at_zero Go.wp_at_succ
theorem Keeps.undrew {S : Nat → Prop} {a w : World} (h : Keeps S a.drew w) : Keeps S a w := ⟨h.os, h.tape, h.output, h.size, h.block⟩
theorem mv_sum {xs : List Int} {u v : Nat} (s : Int) (hu : u < xs.length) (hv : v < xs.length) : sumL (mv xs u v s) = sumL xs := by
  unfold mv
  rw [sumL_set _ v _ (by rw [List.length_set]; exact hv), sumL_set xs u _ hu]
  omega
theorem mv_same {xs : List Int} {u : Nat} (s : Int) (hu : u < xs.length) : mv xs u u s = xs := by
  refine ext_getD (mv_len _ _ _ _) fun i => ?_
  rw [mv_getD s hu hu]
  split <;> omega

set_option maxRecDepth 100000 in
set_option maxHeartbeats 20000000 in
theorem walk_move (w : World) (a0 : Option Addr) (len0 cap0 : Nat) (z0 : List Int) (h : Bytes w a0 len0 z0) (e0 : len0 ≤ cap0) (f0 : cap0 ≤ maxLen) :
    Calls Try.prog 4 #[.slice a0 len0 cap0] w fun e w' => e = .returned (.bool true) ∧ Below w.heap.size w w' := by
  have H := Lib.hid h
  clear h
  by_cases hs : (len0 : Int) ≤ 1048576
  · go_enter Try.func4, Try.ntmps4
    go_wp2_with fail
    refine (drawMove_any a0 len0 _ z0 _ H.out e0 f0).mono ?_
    rintro e w1 ⟨v, ⟨xs, ys, L⟩, kd, fr, to, sm, rfl, ⟨⟨A1, n1, c1, A2, n2, c2, rfl, hA1, hA2, hAd, k1, k2, m1, m2⟩, hk1, hL1, hL2, ho, hn⟩, g1, g2, g3, g4, g5, g6, g7, g8⟩
    dsimp only at hA1 hA2 hL1 hL2 ho hn ⊢
    obtain rfl : xs.length = n1 := hA1.1.1
    obtain rfl : ys.length = n2 := hA2.1.1
    have hfr : I64 fr := ⟨by omega, by omega⟩
    have hto : I64 to := ⟨by omega, by omega⟩
    have hLm : L ≤ 9223372036854775807 := by omega
    have jA1 : xs.length ≤ maxLen := Nat.le_trans k1 m1
    have jA2 : ys.length ≤ maxLen := Nat.le_trans k2 m2
    have noS : ∀ {A : Option Addr} {n : Nat} (b : Nat), blk A n b → ¬ noBlk b := fun _ _ h => h
    have hKK := hk1
    have sz1 := hk1.size
    have HO := Lib.hid ho
    have HN := Lib.hid hn
    clear hAd k1 k2 m1 m2 H ho hn
    obtain ⟨o, ho⟩ : ∃ o, moveOk ⟨xs, ys, L⟩ kd fr to sm = o := ⟨_, rfl⟩
    obtain ⟨⟨P, Q, M⟩, hR⟩ : ∃ R, resL o (moved ⟨xs, ys, L⟩ kd fr to sm) = R := ⟨_, rfl⟩
    obtain ⟨k, hbk⟩ : ∃ k, okB ⟨xs, ys, L⟩ = k := ⟨_, rfl⟩
    have HSP := Lib.hid (fun (B1 B2 : Option Addr) (b1 b2 d1 d2 : Nat) (W : World) (i1 : Ints W B1 b1 xs) (i2 : Ints W B2 b2 ys) (j1 : b1 ≤ maxLen) (j2 : b2 ≤ maxLen) => (show Calls Try.prog 16 #[.agg #[.slice B1 b1 d1, .slice B2 b2 d2, .int .i64 L], .int .i64 kd, .int .i64 fr, .int .i64 to, .int .i64 sm] W (RetU W o ⟨P, Q, M⟩) from by have h9 := (specMove_any B1 B2 b1 b2 d1 d2 L xs ys W i1 i2 j1 j2 hLm kd fr to sm).mono fun _ _ hr => hr.u; rw [ho, hR] at h9; exact h9))
    have HIM := Lib.hid (fun (B1 B2 : Option Addr) (b1 b2 d1 d2 : Nat) (W : World) (i1 : Ints W B1 b1 xs) (i2 : Ints W B2 b2 ys) (j1 : b1 ≤ maxLen) (j2 : b2 ≤ maxLen) => (show Calls Try.prog 17 #[.agg #[.slice B1 b1 d1, .slice B2 b2 d2, .int .i64 L], .int .i64 kd, .int .i64 fr, .int .i64 to, .int .i64 sm] W (RetU W o ⟨P, Q, M⟩) from by have h9 := (implMove_any B1 B2 b1 b2 d1 d2 L xs ys W i1 i2 j1 j2 kd fr to sm hfr hto).mono fun _ _ hr => hr.u; rw [ho, hR] at h9; exact h9))
    have HSB := Lib.hid (fun (B1 B2 : Option Addr) (b1 b2 d1 d2 : Nat) (W : World) (i1 : Ints W B1 b1 xs) (i2 : Ints W B2 b2 ys) (j1 : b1 ≤ maxLen) (j2 : b2 ≤ maxLen) => (show Calls Try.prog 13 #[.agg #[.slice B1 b1 d1, .slice B2 b2 d2, .int .i64 L]] W (fun e w' => e = .returned (.bool k) ∧ Keeps noBlk W w') from by have h9 := specOk_any B1 B2 b1 b2 d1 d2 L xs ys W i1 i2 j1 j2 hLm; rw [hbk] at h9; exact h9))
    have HOK := Lib.hid ho
    have HRR := Lib.hid hR
    have HBK := Lib.hid hbk
    clear ho hR hbk
    have YhA1 := Lib.hid hA1
    have YhA2 := Lib.hid hA2
    have YhKK := Lib.hid hKK
    clear hA1 hA2 hKK hk1
    go_wp2_with fail
    refine (HSP.out A1 A2 _ _ _ _ _ (YhA1.out.alloc (.cells #[.slice A1 xs.length c1, .slice A2 ys.length c2, .int .i64 L] 25)).ints (YhA2.out.alloc (.cells #[.slice A1 xs.length c1, .slice A2 ys.length c2, .int .i64 L] 25)).ints jA1 jA2).mono ?_
    rintro e w2 ⟨S1, Sn1, Sc1, S2, Sn2, Sc2, rfl, hS1, hS2, -, jS1, jS2, hk2⟩
    obtain rfl : P.length = Sn1 := hS1.1.1
    obtain rfl : Q.length = Sn2 := hS2.1.1
    have hbb := (Box.new w1 _ rfl 25 #[.slice A1 xs.length c1, .slice A2 ys.length c2, .int .i64 L]).keeps hk2 (fun h => h)
    have hA1 := (YhA1.out.alloc (.cells #[.slice A1 xs.length c1, .slice A2 ys.length c2, .int .i64 L] 25)).keeps hk2 noS
    have hA2 := (YhA2.out.alloc (.cells #[.slice A1 xs.length c1, .slice A2 ys.length c2, .int .i64 L] 25)).keeps hk2 noS
    have hKK := (YhKK.out.alloc (.cells #[.slice A1 xs.length c1, .slice A2 ys.length c2, .int .i64 L] 25)).trans hk2
    have sz2 := hk2.size
    (try simp at sz2)
    clear YhA1 YhA2 YhKK
    have bb0 := hbb.cell 0
    have bb1 := hbb.cell 1
    have bb2 := hbb.cell 2
    simp at bb0 bb1 bb2
    have zbb := hbb.lt
    have Yhbb := Lib.hid hbb
    have YhA1 := Lib.hid hA1
    have YhA2 := Lib.hid hA2
    have YhS1 := Lib.hid hS1
    have YhS2 := Lib.hid hS2
    have YhKK := Lib.hid hKK
    clear hbb hA1 hA2 hS1 hS2 hKK hk2
    go_wp2_with fail
    refine (HIM.out A1 A2 _ _ _ _ _ (YhA1.out.alloc (.cells #[.slice S1 P.length Sc1, .slice S2 Q.length Sc2, .int .i64 M] 25)).ints (YhA2.out.alloc (.cells #[.slice S1 P.length Sc1, .slice S2 Q.length Sc2, .int .i64 M] 25)).ints jA1 jA2).mono ?_
    rintro e w3 ⟨G1, Gn1, Gc1, G2, Gn2, Gc2, rfl, hG1, hG2, -, jG1, jG2, hk3⟩
    obtain rfl : P.length = Gn1 := hG1.1.1
    obtain rfl : Q.length = Gn2 := hG2.1.1
    clear bb0 bb1 bb2 zbb
    have hbb := (Yhbb.out.alloc (.cells #[.slice S1 P.length Sc1, .slice S2 Q.length Sc2, .int .i64 M] 25)).keeps hk3 (fun h => h)
    have hbs := (Box.new w2 _ rfl 25 #[.slice S1 P.length Sc1, .slice S2 Q.length Sc2, .int .i64 M]).keeps hk3 (fun h => h)
    have hA1 := (YhA1.out.alloc (.cells #[.slice S1 P.length Sc1, .slice S2 Q.length Sc2, .int .i64 M] 25)).keeps hk3 noS
    have hA2 := (YhA2.out.alloc (.cells #[.slice S1 P.length Sc1, .slice S2 Q.length Sc2, .int .i64 M] 25)).keeps hk3 noS
    have hS1 := (YhS1.out.alloc (.cells #[.slice S1 P.length Sc1, .slice S2 Q.length Sc2, .int .i64 M] 25)).keeps hk3 noS
    have hS2 := (YhS2.out.alloc (.cells #[.slice S1 P.length Sc1, .slice S2 Q.length Sc2, .int .i64 M] 25)).keeps hk3 noS
    have hKK := (YhKK.out.alloc (.cells #[.slice S1 P.length Sc1, .slice S2 Q.length Sc2, .int .i64 M] 25)).trans hk3
    have sz3 := hk3.size
    (try simp at sz3)
    clear Yhbb YhA1 YhA2 YhS1 YhS2 YhKK
    have bb0 := hbb.cell 0
    have bb1 := hbb.cell 1
    have bb2 := hbb.cell 2
    simp at bb0 bb1 bb2
    have zbb := hbb.lt
    have bs0 := hbs.cell 0
    have bs1 := hbs.cell 1
    have bs2 := hbs.cell 2
    simp at bs0 bs1 bs2
    have zbs := hbs.lt
    have Yhbb := Lib.hid hbb
    have Yhbs := Lib.hid hbs
    have YhA1 := Lib.hid hA1
    have YhA2 := Lib.hid hA2
    have YhS1 := Lib.hid hS1
    have YhS2 := Lib.hid hS2
    have YhG1 := Lib.hid hG1
    have YhG2 := Lib.hid hG2
    have YhKK := Lib.hid hKK
    clear hbb hbs hA1 hA2 hS1 hS2 hG1 hG2 hKK hk3
    go_wp2_with fail
    refine (lwBank_yes G1 G2 S1 S2 _ _ _ _ _ _ M P Q _ (YhG1.out.alloc (.cells #[.slice G1 P.length Gc1, .slice G2 Q.length Gc2, .int .i64 M] 25)).ints (YhS1.out.alloc (.cells #[.slice G1 P.length Gc1, .slice G2 Q.length Gc2, .int .i64 M] 25)).ints (YhG2.out.alloc (.cells #[.slice G1 P.length Gc1, .slice G2 Q.length Gc2, .int .i64 M] 25)).ints (YhS2.out.alloc (.cells #[.slice G1 P.length Gc1, .slice G2 Q.length Gc2, .int .i64 M] 25)).ints jG1 jG2).mono ?_
    rintro e w4 ⟨rfl, hk4⟩
    clear bb0 bb1 bb2 zbb
    clear bs0 bs1 bs2 zbs
    have hbb := (Yhbb.out.alloc (.cells #[.slice G1 P.length Gc1, .slice G2 Q.length Gc2, .int .i64 M] 25)).keeps hk4 (fun h => h)
    have hbs := (Yhbs.out.alloc (.cells #[.slice G1 P.length Gc1, .slice G2 Q.length Gc2, .int .i64 M] 25)).keeps hk4 (fun h => h)
    have hbg := (Box.new w3 _ rfl 25 #[.slice G1 P.length Gc1, .slice G2 Q.length Gc2, .int .i64 M]).keeps hk4 (fun h => h)
    have hA1 := (YhA1.out.alloc (.cells #[.slice G1 P.length Gc1, .slice G2 Q.length Gc2, .int .i64 M] 25)).keeps hk4 noS
    have hA2 := (YhA2.out.alloc (.cells #[.slice G1 P.length Gc1, .slice G2 Q.length Gc2, .int .i64 M] 25)).keeps hk4 noS
    have hS1 := (YhS1.out.alloc (.cells #[.slice G1 P.length Gc1, .slice G2 Q.length Gc2, .int .i64 M] 25)).keeps hk4 noS
    have hS2 := (YhS2.out.alloc (.cells #[.slice G1 P.length Gc1, .slice G2 Q.length Gc2, .int .i64 M] 25)).keeps hk4 noS
    have hG1 := (YhG1.out.alloc (.cells #[.slice G1 P.length Gc1, .slice G2 Q.length Gc2, .int .i64 M] 25)).keeps hk4 noS
    have hG2 := (YhG2.out.alloc (.cells #[.slice G1 P.length Gc1, .slice G2 Q.length Gc2, .int .i64 M] 25)).keeps hk4 noS
    have hKK := (YhKK.out.alloc (.cells #[.slice G1 P.length Gc1, .slice G2 Q.length Gc2, .int .i64 M] 25)).trans hk4
    have sz4 := hk4.size
    (try simp at sz4)
    clear Yhbb Yhbs YhA1 YhA2 YhS1 YhS2 YhG1 YhG2 YhKK
    have bb0 := hbb.cell 0
    have bb1 := hbb.cell 1
    have bb2 := hbb.cell 2
    simp at bb0 bb1 bb2
    have zbb := hbb.lt
    have bs0 := hbs.cell 0
    have bs1 := hbs.cell 1
    have bs2 := hbs.cell 2
    simp at bs0 bs1 bs2
    have zbs := hbs.lt
    have bg0 := hbg.cell 0
    have bg1 := hbg.cell 1
    have bg2 := hbg.cell 2
    simp at bg0 bg1 bg2
    have zbg := hbg.lt
    have Yhbb := Lib.hid hbb
    have Yhbs := Lib.hid hbs
    have Yhbg := Lib.hid hbg
    have YhA1 := Lib.hid hA1
    have YhA2 := Lib.hid hA2
    have YhS1 := Lib.hid hS1
    have YhS2 := Lib.hid hS2
    have YhG1 := Lib.hid hG1
    have YhG2 := Lib.hid hG2
    have YhKK := Lib.hid hKK
    clear hbb hbs hbg hA1 hA2 hS1 hS2 hG1 hG2 hKK hk4
    go_wp2_with fail
    refine (HSB.out A1 A2 _ _ _ _ _ (YhA1.out).ints (YhA2.out).ints jA1 jA2).mono ?_
    rintro e w5 ⟨rfl, hk5⟩
    clear bb0 bb1 bb2 zbb
    clear bs0 bs1 bs2 zbs
    clear bg0 bg1 bg2 zbg
    have hbb := (Yhbb.out).keeps hk5 (fun h => h)
    have hbs := (Yhbs.out).keeps hk5 (fun h => h)
    have hbg := (Yhbg.out).keeps hk5 (fun h => h)
    have hA1 := (YhA1.out).keeps hk5 noS
    have hA2 := (YhA2.out).keeps hk5 noS
    have hS1 := (YhS1.out).keeps hk5 noS
    have hS2 := (YhS2.out).keeps hk5 noS
    have hG1 := (YhG1.out).keeps hk5 noS
    have hG2 := (YhG2.out).keeps hk5 noS
    have hKK := (YhKK.out).trans hk5
    have sz5 := hk5.size
    (try simp at sz5)
    clear Yhbb Yhbs Yhbg YhA1 YhA2 YhS1 YhS2 YhG1 YhG2 YhKK
    have bb0 := hbb.cell 0
    have bb1 := hbb.cell 1
    have bb2 := hbb.cell 2
    simp at bb0 bb1 bb2
    have zbb := hbb.lt
    have bs0 := hbs.cell 0
    have bs1 := hbs.cell 1
    have bs2 := hbs.cell 2
    simp at bs0 bs1 bs2
    have zbs := hbs.lt
    have bg0 := hbg.cell 0
    have bg1 := hbg.cell 1
    have bg2 := hbg.cell 2
    simp at bg0 bg1 bg2
    have zbg := hbg.lt
    have Yhbb := Lib.hid hbb
    have Yhbs := Lib.hid hbs
    have Yhbg := Lib.hid hbg
    have YhA1 := Lib.hid hA1
    have YhA2 := Lib.hid hA2
    have YhS1 := Lib.hid hS1
    have YhS2 := Lib.hid hS2
    have YhG1 := Lib.hid hG1
    have YhG2 := Lib.hid hG2
    have YhKK := Lib.hid hKK
    clear hbb hbs hbg hA1 hA2 hS1 hS2 hG1 hG2 hKK hk5
    cases k
    · skip
      go_wp2_with fail
      refine (lwBank_yes G1 G2 S1 S2 _ _ _ _ _ _ M P Q _ (YhG1.out).ints (YhS1.out).ints (YhG2.out).ints (YhS2.out).ints jG1 jG2).mono ?_
      rintro e w6 ⟨rfl, hk6⟩
      clear bb0 bb1 bb2 zbb
      clear bs0 bs1 bs2 zbs
      clear bg0 bg1 bg2 zbg
      have hbb := (Yhbb.out).keeps hk6 (fun h => h)
      have hbs := (Yhbs.out).keeps hk6 (fun h => h)
      have hbg := (Yhbg.out).keeps hk6 (fun h => h)
      have hA1 := (YhA1.out).keeps hk6 noS
      have hA2 := (YhA2.out).keeps hk6 noS
      have hS1 := (YhS1.out).keeps hk6 noS
      have hS2 := (YhS2.out).keeps hk6 noS
      have hG1 := (YhG1.out).keeps hk6 noS
      have hG2 := (YhG2.out).keeps hk6 noS
      have hKK := (YhKK.out).trans hk6
      have sz6 := hk6.size
      (try simp at sz6)
      clear Yhbb Yhbs Yhbg YhA1 YhA2 YhS1 YhS2 YhG1 YhG2 YhKK
      have bb0 := hbb.cell 0
      have bb1 := hbb.cell 1
      have bb2 := hbb.cell 2
      simp at bb0 bb1 bb2
      have zbb := hbb.lt
      have bs0 := hbs.cell 0
      have bs1 := hbs.cell 1
      have bs2 := hbs.cell 2
      simp at bs0 bs1 bs2
      have zbs := hbs.lt
      have bg0 := hbg.cell 0
      have bg1 := hbg.cell 1
      have bg2 := hbg.cell 2
      simp at bg0 bg1 bg2
      have zbg := hbg.lt
      have Yhbb := Lib.hid hbb
      have Yhbs := Lib.hid hbs
      have Yhbg := Lib.hid hbg
      have YhA1 := Lib.hid hA1
      have YhA2 := Lib.hid hA2
      have YhS1 := Lib.hid hS1
      have YhS2 := Lib.hid hS2
      have YhG1 := Lib.hid hG1
      have YhG2 := Lib.hid hG2
      have YhKK := Lib.hid hKK
      clear hbb hbs hbg hA1 hA2 hS1 hS2 hG1 hG2 hKK hk6
      go_wp2
      go_ret
      exact ⟨rfl, YhKK.out.below⟩
    · by_cases hk3 : 2 < kd
      · have hk4 : ¬ kd < 1 := by omega
        go_wp2_with fail
        refine (lwBank_yes G1 G2 S1 S2 _ _ _ _ _ _ M P Q _ (YhG1.out).ints (YhS1.out).ints (YhG2.out).ints (YhS2.out).ints jG1 jG2).mono ?_
        rintro e w6 ⟨rfl, hk6⟩
        clear bb0 bb1 bb2 zbb
        clear bs0 bs1 bs2 zbs
        clear bg0 bg1 bg2 zbg
        have hbb := (Yhbb.out).keeps hk6 (fun h => h)
        have hbs := (Yhbs.out).keeps hk6 (fun h => h)
        have hbg := (Yhbg.out).keeps hk6 (fun h => h)
        have hA1 := (YhA1.out).keeps hk6 noS
        have hA2 := (YhA2.out).keeps hk6 noS
        have hS1 := (YhS1.out).keeps hk6 noS
        have hS2 := (YhS2.out).keeps hk6 noS
        have hG1 := (YhG1.out).keeps hk6 noS
        have hG2 := (YhG2.out).keeps hk6 noS
        have hKK := (YhKK.out).trans hk6
        have sz6 := hk6.size
        (try simp at sz6)
        clear Yhbb Yhbs Yhbg YhA1 YhA2 YhS1 YhS2 YhG1 YhG2 YhKK
        have bb0 := hbb.cell 0
        have bb1 := hbb.cell 1
        have bb2 := hbb.cell 2
        simp at bb0 bb1 bb2
        have zbb := hbb.lt
        have bs0 := hbs.cell 0
        have bs1 := hbs.cell 1
        have bs2 := hbs.cell 2
        simp at bs0 bs1 bs2
        have zbs := hbs.lt
        have bg0 := hbg.cell 0
        have bg1 := hbg.cell 1
        have bg2 := hbg.cell 2
        simp at bg0 bg1 bg2
        have zbg := hbg.lt
        have Yhbb := Lib.hid hbb
        have Yhbs := Lib.hid hbs
        have Yhbg := Lib.hid hbg
        have YhA1 := Lib.hid hA1
        have YhA2 := Lib.hid hA2
        have YhS1 := Lib.hid hS1
        have YhS2 := Lib.hid hS2
        have YhG1 := Lib.hid hG1
        have YhG2 := Lib.hid hG2
        have YhKK := Lib.hid hKK
        clear hbb hbs hbg hA1 hA2 hS1 hS2 hG1 hG2 hKK hk6
        go_wp2
        go_ret
        exact ⟨rfl, YhKK.out.below⟩
      · have hk4 : ¬ kd < 1 := by omega
        by_cases hf3 : 3 < fr
        · have hf4 : ¬ fr < 1 := by omega
          go_wp2_with fail
          refine (lwBank_yes G1 G2 S1 S2 _ _ _ _ _ _ M P Q _ (YhG1.out).ints (YhS1.out).ints (YhG2.out).ints (YhS2.out).ints jG1 jG2).mono ?_
          rintro e w6 ⟨rfl, hk6⟩
          clear bb0 bb1 bb2 zbb
          clear bs0 bs1 bs2 zbs
          clear bg0 bg1 bg2 zbg
          have hbb := (Yhbb.out).keeps hk6 (fun h => h)
          have hbs := (Yhbs.out).keeps hk6 (fun h => h)
          have hbg := (Yhbg.out).keeps hk6 (fun h => h)
          have hA1 := (YhA1.out).keeps hk6 noS
          have hA2 := (YhA2.out).keeps hk6 noS
          have hS1 := (YhS1.out).keeps hk6 noS
          have hS2 := (YhS2.out).keeps hk6 noS
          have hG1 := (YhG1.out).keeps hk6 noS
          have hG2 := (YhG2.out).keeps hk6 noS
          have hKK := (YhKK.out).trans hk6
          have sz6 := hk6.size
          (try simp at sz6)
          clear Yhbb Yhbs Yhbg YhA1 YhA2 YhS1 YhS2 YhG1 YhG2 YhKK
          have bb0 := hbb.cell 0
          have bb1 := hbb.cell 1
          have bb2 := hbb.cell 2
          simp at bb0 bb1 bb2
          have zbb := hbb.lt
          have bs0 := hbs.cell 0
          have bs1 := hbs.cell 1
          have bs2 := hbs.cell 2
          simp at bs0 bs1 bs2
          have zbs := hbs.lt
          have bg0 := hbg.cell 0
          have bg1 := hbg.cell 1
          have bg2 := hbg.cell 2
          simp at bg0 bg1 bg2
          have zbg := hbg.lt
          have Yhbb := Lib.hid hbb
          have Yhbs := Lib.hid hbs
          have Yhbg := Lib.hid hbg
          have YhA1 := Lib.hid hA1
          have YhA2 := Lib.hid hA2
          have YhS1 := Lib.hid hS1
          have YhS2 := Lib.hid hS2
          have YhG1 := Lib.hid hG1
          have YhG2 := Lib.hid hG2
          have YhKK := Lib.hid hKK
          clear hbb hbs hbg hA1 hA2 hS1 hS2 hG1 hG2 hKK hk6
          go_wp2
          go_ret
          exact ⟨rfl, YhKK.out.below⟩
        · have hf4 : ¬ fr < 1 := by omega
          have ht3 : ¬ 3 < to := by omega
          have ht4 : ¬ to < 1 := by omega
          have hkk : kindB kd = true := by simp [kindB]; omega
          have huu : userB fr = true := by simp [userB]; omega
          have hvv : userB to = true := by simp [userB]; omega
          have hbk := HBK.out
          have hl1 := lst_len hbk 1
          have hl2 := lst_len hbk 2
          have hNb := notes_bounds hbk
          have hLb := locked_bounds hbk
          have hhb := has_bounds hbk kd fr
          have htb := has_bounds hbk kd to
          simp only [lst, if_true] at hl1 hl2
          have hl2 : ys.length = 3 := hl2
          dsimp only at hNb hLb
          obtain ⟨u, rfl⟩ := nat_of_user huu
          obtain ⟨v, rfl⟩ := nat_of_user hvv
          have hu : (u : Int) < 3 := by omega
          have hv : (v : Int) < 3 := by omega
          have hx1 := has1 xs ys L u
          have hx2 := has2 xs ys L u
          have hy1 := has1 xs ys L v
          have hy2 := has2 xs ys L v
          rcases kind_cases hkk with rfl | rfl
          · rw [hx1] at hhb
            rw [hy1] at htb
            obtain ⟨av, hav⟩ : ∃ av, xs.getD u 0 = av := ⟨_, rfl⟩
            rw [hav] at hhb
            obtain ⟨bv, hbv⟩ : ∃ bv, xs.getD v 0 = bv := ⟨_, rfl⟩
            rw [hbv] at htb
            obtain ⟨ov, hov⟩ : ∃ ov, ys.getD u 0 = ov := ⟨_, rfl⟩
            have HHb := Lib.hid (fun (B1 B2 : Option Addr) (b1 b2 d1 d2 : Nat) (W : World) (i1 : Ints W B1 b1 xs) (i2 : Ints W B2 b2 ys) (j1 : b1 ≤ maxLen) (j2 : b2 ≤ maxLen) => (show Calls Try.prog 19 #[.agg #[.slice B1 b1 d1, .slice B2 b2 d2, .int .i64 L], .int .i64 1, .int .i64 ((u : Int) + 1)] W (fun e w' => e = .returned (.int .i64 av) ∧ Keeps noBlk W w') from by have h9 := lwHas_1 B1 B2 b1 b2 d1 d2 L xs ys W i1 (i1.1.symm.trans hl1) (i2.1.symm.trans hl2) i2 u hu; rw [hav] at h9; exact h9))
            cases o
            · by_cases hs0 : sm < 0
              · have hd0 : decide (sm < 0) = true := by simpa using hs0
                clear hbk hl1 hl2 hx1 hx2 hy1 hy2 hav hbv hov hkk huu hvv
                go_wp2
                go_ret
                exact ⟨rfl, YhKK.out.below⟩
              · have hlt : av < sm := by
                  rcases Int.lt_or_le av sm with h9 | h9
                  · exact h9
                  · have h8 := HOK.out; rw [moveOk_mk hbk hkk huu hvv (by omega) (by rw [hx1, hav]; exact h9)] at h8; cases h8
                have hd0 : decide (sm < 0) = false := by simpa using hs0
                have hd1 : decide (av < sm) = true := by simpa using hlt
                clear hbk hl1 hl2 hx1 hx2 hy1 hy2 hav hbv hov hkk huu hvv
                go_wp2_with fail
                refine (HHb.out A1 A2 _ _ _ _ _ (YhA1.out).ints (YhA2.out).ints jA1 jA2).mono ?_
                rintro e w6 ⟨rfl, hk6⟩
                clear bb0 bb1 bb2 zbb
                clear bs0 bs1 bs2 zbs
                clear bg0 bg1 bg2 zbg
                have hbb := (Yhbb.out).keeps hk6 (fun h => h)
                have hbs := (Yhbs.out).keeps hk6 (fun h => h)
                have hbg := (Yhbg.out).keeps hk6 (fun h => h)
                have hA1 := (YhA1.out).keeps hk6 noS
                have hA2 := (YhA2.out).keeps hk6 noS
                have hS1 := (YhS1.out).keeps hk6 noS
                have hS2 := (YhS2.out).keeps hk6 noS
                have hG1 := (YhG1.out).keeps hk6 noS
                have hG2 := (YhG2.out).keeps hk6 noS
                have hKK := (YhKK.out).trans hk6
                have sz6 := hk6.size
                (try simp at sz6)
                clear Yhbb Yhbs Yhbg YhA1 YhA2 YhS1 YhS2 YhG1 YhG2 YhKK
                have bb0 := hbb.cell 0
                have bb1 := hbb.cell 1
                have bb2 := hbb.cell 2
                simp at bb0 bb1 bb2
                have zbb := hbb.lt
                have bs0 := hbs.cell 0
                have bs1 := hbs.cell 1
                have bs2 := hbs.cell 2
                simp at bs0 bs1 bs2
                have zbs := hbs.lt
                have bg0 := hbg.cell 0
                have bg1 := hbg.cell 1
                have bg2 := hbg.cell 2
                simp at bg0 bg1 bg2
                have zbg := hbg.lt
                have Yhbb := Lib.hid hbb
                have Yhbs := Lib.hid hbs
                have Yhbg := Lib.hid hbg
                have YhA1 := Lib.hid hA1
                have YhA2 := Lib.hid hA2
                have YhS1 := Lib.hid hS1
                have YhS2 := Lib.hid hS2
                have YhG1 := Lib.hid hG1
                have YhG2 := Lib.hid hG2
                have YhKK := Lib.hid hKK
                clear hbb hbs hbg hA1 hA2 hS1 hS2 hG1 hG2 hKK hk6
                go_wp2
                go_ret
                exact ⟨rfl, YhKK.out.below⟩
            · obtain ⟨-, -, -, -, hs0, hs1⟩ := moveOk_parts HOK.out
              rw [hx1, hav] at hs1
              have hax := move_ok HOK.out
              have hR := HRR.out
              have hR : moved ⟨xs, ys, L⟩ 1 ((u : Int) + 1) ((v : Int) + 1) sm = ⟨P, Q, M⟩ := hR
              rw [hR] at hax
              rw [moved_mv1] at hR
              obtain ⟨e1, e2, e3⟩ := BankL.mk.inj hR
              clear hR HRR HOK
              subst e2 e3
              have hpl : P.length = 3 := by rw [← e1, mv_len]; exact hl1
              obtain ⟨nn, hnn⟩ : ∃ nn, sumL ys = nn := ⟨_, rfl⟩
              rw [hnn] at hNb
              have ea : allOwn ⟨xs, ys, L⟩ = 30 := by unfold allOwn; rw [hbk]; rfl
              have en : allNotes ⟨xs, ys, L⟩ = nn := by unfold allNotes; rw [hbk]; exact hnn
              have ea2 : allOwn ⟨P, ys, L⟩ = 30 := by unfold allOwn; rw [hax]; rfl
              have en2 : allNotes ⟨P, ys, L⟩ = nn := by unfold allNotes; rw [hax]; exact hnn
              have HAb := Lib.hid (fun (B1 B2 : Option Addr) (b1 b2 d1 d2 : Nat) (W : World) (i1 : Ints W B1 b1 xs) (i2 : Ints W B2 b2 ys) (j1 : b1 ≤ maxLen) (j2 : b2 ≤ maxLen) => (show Calls Try.prog 12 #[.agg #[.slice B1 b1 d1, .slice B2 b2 d2, .int .i64 L]] W (fun e w' => e = .returned (.tuple #[.int .i64 30, .int .i64 nn]) ∧ Keeps noBlk W w') from by have h9 := implBankAll_any B1 B2 b1 b2 d1 d2 L xs ys W i1 i2 j1 j2; unfold RetAll at h9; rw [ea, en] at h9; exact h9))
              have HAx := Lib.hid (fun (B1 B2 : Option Addr) (b1 b2 d1 d2 : Nat) (W : World) (i1 : Ints W B1 b1 P) (i2 : Ints W B2 b2 ys) (j1 : b1 ≤ maxLen) (j2 : b2 ≤ maxLen) => (show Calls Try.prog 12 #[.agg #[.slice B1 b1 d1, .slice B2 b2 d2, .int .i64 L]] W (fun e w' => e = .returned (.tuple #[.int .i64 30, .int .i64 nn]) ∧ Keeps noBlk W w') from by have h9 := implBankAll_any B1 B2 b1 b2 d1 d2 L P ys W i1 i2 j1 j2; unfold RetAll at h9; rw [ea2, en2] at h9; exact h9))
              by_cases huv : u = v
              · subst huv
                rw [mv_same sm (by omega)] at e1
                subst e1
                have hdd : (((u : Int) + 1) == (u : Int) + 1) = true := by simp
                clear hbk hax hl1 hl2 hpl hnn ea en ea2 en2 hkk huu hvv hx1 hx2 hy1 hy2 hav hbv hov
                go_wp2_with fail
                refine (HAb.out A1 A2 _ _ _ _ _ (YhA1.out).ints (YhA2.out).ints jA1 jA2).mono ?_
                rintro e w6 ⟨rfl, hk6⟩
                clear bb0 bb1 bb2 zbb
                clear bs0 bs1 bs2 zbs
                clear bg0 bg1 bg2 zbg
                have hbb := (Yhbb.out).keeps hk6 (fun h => h)
                have hbs := (Yhbs.out).keeps hk6 (fun h => h)
                have hbg := (Yhbg.out).keeps hk6 (fun h => h)
                have hA1 := (YhA1.out).keeps hk6 noS
                have hA2 := (YhA2.out).keeps hk6 noS
                have hS1 := (YhS1.out).keeps hk6 noS
                have hS2 := (YhS2.out).keeps hk6 noS
                have hG1 := (YhG1.out).keeps hk6 noS
                have hG2 := (YhG2.out).keeps hk6 noS
                have hKK := (YhKK.out).trans hk6
                have sz6 := hk6.size
                (try simp at sz6)
                clear Yhbb Yhbs Yhbg YhA1 YhA2 YhS1 YhS2 YhG1 YhG2 YhKK
                have bb0 := hbb.cell 0
                have bb1 := hbb.cell 1
                have bb2 := hbb.cell 2
                simp at bb0 bb1 bb2
                have zbb := hbb.lt
                have bs0 := hbs.cell 0
                have bs1 := hbs.cell 1
                have bs2 := hbs.cell 2
                simp at bs0 bs1 bs2
                have zbs := hbs.lt
                have bg0 := hbg.cell 0
                have bg1 := hbg.cell 1
                have bg2 := hbg.cell 2
                simp at bg0 bg1 bg2
                have zbg := hbg.lt
                have Yhbb := Lib.hid hbb
                have Yhbs := Lib.hid hbs
                have Yhbg := Lib.hid hbg
                have YhA1 := Lib.hid hA1
                have YhA2 := Lib.hid hA2
                have YhS1 := Lib.hid hS1
                have YhS2 := Lib.hid hS2
                have YhG1 := Lib.hid hG1
                have YhG2 := Lib.hid hG2
                have YhKK := Lib.hid hKK
                clear hbb hbs hbg hA1 hA2 hS1 hS2 hG1 hG2 hKK hk6
                go_wp2_with fail
                refine (HAx.out G1 G2 _ _ _ _ _ (YhG1.out).ints (YhG2.out).ints jG1 jG2).mono ?_
                rintro e w7 ⟨rfl, hk7⟩
                clear bb0 bb1 bb2 zbb
                clear bs0 bs1 bs2 zbs
                clear bg0 bg1 bg2 zbg
                have hbb := (Yhbb.out).keeps hk7 (fun h => h)
                have hbs := (Yhbs.out).keeps hk7 (fun h => h)
                have hbg := (Yhbg.out).keeps hk7 (fun h => h)
                have hA1 := (YhA1.out).keeps hk7 noS
                have hA2 := (YhA2.out).keeps hk7 noS
                have hS1 := (YhS1.out).keeps hk7 noS
                have hS2 := (YhS2.out).keeps hk7 noS
                have hG1 := (YhG1.out).keeps hk7 noS
                have hG2 := (YhG2.out).keeps hk7 noS
                have hKK := (YhKK.out).trans hk7
                have sz7 := hk7.size
                (try simp at sz7)
                clear Yhbb Yhbs Yhbg YhA1 YhA2 YhS1 YhS2 YhG1 YhG2 YhKK
                have bb0 := hbb.cell 0
                have bb1 := hbb.cell 1
                have bb2 := hbb.cell 2
                simp at bb0 bb1 bb2
                have zbb := hbb.lt
                have bs0 := hbs.cell 0
                have bs1 := hbs.cell 1
                have bs2 := hbs.cell 2
                simp at bs0 bs1 bs2
                have zbs := hbs.lt
                have bg0 := hbg.cell 0
                have bg1 := hbg.cell 1
                have bg2 := hbg.cell 2
                simp at bg0 bg1 bg2
                have zbg := hbg.lt
                have Yhbb := Lib.hid hbb
                have Yhbs := Lib.hid hbs
                have Yhbg := Lib.hid hbg
                have YhA1 := Lib.hid hA1
                have YhA2 := Lib.hid hA2
                have YhS1 := Lib.hid hS1
                have YhS2 := Lib.hid hS2
                have YhG1 := Lib.hid hG1
                have YhG2 := Lib.hid hG2
                have YhKK := Lib.hid hKK
                clear hbb hbs hbg hA1 hA2 hS1 hS2 hG1 hG2 hKK hk7
                go_wp2_with fail
                refine (lwBank_yes G1 G2 A1 A2 _ _ _ _ _ _ L xs ys _ (YhG1.out).ints (YhA1.out).ints (YhG2.out).ints (YhA2.out).ints jG1 jG2).mono ?_
                rintro e w8 ⟨rfl, hk8⟩
                clear bb0 bb1 bb2 zbb
                clear bs0 bs1 bs2 zbs
                clear bg0 bg1 bg2 zbg
                have hbb := (Yhbb.out).keeps hk8 (fun h => h)
                have hbs := (Yhbs.out).keeps hk8 (fun h => h)
                have hbg := (Yhbg.out).keeps hk8 (fun h => h)
                have hA1 := (YhA1.out).keeps hk8 noS
                have hA2 := (YhA2.out).keeps hk8 noS
                have hS1 := (YhS1.out).keeps hk8 noS
                have hS2 := (YhS2.out).keeps hk8 noS
                have hG1 := (YhG1.out).keeps hk8 noS
                have hG2 := (YhG2.out).keeps hk8 noS
                have hKK := (YhKK.out).trans hk8
                have sz8 := hk8.size
                (try simp at sz8)
                clear Yhbb Yhbs Yhbg YhA1 YhA2 YhS1 YhS2 YhG1 YhG2 YhKK
                have bb0 := hbb.cell 0
                have bb1 := hbb.cell 1
                have bb2 := hbb.cell 2
                simp at bb0 bb1 bb2
                have zbb := hbb.lt
                have bs0 := hbs.cell 0
                have bs1 := hbs.cell 1
                have bs2 := hbs.cell 2
                simp at bs0 bs1 bs2
                have zbs := hbs.lt
                have bg0 := hbg.cell 0
                have bg1 := hbg.cell 1
                have bg2 := hbg.cell 2
                simp at bg0 bg1 bg2
                have zbg := hbg.lt
                have Yhbb := Lib.hid hbb
                have Yhbs := Lib.hid hbs
                have Yhbg := Lib.hid hbg
                have YhA1 := Lib.hid hA1
                have YhA2 := Lib.hid hA2
                have YhS1 := Lib.hid hS1
                have YhS2 := Lib.hid hS2
                have YhG1 := Lib.hid hG1
                have YhG2 := Lib.hid hG2
                have YhKK := Lib.hid hKK
                clear hbb hbs hbg hA1 hA2 hS1 hS2 hG1 hG2 hKK hk8
                go_wp2
                go_ret
                exact ⟨rfl, YhKK.out.below⟩
              · have hg1 : P.getD u 0 = av - sm := by rw [← e1, mv_getD sm (by omega) (by omega), if_pos rfl, if_neg (fun h => huv h.symm), hav]; omega
                have hg2 : P.getD v 0 = bv + sm := by rw [← e1, mv_getD sm (by omega) (by omega), if_neg huv, if_pos rfl, hbv]; omega
                have HXF := Lib.hid (fun (B1 B2 : Option Addr) (b1 b2 d1 d2 : Nat) (W : World) (i1 : Ints W B1 b1 P) (i2 : Ints W B2 b2 ys) (j1 : b1 ≤ maxLen) (j2 : b2 ≤ maxLen) => (show Calls Try.prog 19 #[.agg #[.slice B1 b1 d1, .slice B2 b2 d2, .int .i64 L], .int .i64 1, .int .i64 ((u : Int) + 1)] W (fun e w' => e = .returned (.int .i64 (av - sm)) ∧ Keeps noBlk W w') from by have h9 := lwHas_1 B1 B2 b1 b2 d1 d2 L P ys W i1 (i1.1.symm.trans hpl) (i2.1.symm.trans hl2) i2 u hu; rw [hg1] at h9; exact h9))
                have HXT := Lib.hid (fun (B1 B2 : Option Addr) (b1 b2 d1 d2 : Nat) (W : World) (i1 : Ints W B1 b1 P) (i2 : Ints W B2 b2 ys) (j1 : b1 ≤ maxLen) (j2 : b2 ≤ maxLen) => (show Calls Try.prog 19 #[.agg #[.slice B1 b1 d1, .slice B2 b2 d2, .int .i64 L], .int .i64 1, .int .i64 ((v : Int) + 1)] W (fun e w' => e = .returned (.int .i64 (bv + sm)) ∧ Keeps noBlk W w') from by have h9 := lwHas_1 B1 B2 b1 b2 d1 d2 L P ys W i1 (i1.1.symm.trans hpl) (i2.1.symm.trans hl2) i2 v hv; rw [hg2] at h9; exact h9))
                have HBT := Lib.hid (fun (B1 B2 : Option Addr) (b1 b2 d1 d2 : Nat) (W : World) (i1 : Ints W B1 b1 xs) (i2 : Ints W B2 b2 ys) (j1 : b1 ≤ maxLen) (j2 : b2 ≤ maxLen) => (show Calls Try.prog 19 #[.agg #[.slice B1 b1 d1, .slice B2 b2 d2, .int .i64 L], .int .i64 1, .int .i64 ((v : Int) + 1)] W (fun e w' => e = .returned (.int .i64 bv) ∧ Keeps noBlk W w') from by have h9 := lwHas_1 B1 B2 b1 b2 d1 d2 L xs ys W i1 (i1.1.symm.trans hl1) (i2.1.symm.trans hl2) i2 v hv; rw [hbv] at h9; exact h9))
                have HXO := Lib.hid (fun (B1 B2 : Option Addr) (b1 b2 d1 d2 : Nat) (W : World) (i1 : Ints W B1 b1 P) (i2 : Ints W B2 b2 ys) (j1 : b1 ≤ maxLen) (j2 : b2 ≤ maxLen) => (show Calls Try.prog 19 #[.agg #[.slice B1 b1 d1, .slice B2 b2 d2, .int .i64 L], .int .i64 2, .int .i64 ((u : Int) + 1)] W (fun e w' => e = .returned (.int .i64 ov) ∧ Keeps noBlk W w') from by have h9 := lwHas_2 B1 B2 b1 b2 d1 d2 L P ys W i1 (i1.1.symm.trans hpl) (i2.1.symm.trans hl2) i2 u hu; rw [hov] at h9; exact h9))
                have HBO := Lib.hid (fun (B1 B2 : Option Addr) (b1 b2 d1 d2 : Nat) (W : World) (i1 : Ints W B1 b1 xs) (i2 : Ints W B2 b2 ys) (j1 : b1 ≤ maxLen) (j2 : b2 ≤ maxLen) => (show Calls Try.prog 19 #[.agg #[.slice B1 b1 d1, .slice B2 b2 d2, .int .i64 L], .int .i64 2, .int .i64 ((u : Int) + 1)] W (fun e w' => e = .returned (.int .i64 ov) ∧ Keeps noBlk W w') from by have h9 := lwHas_2 B1 B2 b1 b2 d1 d2 L xs ys W i1 (i1.1.symm.trans hl1) (i2.1.symm.trans hl2) i2 u hu; rw [hov] at h9; exact h9))
                have hdd : (((u : Int) + 1) == (v : Int) + 1) = false := by simp; omega
                clear hbk hax hl1 hl2 hpl hnn ea en ea2 en2 hkk huu hvv hx1 hx2 hy1 hy2 hav hbv hov hg1 hg2 e1
                go_wp2_with fail
                refine (HAb.out A1 A2 _ _ _ _ _ (YhA1.out).ints (YhA2.out).ints jA1 jA2).mono ?_
                rintro e w6 ⟨rfl, hk6⟩
                clear bb0 bb1 bb2 zbb
                clear bs0 bs1 bs2 zbs
                clear bg0 bg1 bg2 zbg
                have hbb := (Yhbb.out).keeps hk6 (fun h => h)
                have hbs := (Yhbs.out).keeps hk6 (fun h => h)
                have hbg := (Yhbg.out).keeps hk6 (fun h => h)
                have hA1 := (YhA1.out).keeps hk6 noS
                have hA2 := (YhA2.out).keeps hk6 noS
                have hS1 := (YhS1.out).keeps hk6 noS
                have hS2 := (YhS2.out).keeps hk6 noS
                have hG1 := (YhG1.out).keeps hk6 noS
                have hG2 := (YhG2.out).keeps hk6 noS
                have hKK := (YhKK.out).trans hk6
                have sz6 := hk6.size
                (try simp at sz6)
                clear Yhbb Yhbs Yhbg YhA1 YhA2 YhS1 YhS2 YhG1 YhG2 YhKK
                have bb0 := hbb.cell 0
                have bb1 := hbb.cell 1
                have bb2 := hbb.cell 2
                simp at bb0 bb1 bb2
                have zbb := hbb.lt
                have bs0 := hbs.cell 0
                have bs1 := hbs.cell 1
                have bs2 := hbs.cell 2
                simp at bs0 bs1 bs2
                have zbs := hbs.lt
                have bg0 := hbg.cell 0
                have bg1 := hbg.cell 1
                have bg2 := hbg.cell 2
                simp at bg0 bg1 bg2
                have zbg := hbg.lt
                have Yhbb := Lib.hid hbb
                have Yhbs := Lib.hid hbs
                have Yhbg := Lib.hid hbg
                have YhA1 := Lib.hid hA1
                have YhA2 := Lib.hid hA2
                have YhS1 := Lib.hid hS1
                have YhS2 := Lib.hid hS2
                have YhG1 := Lib.hid hG1
                have YhG2 := Lib.hid hG2
                have YhKK := Lib.hid hKK
                clear hbb hbs hbg hA1 hA2 hS1 hS2 hG1 hG2 hKK hk6
                go_wp2_with fail
                refine (HAx.out G1 G2 _ _ _ _ _ (YhG1.out).ints (YhG2.out).ints jG1 jG2).mono ?_
                rintro e w7 ⟨rfl, hk7⟩
                clear bb0 bb1 bb2 zbb
                clear bs0 bs1 bs2 zbs
                clear bg0 bg1 bg2 zbg
                have hbb := (Yhbb.out).keeps hk7 (fun h => h)
                have hbs := (Yhbs.out).keeps hk7 (fun h => h)
                have hbg := (Yhbg.out).keeps hk7 (fun h => h)
                have hA1 := (YhA1.out).keeps hk7 noS
                have hA2 := (YhA2.out).keeps hk7 noS
                have hS1 := (YhS1.out).keeps hk7 noS
                have hS2 := (YhS2.out).keeps hk7 noS
                have hG1 := (YhG1.out).keeps hk7 noS
                have hG2 := (YhG2.out).keeps hk7 noS
                have hKK := (YhKK.out).trans hk7
                have sz7 := hk7.size
                (try simp at sz7)
                clear Yhbb Yhbs Yhbg YhA1 YhA2 YhS1 YhS2 YhG1 YhG2 YhKK
                have bb0 := hbb.cell 0
                have bb1 := hbb.cell 1
                have bb2 := hbb.cell 2
                simp at bb0 bb1 bb2
                have zbb := hbb.lt
                have bs0 := hbs.cell 0
                have bs1 := hbs.cell 1
                have bs2 := hbs.cell 2
                simp at bs0 bs1 bs2
                have zbs := hbs.lt
                have bg0 := hbg.cell 0
                have bg1 := hbg.cell 1
                have bg2 := hbg.cell 2
                simp at bg0 bg1 bg2
                have zbg := hbg.lt
                have Yhbb := Lib.hid hbb
                have Yhbs := Lib.hid hbs
                have Yhbg := Lib.hid hbg
                have YhA1 := Lib.hid hA1
                have YhA2 := Lib.hid hA2
                have YhS1 := Lib.hid hS1
                have YhS2 := Lib.hid hS2
                have YhG1 := Lib.hid hG1
                have YhG2 := Lib.hid hG2
                have YhKK := Lib.hid hKK
                clear hbb hbs hbg hA1 hA2 hS1 hS2 hG1 hG2 hKK hk7
                have hw1 : IntKind.i64.wrap (av - sm) = av - sm := IntWalk.i64_in _ (by omega)
                have hw2 : IntKind.i64.wrap (bv + sm) = bv + sm := IntWalk.i64_in _ (by omega)
                have hq0 : ((nn : Int) == nn) = true := by simp
                have hq1 : ((av - sm : Int) == av - sm) = true := by simp
                have hq2 : ((bv + sm : Int) == bv + sm) = true := by simp
                have hq3 : ((L : Int) == L) = true := by simp
                have hq4 : ((ov : Int) == ov) = true := by simp
                go_wp2_with fail
                go_region_held3 (fun w' => w'.cell? ⟨w1.heap.size, 0, none⟩ = some (.slice A1 xs.length c1) ∧ w'.cell? ⟨w1.heap.size, 1, none⟩ = some (.slice A2 ys.length c2) ∧ w'.cell? ⟨w1.heap.size, 2, none⟩ = some (.int .i64 L) ∧ w'.cell? ⟨w3.heap.size, 0, none⟩ = some (.slice G1 P.length Gc1) ∧ w'.cell? ⟨w3.heap.size, 1, none⟩ = some (.slice G2 ys.length Gc2) ∧ w'.cell? ⟨w3.heap.size, 2, none⟩ = some (.int .i64 L))
                  (((try dsimp only); (repeat' apply And.intro) <;> (first | with_reducible assumption | (go_keep; done))))
                  (first | (go_at_call_of 19 (Value.agg #[Value.slice G1 P.length Gc1, Value.slice G2 ys.length Gc2, Value.int IntKind.i64 L]); have _t := YhKK; clear _t; refine (HXF.out G1 G2 _ _ _ _ _ (by repeat (first | with_reducible exact YhG1.out.ints | with_reducible refine Ints.drew ?_ | with_reducible refine Ints.drewN ?_ _)) (by repeat (first | with_reducible exact YhG2.out.ints | with_reducible refine Ints.drew ?_ | with_reducible refine Ints.drewN ?_ _)) jG1 jG2).mono ?_; rintro e w8 ⟨rfl, hk8⟩; have hq8 : Keeps noBlk w7 w8 := (by (first | with_reducible exact hk8 | with_reducible exact hk8.undrew | with_reducible exact hk8.undrew.undrew | with_reducible exact hk8.undrew.undrew.undrew)); have hbb := Yhbb.out.keeps hq8 (fun h => h); have bb0_0 := hbb.cell 0; have bb1_0 := hbb.cell 1; have bb2_0 := hbb.cell 2; simp at bb0_0 bb1_0 bb2_0; have Z0hbb := Lib.hid hbb; have hbs := Yhbs.out.keeps hq8 (fun h => h); have Z0hbs := Lib.hid hbs; have hbg := Yhbg.out.keeps hq8 (fun h => h); have bg0_0 := hbg.cell 0; have bg1_0 := hbg.cell 1; have bg2_0 := hbg.cell 2; simp at bg0_0 bg1_0 bg2_0; have Z0hbg := Lib.hid hbg; have hA1 := YhA1.out.keeps hq8 noS; have Z0hA1 := Lib.hid hA1; have hA2 := YhA2.out.keeps hq8 noS; have Z0hA2 := Lib.hid hA2; have hS1 := YhS1.out.keeps hq8 noS; have Z0hS1 := Lib.hid hS1; have hS2 := YhS2.out.keeps hq8 noS; have Z0hS2 := Lib.hid hS2; have hG1 := YhG1.out.keeps hq8 noS; have Z0hG1 := Lib.hid hG1; have hG2 := YhG2.out.keeps hq8 noS; have Z0hG2 := Lib.hid hG2; have hKK := YhKK.out.trans hq8; have Z0hKK := Lib.hid hKK; clear hk8 hq8 hbb hbs hbg hA1 hA2 hS1 hS2 hG1 hG2 hKK Yhbb Yhbs Yhbg YhA1 YhA2 YhS1 YhS2 YhG1 YhG2 YhKK) | (go_at_call_of 19 (Value.agg #[Value.slice A1 xs.length c1, Value.slice A2 ys.length c2, Value.int IntKind.i64 L]); have _t := Z0hKK; clear _t; refine (HHb.out A1 A2 _ _ _ _ _ (by repeat (first | with_reducible exact Z0hA1.out.ints | with_reducible refine Ints.drew ?_ | with_reducible refine Ints.drewN ?_ _)) (by repeat (first | with_reducible exact Z0hA2.out.ints | with_reducible refine Ints.drew ?_ | with_reducible refine Ints.drewN ?_ _)) jA1 jA2).mono ?_; rintro e w9 ⟨rfl, hk9⟩; have hq9 : Keeps noBlk w8 w9 := (by (first | with_reducible exact hk9 | with_reducible exact hk9.undrew | with_reducible exact hk9.undrew.undrew | with_reducible exact hk9.undrew.undrew.undrew)); have hbb := Z0hbb.out.keeps hq9 (fun h => h); have bb0_1 := hbb.cell 0; have bb1_1 := hbb.cell 1; have bb2_1 := hbb.cell 2; simp at bb0_1 bb1_1 bb2_1; have Z1hbb := Lib.hid hbb; have hbs := Z0hbs.out.keeps hq9 (fun h => h); have Z1hbs := Lib.hid hbs; have hbg := Z0hbg.out.keeps hq9 (fun h => h); have bg0_1 := hbg.cell 0; have bg1_1 := hbg.cell 1; have bg2_1 := hbg.cell 2; simp at bg0_1 bg1_1 bg2_1; have Z1hbg := Lib.hid hbg; have hA1 := Z0hA1.out.keeps hq9 noS; have Z1hA1 := Lib.hid hA1; have hA2 := Z0hA2.out.keeps hq9 noS; have Z1hA2 := Lib.hid hA2; have hS1 := Z0hS1.out.keeps hq9 noS; have Z1hS1 := Lib.hid hS1; have hS2 := Z0hS2.out.keeps hq9 noS; have Z1hS2 := Lib.hid hS2; have hG1 := Z0hG1.out.keeps hq9 noS; have Z1hG1 := Lib.hid hG1; have hG2 := Z0hG2.out.keeps hq9 noS; have Z1hG2 := Lib.hid hG2; have hKK := Z0hKK.out.trans hq9; have Z1hKK := Lib.hid hKK; clear hk9 hq9 hbb hbs hbg hA1 hA2 hS1 hS2 hG1 hG2 hKK Z0hbb Z0hbs Z0hbg Z0hA1 Z0hA2 Z0hS1 Z0hS2 Z0hG1 Z0hG2 Z0hKK) | (go_at_call_of 19 (Value.agg #[Value.slice G1 P.length Gc1, Value.slice G2 ys.length Gc2, Value.int IntKind.i64 L]); have _t := Z1hKK; clear _t; refine (HXT.out G1 G2 _ _ _ _ _ (by repeat (first | with_reducible exact Z1hG1.out.ints | with_reducible refine Ints.drew ?_ | with_reducible refine Ints.drewN ?_ _)) (by repeat (first | with_reducible exact Z1hG2.out.ints | with_reducible refine Ints.drew ?_ | with_reducible refine Ints.drewN ?_ _)) jG1 jG2).mono ?_; rintro e w10 ⟨rfl, hk10⟩; have hq10 : Keeps noBlk w9 w10 := (by (first | with_reducible exact hk10 | with_reducible exact hk10.undrew | with_reducible exact hk10.undrew.undrew | with_reducible exact hk10.undrew.undrew.undrew)); have hbb := Z1hbb.out.keeps hq10 (fun h => h); have bb0_2 := hbb.cell 0; have bb1_2 := hbb.cell 1; have bb2_2 := hbb.cell 2; simp at bb0_2 bb1_2 bb2_2; have Z2hbb := Lib.hid hbb; have hbs := Z1hbs.out.keeps hq10 (fun h => h); have Z2hbs := Lib.hid hbs; have hbg := Z1hbg.out.keeps hq10 (fun h => h); have bg0_2 := hbg.cell 0; have bg1_2 := hbg.cell 1; have bg2_2 := hbg.cell 2; simp at bg0_2 bg1_2 bg2_2; have Z2hbg := Lib.hid hbg; have hA1 := Z1hA1.out.keeps hq10 noS; have Z2hA1 := Lib.hid hA1; have hA2 := Z1hA2.out.keeps hq10 noS; have Z2hA2 := Lib.hid hA2; have hS1 := Z1hS1.out.keeps hq10 noS; have Z2hS1 := Lib.hid hS1; have hS2 := Z1hS2.out.keeps hq10 noS; have Z2hS2 := Lib.hid hS2; have hG1 := Z1hG1.out.keeps hq10 noS; have Z2hG1 := Lib.hid hG1; have hG2 := Z1hG2.out.keeps hq10 noS; have Z2hG2 := Lib.hid hG2; have hKK := Z1hKK.out.trans hq10; have Z2hKK := Lib.hid hKK; clear hk10 hq10 hbb hbs hbg hA1 hA2 hS1 hS2 hG1 hG2 hKK Z1hbb Z1hbs Z1hbg Z1hA1 Z1hA2 Z1hS1 Z1hS2 Z1hG1 Z1hG2 Z1hKK) | (go_at_call_of 19 (Value.agg #[Value.slice A1 xs.length c1, Value.slice A2 ys.length c2, Value.int IntKind.i64 L]); have _t := Z2hKK; clear _t; refine (HBT.out A1 A2 _ _ _ _ _ (by repeat (first | with_reducible exact Z2hA1.out.ints | with_reducible refine Ints.drew ?_ | with_reducible refine Ints.drewN ?_ _)) (by repeat (first | with_reducible exact Z2hA2.out.ints | with_reducible refine Ints.drew ?_ | with_reducible refine Ints.drewN ?_ _)) jA1 jA2).mono ?_; rintro e w11 ⟨rfl, hk11⟩; have hq11 : Keeps noBlk w10 w11 := (by (first | with_reducible exact hk11 | with_reducible exact hk11.undrew | with_reducible exact hk11.undrew.undrew | with_reducible exact hk11.undrew.undrew.undrew)); have hbb := Z2hbb.out.keeps hq11 (fun h => h); have bb0_3 := hbb.cell 0; have bb1_3 := hbb.cell 1; have bb2_3 := hbb.cell 2; simp at bb0_3 bb1_3 bb2_3; have Z3hbb := Lib.hid hbb; have hbs := Z2hbs.out.keeps hq11 (fun h => h); have Z3hbs := Lib.hid hbs; have hbg := Z2hbg.out.keeps hq11 (fun h => h); have bg0_3 := hbg.cell 0; have bg1_3 := hbg.cell 1; have bg2_3 := hbg.cell 2; simp at bg0_3 bg1_3 bg2_3; have Z3hbg := Lib.hid hbg; have hA1 := Z2hA1.out.keeps hq11 noS; have Z3hA1 := Lib.hid hA1; have hA2 := Z2hA2.out.keeps hq11 noS; have Z3hA2 := Lib.hid hA2; have hS1 := Z2hS1.out.keeps hq11 noS; have Z3hS1 := Lib.hid hS1; have hS2 := Z2hS2.out.keeps hq11 noS; have Z3hS2 := Lib.hid hS2; have hG1 := Z2hG1.out.keeps hq11 noS; have Z3hG1 := Lib.hid hG1; have hG2 := Z2hG2.out.keeps hq11 noS; have Z3hG2 := Lib.hid hG2; have hKK := Z2hKK.out.trans hq11; have Z3hKK := Lib.hid hKK; clear hk11 hq11 hbb hbs hbg hA1 hA2 hS1 hS2 hG1 hG2 hKK Z2hbb Z2hbs Z2hbg Z2hA1 Z2hA2 Z2hS1 Z2hS2 Z2hG1 Z2hG2 Z2hKK) | (go_at_call_of 19 (Value.agg #[Value.slice G1 P.length Gc1, Value.slice G2 ys.length Gc2, Value.int IntKind.i64 L]); have _t := Z3hKK; clear _t; refine (HXO.out G1 G2 _ _ _ _ _ (by repeat (first | with_reducible exact Z3hG1.out.ints | with_reducible refine Ints.drew ?_ | with_reducible refine Ints.drewN ?_ _)) (by repeat (first | with_reducible exact Z3hG2.out.ints | with_reducible refine Ints.drew ?_ | with_reducible refine Ints.drewN ?_ _)) jG1 jG2).mono ?_; rintro e w12 ⟨rfl, hk12⟩; have hq12 : Keeps noBlk w11 w12 := (by (first | with_reducible exact hk12 | with_reducible exact hk12.undrew | with_reducible exact hk12.undrew.undrew | with_reducible exact hk12.undrew.undrew.undrew)); have hbb := Z3hbb.out.keeps hq12 (fun h => h); have bb0_4 := hbb.cell 0; have bb1_4 := hbb.cell 1; have bb2_4 := hbb.cell 2; simp at bb0_4 bb1_4 bb2_4; have Z4hbb := Lib.hid hbb; have hbs := Z3hbs.out.keeps hq12 (fun h => h); have Z4hbs := Lib.hid hbs; have hbg := Z3hbg.out.keeps hq12 (fun h => h); have bg0_4 := hbg.cell 0; have bg1_4 := hbg.cell 1; have bg2_4 := hbg.cell 2; simp at bg0_4 bg1_4 bg2_4; have Z4hbg := Lib.hid hbg; have hA1 := Z3hA1.out.keeps hq12 noS; have Z4hA1 := Lib.hid hA1; have hA2 := Z3hA2.out.keeps hq12 noS; have Z4hA2 := Lib.hid hA2; have hS1 := Z3hS1.out.keeps hq12 noS; have Z4hS1 := Lib.hid hS1; have hS2 := Z3hS2.out.keeps hq12 noS; have Z4hS2 := Lib.hid hS2; have hG1 := Z3hG1.out.keeps hq12 noS; have Z4hG1 := Lib.hid hG1; have hG2 := Z3hG2.out.keeps hq12 noS; have Z4hG2 := Lib.hid hG2; have hKK := Z3hKK.out.trans hq12; have Z4hKK := Lib.hid hKK; clear hk12 hq12 hbb hbs hbg hA1 hA2 hS1 hS2 hG1 hG2 hKK Z3hbb Z3hbs Z3hbg Z3hA1 Z3hA2 Z3hS1 Z3hS2 Z3hG1 Z3hG2 Z3hKK) | (go_at_call_of 19 (Value.agg #[Value.slice A1 xs.length c1, Value.slice A2 ys.length c2, Value.int IntKind.i64 L]); have _t := Z4hKK; clear _t; refine (HBO.out A1 A2 _ _ _ _ _ (by repeat (first | with_reducible exact Z4hA1.out.ints | with_reducible refine Ints.drew ?_ | with_reducible refine Ints.drewN ?_ _)) (by repeat (first | with_reducible exact Z4hA2.out.ints | with_reducible refine Ints.drew ?_ | with_reducible refine Ints.drewN ?_ _)) jA1 jA2).mono ?_; rintro e w13 ⟨rfl, hk13⟩; have hq13 : Keeps noBlk w12 w13 := (by (first | with_reducible exact hk13 | with_reducible exact hk13.undrew | with_reducible exact hk13.undrew.undrew | with_reducible exact hk13.undrew.undrew.undrew)); have hbb := Z4hbb.out.keeps hq13 (fun h => h); have bb0_5 := hbb.cell 0; have bb1_5 := hbb.cell 1; have bb2_5 := hbb.cell 2; simp at bb0_5 bb1_5 bb2_5; have Z5hbb := Lib.hid hbb; have hbs := Z4hbs.out.keeps hq13 (fun h => h); have Z5hbs := Lib.hid hbs; have hbg := Z4hbg.out.keeps hq13 (fun h => h); have bg0_5 := hbg.cell 0; have bg1_5 := hbg.cell 1; have bg2_5 := hbg.cell 2; simp at bg0_5 bg1_5 bg2_5; have Z5hbg := Lib.hid hbg; have hA1 := Z4hA1.out.keeps hq13 noS; have Z5hA1 := Lib.hid hA1; have hA2 := Z4hA2.out.keeps hq13 noS; have Z5hA2 := Lib.hid hA2; have hS1 := Z4hS1.out.keeps hq13 noS; have Z5hS1 := Lib.hid hS1; have hS2 := Z4hS2.out.keeps hq13 noS; have Z5hS2 := Lib.hid hS2; have hG1 := Z4hG1.out.keeps hq13 noS; have Z5hG1 := Lib.hid hG1; have hG2 := Z4hG2.out.keeps hq13 noS; have Z5hG2 := Lib.hid hG2; have hKK := Z4hKK.out.trans hq13; have Z5hKK := Lib.hid hKK; clear hk13 hq13 hbb hbs hbg hA1 hA2 hS1 hS2 hG1 hG2 hKK Z4hbb Z4hbs Z4hbg Z4hA1 Z4hA2 Z4hS1 Z4hS2 Z4hG1 Z4hG2 Z4hKK))
                have Yhbb := Z5hbb
                have Yhbs := Z5hbs
                have Yhbg := Z5hbg
                have YhA1 := Z5hA1
                have YhA2 := Z5hA2
                have YhS1 := Z5hS1
                have YhS2 := Z5hS2
                have YhG1 := Z5hG1
                have YhG2 := Z5hG2
                have YhKK := Z5hKK
                clear Z5hbb Z5hbs Z5hbg Z5hA1 Z5hA2 Z5hS1 Z5hS2 Z5hG1 Z5hG2 Z5hKK
                go_wp2
                go_ret
                exact ⟨rfl, YhKK.out.below⟩
          · rw [hx2] at hhb
            rw [hy2] at htb
            obtain ⟨av, hav⟩ : ∃ av, ys.getD u 0 = av := ⟨_, rfl⟩
            rw [hav] at hhb
            obtain ⟨bv, hbv⟩ : ∃ bv, ys.getD v 0 = bv := ⟨_, rfl⟩
            rw [hbv] at htb
            obtain ⟨ov, hov⟩ : ∃ ov, xs.getD u 0 = ov := ⟨_, rfl⟩
            have HHb := Lib.hid (fun (B1 B2 : Option Addr) (b1 b2 d1 d2 : Nat) (W : World) (i1 : Ints W B1 b1 xs) (i2 : Ints W B2 b2 ys) (j1 : b1 ≤ maxLen) (j2 : b2 ≤ maxLen) => (show Calls Try.prog 19 #[.agg #[.slice B1 b1 d1, .slice B2 b2 d2, .int .i64 L], .int .i64 2, .int .i64 ((u : Int) + 1)] W (fun e w' => e = .returned (.int .i64 av) ∧ Keeps noBlk W w') from by have h9 := lwHas_2 B1 B2 b1 b2 d1 d2 L xs ys W i1 (i1.1.symm.trans hl1) (i2.1.symm.trans hl2) i2 u hu; rw [hav] at h9; exact h9))
            cases o
            · by_cases hs0 : sm < 0
              · have hd0 : decide (sm < 0) = true := by simpa using hs0
                clear hbk hl1 hl2 hx1 hx2 hy1 hy2 hav hbv hov hkk huu hvv
                go_wp2
                go_ret
                exact ⟨rfl, YhKK.out.below⟩
              · have hlt : av < sm := by
                  rcases Int.lt_or_le av sm with h9 | h9
                  · exact h9
                  · have h8 := HOK.out; rw [moveOk_mk hbk hkk huu hvv (by omega) (by rw [hx2, hav]; exact h9)] at h8; cases h8
                have hd0 : decide (sm < 0) = false := by simpa using hs0
                have hd1 : decide (av < sm) = true := by simpa using hlt
                clear hbk hl1 hl2 hx1 hx2 hy1 hy2 hav hbv hov hkk huu hvv
                go_wp2_with fail
                refine (HHb.out A1 A2 _ _ _ _ _ (YhA1.out).ints (YhA2.out).ints jA1 jA2).mono ?_
                rintro e w6 ⟨rfl, hk6⟩
                clear bb0 bb1 bb2 zbb
                clear bs0 bs1 bs2 zbs
                clear bg0 bg1 bg2 zbg
                have hbb := (Yhbb.out).keeps hk6 (fun h => h)
                have hbs := (Yhbs.out).keeps hk6 (fun h => h)
                have hbg := (Yhbg.out).keeps hk6 (fun h => h)
                have hA1 := (YhA1.out).keeps hk6 noS
                have hA2 := (YhA2.out).keeps hk6 noS
                have hS1 := (YhS1.out).keeps hk6 noS
                have hS2 := (YhS2.out).keeps hk6 noS
                have hG1 := (YhG1.out).keeps hk6 noS
                have hG2 := (YhG2.out).keeps hk6 noS
                have hKK := (YhKK.out).trans hk6
                have sz6 := hk6.size
                (try simp at sz6)
                clear Yhbb Yhbs Yhbg YhA1 YhA2 YhS1 YhS2 YhG1 YhG2 YhKK
                have bb0 := hbb.cell 0
                have bb1 := hbb.cell 1
                have bb2 := hbb.cell 2
                simp at bb0 bb1 bb2
                have zbb := hbb.lt
                have bs0 := hbs.cell 0
                have bs1 := hbs.cell 1
                have bs2 := hbs.cell 2
                simp at bs0 bs1 bs2
                have zbs := hbs.lt
                have bg0 := hbg.cell 0
                have bg1 := hbg.cell 1
                have bg2 := hbg.cell 2
                simp at bg0 bg1 bg2
                have zbg := hbg.lt
                have Yhbb := Lib.hid hbb
                have Yhbs := Lib.hid hbs
                have Yhbg := Lib.hid hbg
                have YhA1 := Lib.hid hA1
                have YhA2 := Lib.hid hA2
                have YhS1 := Lib.hid hS1
                have YhS2 := Lib.hid hS2
                have YhG1 := Lib.hid hG1
                have YhG2 := Lib.hid hG2
                have YhKK := Lib.hid hKK
                clear hbb hbs hbg hA1 hA2 hS1 hS2 hG1 hG2 hKK hk6
                go_wp2
                go_ret
                exact ⟨rfl, YhKK.out.below⟩
            · obtain ⟨-, -, -, -, hs0, hs1⟩ := moveOk_parts HOK.out
              rw [hx2, hav] at hs1
              have hax := move_ok HOK.out
              have hR := HRR.out
              have hR : moved ⟨xs, ys, L⟩ 2 ((u : Int) + 1) ((v : Int) + 1) sm = ⟨P, Q, M⟩ := hR
              rw [hR] at hax
              rw [moved_mv2] at hR
              obtain ⟨e1, e2, e3⟩ := BankL.mk.inj hR
              clear hR HRR HOK
              subst e1 e3
              have hpl : Q.length = 3 := by rw [← e2, mv_len]; exact hl2
              obtain ⟨nn, hnn⟩ : ∃ nn, sumL ys = nn := ⟨_, rfl⟩
              rw [hnn] at hNb
              have hsl : sumL Q = nn := by rw [← e2, mv_sum sm (by omega) (by omega)]; exact hnn
              have ea : allOwn ⟨xs, ys, L⟩ = 30 := by unfold allOwn; rw [hbk]; rfl
              have en : allNotes ⟨xs, ys, L⟩ = nn := by unfold allNotes; rw [hbk]; exact hnn
              have ea2 : allOwn ⟨xs, Q, L⟩ = 30 := by unfold allOwn; rw [hax]; rfl
              have en2 : allNotes ⟨xs, Q, L⟩ = nn := by unfold allNotes; rw [hax]; exact hsl
              have HAb := Lib.hid (fun (B1 B2 : Option Addr) (b1 b2 d1 d2 : Nat) (W : World) (i1 : Ints W B1 b1 xs) (i2 : Ints W B2 b2 ys) (j1 : b1 ≤ maxLen) (j2 : b2 ≤ maxLen) => (show Calls Try.prog 12 #[.agg #[.slice B1 b1 d1, .slice B2 b2 d2, .int .i64 L]] W (fun e w' => e = .returned (.tuple #[.int .i64 30, .int .i64 nn]) ∧ Keeps noBlk W w') from by have h9 := implBankAll_any B1 B2 b1 b2 d1 d2 L xs ys W i1 i2 j1 j2; unfold RetAll at h9; rw [ea, en] at h9; exact h9))
              have HAx := Lib.hid (fun (B1 B2 : Option Addr) (b1 b2 d1 d2 : Nat) (W : World) (i1 : Ints W B1 b1 xs) (i2 : Ints W B2 b2 Q) (j1 : b1 ≤ maxLen) (j2 : b2 ≤ maxLen) => (show Calls Try.prog 12 #[.agg #[.slice B1 b1 d1, .slice B2 b2 d2, .int .i64 L]] W (fun e w' => e = .returned (.tuple #[.int .i64 30, .int .i64 nn]) ∧ Keeps noBlk W w') from by have h9 := implBankAll_any B1 B2 b1 b2 d1 d2 L xs Q W i1 i2 j1 j2; unfold RetAll at h9; rw [ea2, en2] at h9; exact h9))
              by_cases huv : u = v
              · subst huv
                rw [mv_same sm (by omega)] at e2
                subst e2
                have hdd : (((u : Int) + 1) == (u : Int) + 1) = true := by simp
                clear hbk hax hl1 hl2 hpl hnn ea en ea2 en2 hkk huu hvv hx1 hx2 hy1 hy2 hav hbv hov hsl
                go_wp2_with fail
                refine (HAb.out A1 A2 _ _ _ _ _ (YhA1.out).ints (YhA2.out).ints jA1 jA2).mono ?_
                rintro e w6 ⟨rfl, hk6⟩
                clear bb0 bb1 bb2 zbb
                clear bs0 bs1 bs2 zbs
                clear bg0 bg1 bg2 zbg
                have hbb := (Yhbb.out).keeps hk6 (fun h => h)
                have hbs := (Yhbs.out).keeps hk6 (fun h => h)
                have hbg := (Yhbg.out).keeps hk6 (fun h => h)
                have hA1 := (YhA1.out).keeps hk6 noS
                have hA2 := (YhA2.out).keeps hk6 noS
                have hS1 := (YhS1.out).keeps hk6 noS
                have hS2 := (YhS2.out).keeps hk6 noS
                have hG1 := (YhG1.out).keeps hk6 noS
                have hG2 := (YhG2.out).keeps hk6 noS
                have hKK := (YhKK.out).trans hk6
                have sz6 := hk6.size
                (try simp at sz6)
                clear Yhbb Yhbs Yhbg YhA1 YhA2 YhS1 YhS2 YhG1 YhG2 YhKK
                have bb0 := hbb.cell 0
                have bb1 := hbb.cell 1
                have bb2 := hbb.cell 2
                simp at bb0 bb1 bb2
                have zbb := hbb.lt
                have bs0 := hbs.cell 0
                have bs1 := hbs.cell 1
                have bs2 := hbs.cell 2
                simp at bs0 bs1 bs2
                have zbs := hbs.lt
                have bg0 := hbg.cell 0
                have bg1 := hbg.cell 1
                have bg2 := hbg.cell 2
                simp at bg0 bg1 bg2
                have zbg := hbg.lt
                have Yhbb := Lib.hid hbb
                have Yhbs := Lib.hid hbs
                have Yhbg := Lib.hid hbg
                have YhA1 := Lib.hid hA1
                have YhA2 := Lib.hid hA2
                have YhS1 := Lib.hid hS1
                have YhS2 := Lib.hid hS2
                have YhG1 := Lib.hid hG1
                have YhG2 := Lib.hid hG2
                have YhKK := Lib.hid hKK
                clear hbb hbs hbg hA1 hA2 hS1 hS2 hG1 hG2 hKK hk6
                go_wp2_with fail
                refine (HAx.out G1 G2 _ _ _ _ _ (YhG1.out).ints (YhG2.out).ints jG1 jG2).mono ?_
                rintro e w7 ⟨rfl, hk7⟩
                clear bb0 bb1 bb2 zbb
                clear bs0 bs1 bs2 zbs
                clear bg0 bg1 bg2 zbg
                have hbb := (Yhbb.out).keeps hk7 (fun h => h)
                have hbs := (Yhbs.out).keeps hk7 (fun h => h)
                have hbg := (Yhbg.out).keeps hk7 (fun h => h)
                have hA1 := (YhA1.out).keeps hk7 noS
                have hA2 := (YhA2.out).keeps hk7 noS
                have hS1 := (YhS1.out).keeps hk7 noS
                have hS2 := (YhS2.out).keeps hk7 noS
                have hG1 := (YhG1.out).keeps hk7 noS
                have hG2 := (YhG2.out).keeps hk7 noS
                have hKK := (YhKK.out).trans hk7
                have sz7 := hk7.size
                (try simp at sz7)
                clear Yhbb Yhbs Yhbg YhA1 YhA2 YhS1 YhS2 YhG1 YhG2 YhKK
                have bb0 := hbb.cell 0
                have bb1 := hbb.cell 1
                have bb2 := hbb.cell 2
                simp at bb0 bb1 bb2
                have zbb := hbb.lt
                have bs0 := hbs.cell 0
                have bs1 := hbs.cell 1
                have bs2 := hbs.cell 2
                simp at bs0 bs1 bs2
                have zbs := hbs.lt
                have bg0 := hbg.cell 0
                have bg1 := hbg.cell 1
                have bg2 := hbg.cell 2
                simp at bg0 bg1 bg2
                have zbg := hbg.lt
                have Yhbb := Lib.hid hbb
                have Yhbs := Lib.hid hbs
                have Yhbg := Lib.hid hbg
                have YhA1 := Lib.hid hA1
                have YhA2 := Lib.hid hA2
                have YhS1 := Lib.hid hS1
                have YhS2 := Lib.hid hS2
                have YhG1 := Lib.hid hG1
                have YhG2 := Lib.hid hG2
                have YhKK := Lib.hid hKK
                clear hbb hbs hbg hA1 hA2 hS1 hS2 hG1 hG2 hKK hk7
                go_wp2_with fail
                refine (lwBank_yes G1 G2 A1 A2 _ _ _ _ _ _ L xs ys _ (YhG1.out).ints (YhA1.out).ints (YhG2.out).ints (YhA2.out).ints jG1 jG2).mono ?_
                rintro e w8 ⟨rfl, hk8⟩
                clear bb0 bb1 bb2 zbb
                clear bs0 bs1 bs2 zbs
                clear bg0 bg1 bg2 zbg
                have hbb := (Yhbb.out).keeps hk8 (fun h => h)
                have hbs := (Yhbs.out).keeps hk8 (fun h => h)
                have hbg := (Yhbg.out).keeps hk8 (fun h => h)
                have hA1 := (YhA1.out).keeps hk8 noS
                have hA2 := (YhA2.out).keeps hk8 noS
                have hS1 := (YhS1.out).keeps hk8 noS
                have hS2 := (YhS2.out).keeps hk8 noS
                have hG1 := (YhG1.out).keeps hk8 noS
                have hG2 := (YhG2.out).keeps hk8 noS
                have hKK := (YhKK.out).trans hk8
                have sz8 := hk8.size
                (try simp at sz8)
                clear Yhbb Yhbs Yhbg YhA1 YhA2 YhS1 YhS2 YhG1 YhG2 YhKK
                have bb0 := hbb.cell 0
                have bb1 := hbb.cell 1
                have bb2 := hbb.cell 2
                simp at bb0 bb1 bb2
                have zbb := hbb.lt
                have bs0 := hbs.cell 0
                have bs1 := hbs.cell 1
                have bs2 := hbs.cell 2
                simp at bs0 bs1 bs2
                have zbs := hbs.lt
                have bg0 := hbg.cell 0
                have bg1 := hbg.cell 1
                have bg2 := hbg.cell 2
                simp at bg0 bg1 bg2
                have zbg := hbg.lt
                have Yhbb := Lib.hid hbb
                have Yhbs := Lib.hid hbs
                have Yhbg := Lib.hid hbg
                have YhA1 := Lib.hid hA1
                have YhA2 := Lib.hid hA2
                have YhS1 := Lib.hid hS1
                have YhS2 := Lib.hid hS2
                have YhG1 := Lib.hid hG1
                have YhG2 := Lib.hid hG2
                have YhKK := Lib.hid hKK
                clear hbb hbs hbg hA1 hA2 hS1 hS2 hG1 hG2 hKK hk8
                go_wp2
                go_ret
                exact ⟨rfl, YhKK.out.below⟩
              · have hg1 : Q.getD u 0 = av - sm := by rw [← e2, mv_getD sm (by omega) (by omega), if_pos rfl, if_neg (fun h => huv h.symm), hav]; omega
                have hg2 : Q.getD v 0 = bv + sm := by rw [← e2, mv_getD sm (by omega) (by omega), if_neg huv, if_pos rfl, hbv]; omega
                have HXF := Lib.hid (fun (B1 B2 : Option Addr) (b1 b2 d1 d2 : Nat) (W : World) (i1 : Ints W B1 b1 xs) (i2 : Ints W B2 b2 Q) (j1 : b1 ≤ maxLen) (j2 : b2 ≤ maxLen) => (show Calls Try.prog 19 #[.agg #[.slice B1 b1 d1, .slice B2 b2 d2, .int .i64 L], .int .i64 2, .int .i64 ((u : Int) + 1)] W (fun e w' => e = .returned (.int .i64 (av - sm)) ∧ Keeps noBlk W w') from by have h9 := lwHas_2 B1 B2 b1 b2 d1 d2 L xs Q W i1 (i1.1.symm.trans hl1) (i2.1.symm.trans hpl) i2 u hu; rw [hg1] at h9; exact h9))
                have HXT := Lib.hid (fun (B1 B2 : Option Addr) (b1 b2 d1 d2 : Nat) (W : World) (i1 : Ints W B1 b1 xs) (i2 : Ints W B2 b2 Q) (j1 : b1 ≤ maxLen) (j2 : b2 ≤ maxLen) => (show Calls Try.prog 19 #[.agg #[.slice B1 b1 d1, .slice B2 b2 d2, .int .i64 L], .int .i64 2, .int .i64 ((v : Int) + 1)] W (fun e w' => e = .returned (.int .i64 (bv + sm)) ∧ Keeps noBlk W w') from by have h9 := lwHas_2 B1 B2 b1 b2 d1 d2 L xs Q W i1 (i1.1.symm.trans hl1) (i2.1.symm.trans hpl) i2 v hv; rw [hg2] at h9; exact h9))
                have HBT := Lib.hid (fun (B1 B2 : Option Addr) (b1 b2 d1 d2 : Nat) (W : World) (i1 : Ints W B1 b1 xs) (i2 : Ints W B2 b2 ys) (j1 : b1 ≤ maxLen) (j2 : b2 ≤ maxLen) => (show Calls Try.prog 19 #[.agg #[.slice B1 b1 d1, .slice B2 b2 d2, .int .i64 L], .int .i64 2, .int .i64 ((v : Int) + 1)] W (fun e w' => e = .returned (.int .i64 bv) ∧ Keeps noBlk W w') from by have h9 := lwHas_2 B1 B2 b1 b2 d1 d2 L xs ys W i1 (i1.1.symm.trans hl1) (i2.1.symm.trans hl2) i2 v hv; rw [hbv] at h9; exact h9))
                have HXO := Lib.hid (fun (B1 B2 : Option Addr) (b1 b2 d1 d2 : Nat) (W : World) (i1 : Ints W B1 b1 xs) (i2 : Ints W B2 b2 Q) (j1 : b1 ≤ maxLen) (j2 : b2 ≤ maxLen) => (show Calls Try.prog 19 #[.agg #[.slice B1 b1 d1, .slice B2 b2 d2, .int .i64 L], .int .i64 1, .int .i64 ((u : Int) + 1)] W (fun e w' => e = .returned (.int .i64 ov) ∧ Keeps noBlk W w') from by have h9 := lwHas_1 B1 B2 b1 b2 d1 d2 L xs Q W i1 (i1.1.symm.trans hl1) (i2.1.symm.trans hpl) i2 u hu; rw [hov] at h9; exact h9))
                have HBO := Lib.hid (fun (B1 B2 : Option Addr) (b1 b2 d1 d2 : Nat) (W : World) (i1 : Ints W B1 b1 xs) (i2 : Ints W B2 b2 ys) (j1 : b1 ≤ maxLen) (j2 : b2 ≤ maxLen) => (show Calls Try.prog 19 #[.agg #[.slice B1 b1 d1, .slice B2 b2 d2, .int .i64 L], .int .i64 1, .int .i64 ((u : Int) + 1)] W (fun e w' => e = .returned (.int .i64 ov) ∧ Keeps noBlk W w') from by have h9 := lwHas_1 B1 B2 b1 b2 d1 d2 L xs ys W i1 (i1.1.symm.trans hl1) (i2.1.symm.trans hl2) i2 u hu; rw [hov] at h9; exact h9))
                have hdd : (((u : Int) + 1) == (v : Int) + 1) = false := by simp; omega
                clear hbk hax hl1 hl2 hpl hnn ea en ea2 en2 hkk huu hvv hx1 hx2 hy1 hy2 hav hbv hov hg1 hg2 e2 hsl
                go_wp2_with fail
                refine (HAb.out A1 A2 _ _ _ _ _ (YhA1.out).ints (YhA2.out).ints jA1 jA2).mono ?_
                rintro e w6 ⟨rfl, hk6⟩
                clear bb0 bb1 bb2 zbb
                clear bs0 bs1 bs2 zbs
                clear bg0 bg1 bg2 zbg
                have hbb := (Yhbb.out).keeps hk6 (fun h => h)
                have hbs := (Yhbs.out).keeps hk6 (fun h => h)
                have hbg := (Yhbg.out).keeps hk6 (fun h => h)
                have hA1 := (YhA1.out).keeps hk6 noS
                have hA2 := (YhA2.out).keeps hk6 noS
                have hS1 := (YhS1.out).keeps hk6 noS
                have hS2 := (YhS2.out).keeps hk6 noS
                have hG1 := (YhG1.out).keeps hk6 noS
                have hG2 := (YhG2.out).keeps hk6 noS
                have hKK := (YhKK.out).trans hk6
                have sz6 := hk6.size
                (try simp at sz6)
                clear Yhbb Yhbs Yhbg YhA1 YhA2 YhS1 YhS2 YhG1 YhG2 YhKK
                have bb0 := hbb.cell 0
                have bb1 := hbb.cell 1
                have bb2 := hbb.cell 2
                simp at bb0 bb1 bb2
                have zbb := hbb.lt
                have bs0 := hbs.cell 0
                have bs1 := hbs.cell 1
                have bs2 := hbs.cell 2
                simp at bs0 bs1 bs2
                have zbs := hbs.lt
                have bg0 := hbg.cell 0
                have bg1 := hbg.cell 1
                have bg2 := hbg.cell 2
                simp at bg0 bg1 bg2
                have zbg := hbg.lt
                have Yhbb := Lib.hid hbb
                have Yhbs := Lib.hid hbs
                have Yhbg := Lib.hid hbg
                have YhA1 := Lib.hid hA1
                have YhA2 := Lib.hid hA2
                have YhS1 := Lib.hid hS1
                have YhS2 := Lib.hid hS2
                have YhG1 := Lib.hid hG1
                have YhG2 := Lib.hid hG2
                have YhKK := Lib.hid hKK
                clear hbb hbs hbg hA1 hA2 hS1 hS2 hG1 hG2 hKK hk6
                go_wp2_with fail
                refine (HAx.out G1 G2 _ _ _ _ _ (YhG1.out).ints (YhG2.out).ints jG1 jG2).mono ?_
                rintro e w7 ⟨rfl, hk7⟩
                clear bb0 bb1 bb2 zbb
                clear bs0 bs1 bs2 zbs
                clear bg0 bg1 bg2 zbg
                have hbb := (Yhbb.out).keeps hk7 (fun h => h)
                have hbs := (Yhbs.out).keeps hk7 (fun h => h)
                have hbg := (Yhbg.out).keeps hk7 (fun h => h)
                have hA1 := (YhA1.out).keeps hk7 noS
                have hA2 := (YhA2.out).keeps hk7 noS
                have hS1 := (YhS1.out).keeps hk7 noS
                have hS2 := (YhS2.out).keeps hk7 noS
                have hG1 := (YhG1.out).keeps hk7 noS
                have hG2 := (YhG2.out).keeps hk7 noS
                have hKK := (YhKK.out).trans hk7
                have sz7 := hk7.size
                (try simp at sz7)
                clear Yhbb Yhbs Yhbg YhA1 YhA2 YhS1 YhS2 YhG1 YhG2 YhKK
                have bb0 := hbb.cell 0
                have bb1 := hbb.cell 1
                have bb2 := hbb.cell 2
                simp at bb0 bb1 bb2
                have zbb := hbb.lt
                have bs0 := hbs.cell 0
                have bs1 := hbs.cell 1
                have bs2 := hbs.cell 2
                simp at bs0 bs1 bs2
                have zbs := hbs.lt
                have bg0 := hbg.cell 0
                have bg1 := hbg.cell 1
                have bg2 := hbg.cell 2
                simp at bg0 bg1 bg2
                have zbg := hbg.lt
                have Yhbb := Lib.hid hbb
                have Yhbs := Lib.hid hbs
                have Yhbg := Lib.hid hbg
                have YhA1 := Lib.hid hA1
                have YhA2 := Lib.hid hA2
                have YhS1 := Lib.hid hS1
                have YhS2 := Lib.hid hS2
                have YhG1 := Lib.hid hG1
                have YhG2 := Lib.hid hG2
                have YhKK := Lib.hid hKK
                clear hbb hbs hbg hA1 hA2 hS1 hS2 hG1 hG2 hKK hk7
                have hw1 : IntKind.i64.wrap (av - sm) = av - sm := IntWalk.i64_in _ (by omega)
                have hw2 : IntKind.i64.wrap (bv + sm) = bv + sm := IntWalk.i64_in _ (by omega)
                have hq0 : ((nn : Int) == nn) = true := by simp
                have hq1 : ((av - sm : Int) == av - sm) = true := by simp
                have hq2 : ((bv + sm : Int) == bv + sm) = true := by simp
                have hq3 : ((L : Int) == L) = true := by simp
                have hq4 : ((ov : Int) == ov) = true := by simp
                go_wp2_with fail
                go_region_held3 (fun w' => w'.cell? ⟨w1.heap.size, 0, none⟩ = some (.slice A1 xs.length c1) ∧ w'.cell? ⟨w1.heap.size, 1, none⟩ = some (.slice A2 ys.length c2) ∧ w'.cell? ⟨w1.heap.size, 2, none⟩ = some (.int .i64 L) ∧ w'.cell? ⟨w3.heap.size, 0, none⟩ = some (.slice G1 xs.length Gc1) ∧ w'.cell? ⟨w3.heap.size, 1, none⟩ = some (.slice G2 Q.length Gc2) ∧ w'.cell? ⟨w3.heap.size, 2, none⟩ = some (.int .i64 L))
                  (((try dsimp only); (repeat' apply And.intro) <;> (first | with_reducible assumption | (go_keep; done))))
                  (first | (go_at_call_of 19 (Value.agg #[Value.slice G1 xs.length Gc1, Value.slice G2 Q.length Gc2, Value.int IntKind.i64 L]); have _t := YhKK; clear _t; refine (HXF.out G1 G2 _ _ _ _ _ (by repeat (first | with_reducible exact YhG1.out.ints | with_reducible refine Ints.drew ?_ | with_reducible refine Ints.drewN ?_ _)) (by repeat (first | with_reducible exact YhG2.out.ints | with_reducible refine Ints.drew ?_ | with_reducible refine Ints.drewN ?_ _)) jG1 jG2).mono ?_; rintro e w8 ⟨rfl, hk8⟩; have hq8 : Keeps noBlk w7 w8 := (by (first | with_reducible exact hk8 | with_reducible exact hk8.undrew | with_reducible exact hk8.undrew.undrew | with_reducible exact hk8.undrew.undrew.undrew)); have hbb := Yhbb.out.keeps hq8 (fun h => h); have bb0_0 := hbb.cell 0; have bb1_0 := hbb.cell 1; have bb2_0 := hbb.cell 2; simp at bb0_0 bb1_0 bb2_0; have Z0hbb := Lib.hid hbb; have hbs := Yhbs.out.keeps hq8 (fun h => h); have Z0hbs := Lib.hid hbs; have hbg := Yhbg.out.keeps hq8 (fun h => h); have bg0_0 := hbg.cell 0; have bg1_0 := hbg.cell 1; have bg2_0 := hbg.cell 2; simp at bg0_0 bg1_0 bg2_0; have Z0hbg := Lib.hid hbg; have hA1 := YhA1.out.keeps hq8 noS; have Z0hA1 := Lib.hid hA1; have hA2 := YhA2.out.keeps hq8 noS; have Z0hA2 := Lib.hid hA2; have hS1 := YhS1.out.keeps hq8 noS; have Z0hS1 := Lib.hid hS1; have hS2 := YhS2.out.keeps hq8 noS; have Z0hS2 := Lib.hid hS2; have hG1 := YhG1.out.keeps hq8 noS; have Z0hG1 := Lib.hid hG1; have hG2 := YhG2.out.keeps hq8 noS; have Z0hG2 := Lib.hid hG2; have hKK := YhKK.out.trans hq8; have Z0hKK := Lib.hid hKK; clear hk8 hq8 hbb hbs hbg hA1 hA2 hS1 hS2 hG1 hG2 hKK Yhbb Yhbs Yhbg YhA1 YhA2 YhS1 YhS2 YhG1 YhG2 YhKK) | (go_at_call_of 19 (Value.agg #[Value.slice A1 xs.length c1, Value.slice A2 ys.length c2, Value.int IntKind.i64 L]); have _t := Z0hKK; clear _t; refine (HHb.out A1 A2 _ _ _ _ _ (by repeat (first | with_reducible exact Z0hA1.out.ints | with_reducible refine Ints.drew ?_ | with_reducible refine Ints.drewN ?_ _)) (by repeat (first | with_reducible exact Z0hA2.out.ints | with_reducible refine Ints.drew ?_ | with_reducible refine Ints.drewN ?_ _)) jA1 jA2).mono ?_; rintro e w9 ⟨rfl, hk9⟩; have hq9 : Keeps noBlk w8 w9 := (by (first | with_reducible exact hk9 | with_reducible exact hk9.undrew | with_reducible exact hk9.undrew.undrew | with_reducible exact hk9.undrew.undrew.undrew)); have hbb := Z0hbb.out.keeps hq9 (fun h => h); have bb0_1 := hbb.cell 0; have bb1_1 := hbb.cell 1; have bb2_1 := hbb.cell 2; simp at bb0_1 bb1_1 bb2_1; have Z1hbb := Lib.hid hbb; have hbs := Z0hbs.out.keeps hq9 (fun h => h); have Z1hbs := Lib.hid hbs; have hbg := Z0hbg.out.keeps hq9 (fun h => h); have bg0_1 := hbg.cell 0; have bg1_1 := hbg.cell 1; have bg2_1 := hbg.cell 2; simp at bg0_1 bg1_1 bg2_1; have Z1hbg := Lib.hid hbg; have hA1 := Z0hA1.out.keeps hq9 noS; have Z1hA1 := Lib.hid hA1; have hA2 := Z0hA2.out.keeps hq9 noS; have Z1hA2 := Lib.hid hA2; have hS1 := Z0hS1.out.keeps hq9 noS; have Z1hS1 := Lib.hid hS1; have hS2 := Z0hS2.out.keeps hq9 noS; have Z1hS2 := Lib.hid hS2; have hG1 := Z0hG1.out.keeps hq9 noS; have Z1hG1 := Lib.hid hG1; have hG2 := Z0hG2.out.keeps hq9 noS; have Z1hG2 := Lib.hid hG2; have hKK := Z0hKK.out.trans hq9; have Z1hKK := Lib.hid hKK; clear hk9 hq9 hbb hbs hbg hA1 hA2 hS1 hS2 hG1 hG2 hKK Z0hbb Z0hbs Z0hbg Z0hA1 Z0hA2 Z0hS1 Z0hS2 Z0hG1 Z0hG2 Z0hKK) | (go_at_call_of 19 (Value.agg #[Value.slice G1 xs.length Gc1, Value.slice G2 Q.length Gc2, Value.int IntKind.i64 L]); have _t := Z1hKK; clear _t; refine (HXT.out G1 G2 _ _ _ _ _ (by repeat (first | with_reducible exact Z1hG1.out.ints | with_reducible refine Ints.drew ?_ | with_reducible refine Ints.drewN ?_ _)) (by repeat (first | with_reducible exact Z1hG2.out.ints | with_reducible refine Ints.drew ?_ | with_reducible refine Ints.drewN ?_ _)) jG1 jG2).mono ?_; rintro e w10 ⟨rfl, hk10⟩; have hq10 : Keeps noBlk w9 w10 := (by (first | with_reducible exact hk10 | with_reducible exact hk10.undrew | with_reducible exact hk10.undrew.undrew | with_reducible exact hk10.undrew.undrew.undrew)); have hbb := Z1hbb.out.keeps hq10 (fun h => h); have bb0_2 := hbb.cell 0; have bb1_2 := hbb.cell 1; have bb2_2 := hbb.cell 2; simp at bb0_2 bb1_2 bb2_2; have Z2hbb := Lib.hid hbb; have hbs := Z1hbs.out.keeps hq10 (fun h => h); have Z2hbs := Lib.hid hbs; have hbg := Z1hbg.out.keeps hq10 (fun h => h); have bg0_2 := hbg.cell 0; have bg1_2 := hbg.cell 1; have bg2_2 := hbg.cell 2; simp at bg0_2 bg1_2 bg2_2; have Z2hbg := Lib.hid hbg; have hA1 := Z1hA1.out.keeps hq10 noS; have Z2hA1 := Lib.hid hA1; have hA2 := Z1hA2.out.keeps hq10 noS; have Z2hA2 := Lib.hid hA2; have hS1 := Z1hS1.out.keeps hq10 noS; have Z2hS1 := Lib.hid hS1; have hS2 := Z1hS2.out.keeps hq10 noS; have Z2hS2 := Lib.hid hS2; have hG1 := Z1hG1.out.keeps hq10 noS; have Z2hG1 := Lib.hid hG1; have hG2 := Z1hG2.out.keeps hq10 noS; have Z2hG2 := Lib.hid hG2; have hKK := Z1hKK.out.trans hq10; have Z2hKK := Lib.hid hKK; clear hk10 hq10 hbb hbs hbg hA1 hA2 hS1 hS2 hG1 hG2 hKK Z1hbb Z1hbs Z1hbg Z1hA1 Z1hA2 Z1hS1 Z1hS2 Z1hG1 Z1hG2 Z1hKK) | (go_at_call_of 19 (Value.agg #[Value.slice A1 xs.length c1, Value.slice A2 ys.length c2, Value.int IntKind.i64 L]); have _t := Z2hKK; clear _t; refine (HBT.out A1 A2 _ _ _ _ _ (by repeat (first | with_reducible exact Z2hA1.out.ints | with_reducible refine Ints.drew ?_ | with_reducible refine Ints.drewN ?_ _)) (by repeat (first | with_reducible exact Z2hA2.out.ints | with_reducible refine Ints.drew ?_ | with_reducible refine Ints.drewN ?_ _)) jA1 jA2).mono ?_; rintro e w11 ⟨rfl, hk11⟩; have hq11 : Keeps noBlk w10 w11 := (by (first | with_reducible exact hk11 | with_reducible exact hk11.undrew | with_reducible exact hk11.undrew.undrew | with_reducible exact hk11.undrew.undrew.undrew)); have hbb := Z2hbb.out.keeps hq11 (fun h => h); have bb0_3 := hbb.cell 0; have bb1_3 := hbb.cell 1; have bb2_3 := hbb.cell 2; simp at bb0_3 bb1_3 bb2_3; have Z3hbb := Lib.hid hbb; have hbs := Z2hbs.out.keeps hq11 (fun h => h); have Z3hbs := Lib.hid hbs; have hbg := Z2hbg.out.keeps hq11 (fun h => h); have bg0_3 := hbg.cell 0; have bg1_3 := hbg.cell 1; have bg2_3 := hbg.cell 2; simp at bg0_3 bg1_3 bg2_3; have Z3hbg := Lib.hid hbg; have hA1 := Z2hA1.out.keeps hq11 noS; have Z3hA1 := Lib.hid hA1; have hA2 := Z2hA2.out.keeps hq11 noS; have Z3hA2 := Lib.hid hA2; have hS1 := Z2hS1.out.keeps hq11 noS; have Z3hS1 := Lib.hid hS1; have hS2 := Z2hS2.out.keeps hq11 noS; have Z3hS2 := Lib.hid hS2; have hG1 := Z2hG1.out.keeps hq11 noS; have Z3hG1 := Lib.hid hG1; have hG2 := Z2hG2.out.keeps hq11 noS; have Z3hG2 := Lib.hid hG2; have hKK := Z2hKK.out.trans hq11; have Z3hKK := Lib.hid hKK; clear hk11 hq11 hbb hbs hbg hA1 hA2 hS1 hS2 hG1 hG2 hKK Z2hbb Z2hbs Z2hbg Z2hA1 Z2hA2 Z2hS1 Z2hS2 Z2hG1 Z2hG2 Z2hKK) | (go_at_call_of 19 (Value.agg #[Value.slice G1 xs.length Gc1, Value.slice G2 Q.length Gc2, Value.int IntKind.i64 L]); have _t := Z3hKK; clear _t; refine (HXO.out G1 G2 _ _ _ _ _ (by repeat (first | with_reducible exact Z3hG1.out.ints | with_reducible refine Ints.drew ?_ | with_reducible refine Ints.drewN ?_ _)) (by repeat (first | with_reducible exact Z3hG2.out.ints | with_reducible refine Ints.drew ?_ | with_reducible refine Ints.drewN ?_ _)) jG1 jG2).mono ?_; rintro e w12 ⟨rfl, hk12⟩; have hq12 : Keeps noBlk w11 w12 := (by (first | with_reducible exact hk12 | with_reducible exact hk12.undrew | with_reducible exact hk12.undrew.undrew | with_reducible exact hk12.undrew.undrew.undrew)); have hbb := Z3hbb.out.keeps hq12 (fun h => h); have bb0_4 := hbb.cell 0; have bb1_4 := hbb.cell 1; have bb2_4 := hbb.cell 2; simp at bb0_4 bb1_4 bb2_4; have Z4hbb := Lib.hid hbb; have hbs := Z3hbs.out.keeps hq12 (fun h => h); have Z4hbs := Lib.hid hbs; have hbg := Z3hbg.out.keeps hq12 (fun h => h); have bg0_4 := hbg.cell 0; have bg1_4 := hbg.cell 1; have bg2_4 := hbg.cell 2; simp at bg0_4 bg1_4 bg2_4; have Z4hbg := Lib.hid hbg; have hA1 := Z3hA1.out.keeps hq12 noS; have Z4hA1 := Lib.hid hA1; have hA2 := Z3hA2.out.keeps hq12 noS; have Z4hA2 := Lib.hid hA2; have hS1 := Z3hS1.out.keeps hq12 noS; have Z4hS1 := Lib.hid hS1; have hS2 := Z3hS2.out.keeps hq12 noS; have Z4hS2 := Lib.hid hS2; have hG1 := Z3hG1.out.keeps hq12 noS; have Z4hG1 := Lib.hid hG1; have hG2 := Z3hG2.out.keeps hq12 noS; have Z4hG2 := Lib.hid hG2; have hKK := Z3hKK.out.trans hq12; have Z4hKK := Lib.hid hKK; clear hk12 hq12 hbb hbs hbg hA1 hA2 hS1 hS2 hG1 hG2 hKK Z3hbb Z3hbs Z3hbg Z3hA1 Z3hA2 Z3hS1 Z3hS2 Z3hG1 Z3hG2 Z3hKK) | (go_at_call_of 19 (Value.agg #[Value.slice A1 xs.length c1, Value.slice A2 ys.length c2, Value.int IntKind.i64 L]); have _t := Z4hKK; clear _t; refine (HBO.out A1 A2 _ _ _ _ _ (by repeat (first | with_reducible exact Z4hA1.out.ints | with_reducible refine Ints.drew ?_ | with_reducible refine Ints.drewN ?_ _)) (by repeat (first | with_reducible exact Z4hA2.out.ints | with_reducible refine Ints.drew ?_ | with_reducible refine Ints.drewN ?_ _)) jA1 jA2).mono ?_; rintro e w13 ⟨rfl, hk13⟩; have hq13 : Keeps noBlk w12 w13 := (by (first | with_reducible exact hk13 | with_reducible exact hk13.undrew | with_reducible exact hk13.undrew.undrew | with_reducible exact hk13.undrew.undrew.undrew)); have hbb := Z4hbb.out.keeps hq13 (fun h => h); have bb0_5 := hbb.cell 0; have bb1_5 := hbb.cell 1; have bb2_5 := hbb.cell 2; simp at bb0_5 bb1_5 bb2_5; have Z5hbb := Lib.hid hbb; have hbs := Z4hbs.out.keeps hq13 (fun h => h); have Z5hbs := Lib.hid hbs; have hbg := Z4hbg.out.keeps hq13 (fun h => h); have bg0_5 := hbg.cell 0; have bg1_5 := hbg.cell 1; have bg2_5 := hbg.cell 2; simp at bg0_5 bg1_5 bg2_5; have Z5hbg := Lib.hid hbg; have hA1 := Z4hA1.out.keeps hq13 noS; have Z5hA1 := Lib.hid hA1; have hA2 := Z4hA2.out.keeps hq13 noS; have Z5hA2 := Lib.hid hA2; have hS1 := Z4hS1.out.keeps hq13 noS; have Z5hS1 := Lib.hid hS1; have hS2 := Z4hS2.out.keeps hq13 noS; have Z5hS2 := Lib.hid hS2; have hG1 := Z4hG1.out.keeps hq13 noS; have Z5hG1 := Lib.hid hG1; have hG2 := Z4hG2.out.keeps hq13 noS; have Z5hG2 := Lib.hid hG2; have hKK := Z4hKK.out.trans hq13; have Z5hKK := Lib.hid hKK; clear hk13 hq13 hbb hbs hbg hA1 hA2 hS1 hS2 hG1 hG2 hKK Z4hbb Z4hbs Z4hbg Z4hA1 Z4hA2 Z4hS1 Z4hS2 Z4hG1 Z4hG2 Z4hKK))
                have Yhbb := Z5hbb
                have Yhbs := Z5hbs
                have Yhbg := Z5hbg
                have YhA1 := Z5hA1
                have YhA2 := Z5hA2
                have YhS1 := Z5hS1
                have YhS2 := Z5hS2
                have YhG1 := Z5hG1
                have YhG2 := Z5hG2
                have YhKK := Z5hKK
                clear Z5hbb Z5hbs Z5hbg Z5hA1 Z5hA2 Z5hS1 Z5hS2 Z5hG1 Z5hG2 Z5hKK
                go_wp2
                go_ret
                exact ⟨rfl, YhKK.out.below⟩
  · go_enter Try.func4, Try.ntmps4
    go_wp2
    go_ret
    exact ⟨rfl, Below.refl _ _⟩

namespace move
set_option maxRecDepth 100000 in
theorem lifted (os : Os) (started : os.Started) (H : Type) (enc : TypeId × Value → H) :
    ReturnsInHanded {} Try.checked os 4 .any (Rows.fnMoveSpec.pre6 enc Try.prog Try.f4 Rows.fnMoveRow.domain false) (Rows.fnMoveSpec.post enc Try.prog Try.f4 false true false false) := by
  refine returnsInHanded_of_change (C := Try.checked) own started (by kernel_rfl) Try.func4
    (ChangeSpec.witness6 (enc := enc) (C := Try.checked) false ⟨#[], #[.slice none 0 0], []⟩ 8 (by kernel_rfl) (by kernel_rfl) (by kernel_rfl) (by kernel_rfl)) ?_
  intro W base args ds gs before hval0 hW hcnd _
  have hval : ∀ (j : Nat) t v, Try.f4.params[j]? = some t → args[j]? = some v → Value.okWide Try.prog W .any base t v := hval0
  have hW' := hW
  obtain ⟨p, q, hA0, hV, rfl, hfz, hnd⟩ := hW
  have hA : DataW.TrodAll enc Try.prog W 0 (fun _ => true) true Try.f4.params.toList args.toList ds p := hA0
  rw [Try.params4 ] at hA hval
  obtain ⟨v0, vs0, d0, ds0, p0, q0, hargs, rfl, rfl, h0, r0⟩ := trodAll_cons hA
  obtain ⟨rfl, rfl, rfl⟩ := trodAll_nil r0
  obtain rfl : args = #[v0] := by cases args; simp_all
  obtain ⟨rfl, rfl⟩ := trodVars_none hV
  obtain ⟨a0, len0, cap0, rfl⟩ := okWide_slice Try.underlying22 (hval 0 22 v0 rfl rfl)
  have k0 := h0
  have lt0 : ∀ x ∈ p0, x.block < W.heap.size := by obtain ⟨m, hm⟩ := k0; exact DataW.trod_lt m _ _ _ hm
  obtain ⟨z0, w0, e0, f0⟩ := bytes_of_trod h0
  clear hA0 hval0
  refine (walk_move W a0 len0 cap0 z0 w0 e0 f0).mono fun e W' ⟨he, bel⟩ => ?_
  subst he
  exact ⟨_, rfl, _, _, _, [], _, [], hW', trodAll_mk1 (shut_bool Try.underlying4 _), (trodAll_cons_mk (Below.trod laidOut (by kernel_rfl) (of_decide_eq_true (by kernel_rfl)) k0 bel lt0) trodAll_mk0), rfl, bel.frame _, fun h => by cases h⟩

theorem over : Rows.fnMoveRow.holds Try.pinned (OpenSpec.ofChange Rows.fnMoveSpec) :=
  OpenClaim.holds_of_wide 4 Try.f4 rfl rfl rfl rfl rfl rfl rfl ⟨rfl, rfl, rfl, rfl, rfl⟩ rfl rfl rfl rfl rfl (by kernel_rfl) Try.func4 (by kernel_rfl)
    (of_decide_eq_true (by kernel_rfl)) (by unfold Func.isWrapper; first | (rw [if_pos (by decide +kernel)]; kernel_rfl) | (rw [if_neg (by decide +kernel)]; exact ⟨rfl, rfl⟩))
    (fun os started H enc _ => lifted os started H enc)
end move

theorem fnMove_holds : Rows.FnMoveSaid := move.over
#print axioms fnMove_holds
end Go.Proofs.Ytjbllfnfnkghgab
