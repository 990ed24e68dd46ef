/- FnBack: given back are at most those that are locked, whatever is drawn. -/
import Derived.Test.YtedmkbiamjpdaabRows
import Derived.Deep.RegionHeld3
import Derived.Deep.RegionWith
import Derived.Deep.DrawnRows
import Derived.Test.YtedmkbiamjpdaabSAB
import Derived.Test.YtedmkbiamjpdaabIAB
import Derived.Test.YtedmkbiamjpdaabTwo
import Derived.Test.YtedmkbiamjpdaabMv
import Derived.Test.YtedmkbiamjpdaabLw
import Derived.Test.YtedmkbiamjpdaabHas
import Derived.Test.YtedmkbiamjpdaabDBack
import Derived.Test.YtedmkbiamjpdaabFrameB
import Derived.Test.YtedmkbiamjpdaabGrow
set_option linter.unusedVariables false
set_option linter.unusedSimpArgs false
namespace Go.Proofs.Ytedmkbiamjpdaab
open Go.RowKit Go.ChangeShapes Go.WideShapes Go.ChangeAt

attribute [local go_sem ↓] Go.wp_at_zero Go.wp_at_succ
theorem Keeps.undrew {S : Nat → Prop} {a w : World} (h : Keeps S a.drew w) : Keeps S a w := ⟨h.os, h.tape, h.output, h.size, h.block⟩
theorem backOk_parts {b : BankL} {k f s : Int} (h : backOk b k f s = true) : okB b = true ∧ kindB k = true ∧ userB f = true ∧ 0 ≤ s ∧ s ≤ room b k := by
  simp only [backOk, Bool.and_eq_true, decide_eq_true_eq] at h
  exact ⟨h.1.1.1.1, h.1.1.1.2, h.1.1.2, h.1.2, h.2⟩
theorem backOk_mk {b : BankL} {k f s : Int} (h1 : okB b = true) (h2 : kindB k = true) (h3 : userB f = true) (h4 : 0 ≤ s) (h5 : s ≤ room b k) : backOk b k f s = true := by
  simp [backOk, h1, h2, h3, h4, h5]
theorem backOk_ok' {b : BankL} {k f s : Int} (h : backOk b k f s = true) : okB (backed b k f s) = true := by
  obtain ⟨h1, h2, h3, h4, h5⟩ := backOk_parts h
  exact back_ok h1 h2 h3 h4 h5

set_option maxRecDepth 100000 in
set_option maxHeartbeats 8000000 in
theorem walk_back (w : World) (a0 : Option Addr) (len0 cap0 : Nat) (z0 : List Int) (h : Bytes w a0 len0 z0) (e0 : len0 ≤ cap0) (f0 : cap0 ≤ maxLen) :
    Calls Try.prog 3 #[.slice a0 len0 cap0] w fun e w' => e = .returned (.bool true) ∧ Below w.heap.size w w' := by
  have H := Lib.hid h
  clear h
  by_cases hs : (len0 : Int) ≤ 1048576
  · go_enter Try.func3, Try.ntmps3
    go_wp2_with fail
    refine (drawBack_any a0 len0 _ z0 _ H.out e0 f0).mono ?_
    rintro e w1 ⟨v, ⟨xs, ys, L⟩, kd, fr, sm, rfl, ⟨⟨A1, n1, c1, A2, n2, c2, rfl, hA1, hA2, hAd, k1, k2, m1, m2⟩, hk1, hL1, hL2, ho, hn⟩, g1, g2, g3, g4, g5, g6⟩
    dsimp only at hA1 hA2 hL1 hL2 ho hn ⊢
    obtain rfl : xs.length = n1 := hA1.1.1
    obtain rfl : ys.length = n2 := hA2.1.1
    have hfr : I64 fr := ⟨by omega, by omega⟩
    have hLm : L ≤ 9223372036854775807 := by omega
    have jA1 : xs.length ≤ maxLen := Nat.le_trans k1 m1
    have jA2 : ys.length ≤ maxLen := Nat.le_trans k2 m2
    have noS : ∀ {A : Option Addr} {n : Nat} (b : Nat), blk A n b → ¬ noBlk b := fun _ _ h => h
    have hKK := hk1
    have sz1 := hk1.size
    have HO := Lib.hid ho
    have HN := Lib.hid hn
    clear hAd k1 k2 m1 m2 H ho hn
    obtain ⟨o, ho⟩ : ∃ o, backOk ⟨xs, ys, L⟩ kd fr sm = o := ⟨_, rfl⟩
    obtain ⟨⟨P, Q, M⟩, hR⟩ : ∃ R, resL o (backed ⟨xs, ys, L⟩ kd fr sm) = R := ⟨_, rfl⟩
    obtain ⟨k, hbk⟩ : ∃ k, okB ⟨xs, ys, L⟩ = k := ⟨_, rfl⟩
    have HSP := Lib.hid (fun (B1 B2 : Option Addr) (b1 b2 d1 d2 : Nat) (W : World) (i1 : Ints W B1 b1 xs) (i2 : Ints W B2 b2 ys) (j1 : b1 ≤ maxLen) (j2 : b2 ≤ maxLen) => (show Calls Try.prog 6 #[.agg #[.slice B1 b1 d1, .slice B2 b2 d2, .int .i64 L], .int .i64 kd, .int .i64 fr, .int .i64 sm] W (RetU W o ⟨P, Q, M⟩) from by have h9 := (specBack_any B1 B2 b1 b2 d1 d2 L xs ys W i1 i2 j1 j2 hLm kd fr sm).mono fun _ _ hr => hr.u; rw [ho, hR] at h9; exact h9))
    have HIM := Lib.hid (fun (B1 B2 : Option Addr) (b1 b2 d1 d2 : Nat) (W : World) (i1 : Ints W B1 b1 xs) (i2 : Ints W B2 b2 ys) (j1 : b1 ≤ maxLen) (j2 : b2 ≤ maxLen) => (show Calls Try.prog 7 #[.agg #[.slice B1 b1 d1, .slice B2 b2 d2, .int .i64 L], .int .i64 kd, .int .i64 fr, .int .i64 sm] W (RetU W o ⟨P, Q, M⟩) from by have h9 := (implBack_any B1 B2 b1 b2 d1 d2 L xs ys W i1 i2 j1 j2 kd fr sm hfr).mono fun _ _ hr => hr.u; rw [ho, hR] at h9; exact h9))
    have HSB := Lib.hid (fun (B1 B2 : Option Addr) (b1 b2 d1 d2 : Nat) (W : World) (i1 : Ints W B1 b1 xs) (i2 : Ints W B2 b2 ys) (j1 : b1 ≤ maxLen) (j2 : b2 ≤ maxLen) => (show Calls Try.prog 9 #[.agg #[.slice B1 b1 d1, .slice B2 b2 d2, .int .i64 L]] W (fun e w' => e = .returned (.bool k) ∧ Keeps noBlk W w') from by have h9 := specOk_any B1 B2 b1 b2 d1 d2 L xs ys W i1 i2 j1 j2 hLm; rw [hbk] at h9; exact h9))
    have HOK := Lib.hid ho
    have HRR := Lib.hid hR
    have HBK := Lib.hid hbk
    clear ho hR hbk
    have YhA1 := Lib.hid hA1
    have YhA2 := Lib.hid hA2
    have YhKK := Lib.hid hKK
    clear hA1 hA2 hKK hk1
    go_wp2_with fail
    refine (HSP.out A1 A2 _ _ _ _ _ (YhA1.out.alloc (.cells #[.slice A1 xs.length c1, .slice A2 ys.length c2, .int .i64 L] 25)).ints (YhA2.out.alloc (.cells #[.slice A1 xs.length c1, .slice A2 ys.length c2, .int .i64 L] 25)).ints jA1 jA2).mono ?_
    rintro e w2 ⟨S1, Sn1, Sc1, S2, Sn2, Sc2, rfl, hS1, hS2, -, jS1, jS2, hk2⟩
    obtain rfl : P.length = Sn1 := hS1.1.1
    obtain rfl : Q.length = Sn2 := hS2.1.1
    have hbb := (Box.new w1 _ rfl 25 #[.slice A1 xs.length c1, .slice A2 ys.length c2, .int .i64 L]).keeps hk2 (fun h => h)
    have hA1 := (YhA1.out.alloc (.cells #[.slice A1 xs.length c1, .slice A2 ys.length c2, .int .i64 L] 25)).keeps hk2 noS
    have hA2 := (YhA2.out.alloc (.cells #[.slice A1 xs.length c1, .slice A2 ys.length c2, .int .i64 L] 25)).keeps hk2 noS
    have hKK := (YhKK.out.alloc (.cells #[.slice A1 xs.length c1, .slice A2 ys.length c2, .int .i64 L] 25)).trans hk2
    have sz2 := hk2.size
    (try simp at sz2)
    clear YhA1 YhA2 YhKK
    have bb0 := hbb.cell 0
    have bb1 := hbb.cell 1
    have bb2 := hbb.cell 2
    simp at bb0 bb1 bb2
    have zbb := hbb.lt
    have Yhbb := Lib.hid hbb
    have YhA1 := Lib.hid hA1
    have YhA2 := Lib.hid hA2
    have YhS1 := Lib.hid hS1
    have YhS2 := Lib.hid hS2
    have YhKK := Lib.hid hKK
    clear hbb hA1 hA2 hS1 hS2 hKK hk2
    go_wp2_with fail
    refine (HIM.out A1 A2 _ _ _ _ _ (YhA1.out.alloc (.cells #[.slice S1 P.length Sc1, .slice S2 Q.length Sc2, .int .i64 M] 25)).ints (YhA2.out.alloc (.cells #[.slice S1 P.length Sc1, .slice S2 Q.length Sc2, .int .i64 M] 25)).ints jA1 jA2).mono ?_
    rintro e w3 ⟨G1, Gn1, Gc1, G2, Gn2, Gc2, rfl, hG1, hG2, -, jG1, jG2, hk3⟩
    obtain rfl : P.length = Gn1 := hG1.1.1
    obtain rfl : Q.length = Gn2 := hG2.1.1
    clear bb0 bb1 bb2 zbb
    have hbb := (Yhbb.out.alloc (.cells #[.slice S1 P.length Sc1, .slice S2 Q.length Sc2, .int .i64 M] 25)).keeps hk3 (fun h => h)
    have hbs := (Box.new w2 _ rfl 25 #[.slice S1 P.length Sc1, .slice S2 Q.length Sc2, .int .i64 M]).keeps hk3 (fun h => h)
    have hA1 := (YhA1.out.alloc (.cells #[.slice S1 P.length Sc1, .slice S2 Q.length Sc2, .int .i64 M] 25)).keeps hk3 noS
    have hA2 := (YhA2.out.alloc (.cells #[.slice S1 P.length Sc1, .slice S2 Q.length Sc2, .int .i64 M] 25)).keeps hk3 noS
    have hS1 := (YhS1.out.alloc (.cells #[.slice S1 P.length Sc1, .slice S2 Q.length Sc2, .int .i64 M] 25)).keeps hk3 noS
    have hS2 := (YhS2.out.alloc (.cells #[.slice S1 P.length Sc1, .slice S2 Q.length Sc2, .int .i64 M] 25)).keeps hk3 noS
    have hKK := (YhKK.out.alloc (.cells #[.slice S1 P.length Sc1, .slice S2 Q.length Sc2, .int .i64 M] 25)).trans hk3
    have sz3 := hk3.size
    (try simp at sz3)
    clear Yhbb YhA1 YhA2 YhS1 YhS2 YhKK
    have bb0 := hbb.cell 0
    have bb1 := hbb.cell 1
    have bb2 := hbb.cell 2
    simp at bb0 bb1 bb2
    have zbb := hbb.lt
    have bs0 := hbs.cell 0
    have bs1 := hbs.cell 1
    have bs2 := hbs.cell 2
    simp at bs0 bs1 bs2
    have zbs := hbs.lt
    have Yhbb := Lib.hid hbb
    have Yhbs := Lib.hid hbs
    have YhA1 := Lib.hid hA1
    have YhA2 := Lib.hid hA2
    have YhS1 := Lib.hid hS1
    have YhS2 := Lib.hid hS2
    have YhG1 := Lib.hid hG1
    have YhG2 := Lib.hid hG2
    have YhKK := Lib.hid hKK
    clear hbb hbs hA1 hA2 hS1 hS2 hG1 hG2 hKK hk3
    go_wp2_with fail
    refine (lwBank_yes G1 G2 S1 S2 _ _ _ _ _ _ M P Q _ (YhG1.out.alloc (.cells #[.slice G1 P.length Gc1, .slice G2 Q.length Gc2, .int .i64 M] 25)).ints (YhS1.out.alloc (.cells #[.slice G1 P.length Gc1, .slice G2 Q.length Gc2, .int .i64 M] 25)).ints (YhG2.out.alloc (.cells #[.slice G1 P.length Gc1, .slice G2 Q.length Gc2, .int .i64 M] 25)).ints (YhS2.out.alloc (.cells #[.slice G1 P.length Gc1, .slice G2 Q.length Gc2, .int .i64 M] 25)).ints jG1 jG2).mono ?_
    rintro e w4 ⟨rfl, hk4⟩
    clear bb0 bb1 bb2 zbb
    clear bs0 bs1 bs2 zbs
    have hbb := (Yhbb.out.alloc (.cells #[.slice G1 P.length Gc1, .slice G2 Q.length Gc2, .int .i64 M] 25)).keeps hk4 (fun h => h)
    have hbs := (Yhbs.out.alloc (.cells #[.slice G1 P.length Gc1, .slice G2 Q.length Gc2, .int .i64 M] 25)).keeps hk4 (fun h => h)
    have hbg := (Box.new w3 _ rfl 25 #[.slice G1 P.length Gc1, .slice G2 Q.length Gc2, .int .i64 M]).keeps hk4 (fun h => h)
    have hA1 := (YhA1.out.alloc (.cells #[.slice G1 P.length Gc1, .slice G2 Q.length Gc2, .int .i64 M] 25)).keeps hk4 noS
    have hA2 := (YhA2.out.alloc (.cells #[.slice G1 P.length Gc1, .slice G2 Q.length Gc2, .int .i64 M] 25)).keeps hk4 noS
    have hS1 := (YhS1.out.alloc (.cells #[.slice G1 P.length Gc1, .slice G2 Q.length Gc2, .int .i64 M] 25)).keeps hk4 noS
    have hS2 := (YhS2.out.alloc (.cells #[.slice G1 P.length Gc1, .slice G2 Q.length Gc2, .int .i64 M] 25)).keeps hk4 noS
    have hG1 := (YhG1.out.alloc (.cells #[.slice G1 P.length Gc1, .slice G2 Q.length Gc2, .int .i64 M] 25)).keeps hk4 noS
    have hG2 := (YhG2.out.alloc (.cells #[.slice G1 P.length Gc1, .slice G2 Q.length Gc2, .int .i64 M] 25)).keeps hk4 noS
    have hKK := (YhKK.out.alloc (.cells #[.slice G1 P.length Gc1, .slice G2 Q.length Gc2, .int .i64 M] 25)).trans hk4
    have sz4 := hk4.size
    (try simp at sz4)
    clear Yhbb Yhbs YhA1 YhA2 YhS1 YhS2 YhG1 YhG2 YhKK
    have bb0 := hbb.cell 0
    have bb1 := hbb.cell 1
    have bb2 := hbb.cell 2
    simp at bb0 bb1 bb2
    have zbb := hbb.lt
    have bs0 := hbs.cell 0
    have bs1 := hbs.cell 1
    have bs2 := hbs.cell 2
    simp at bs0 bs1 bs2
    have zbs := hbs.lt
    have bg0 := hbg.cell 0
    have bg1 := hbg.cell 1
    have bg2 := hbg.cell 2
    simp at bg0 bg1 bg2
    have zbg := hbg.lt
    have Yhbb := Lib.hid hbb
    have Yhbs := Lib.hid hbs
    have Yhbg := Lib.hid hbg
    have YhA1 := Lib.hid hA1
    have YhA2 := Lib.hid hA2
    have YhS1 := Lib.hid hS1
    have YhS2 := Lib.hid hS2
    have YhG1 := Lib.hid hG1
    have YhG2 := Lib.hid hG2
    have YhKK := Lib.hid hKK
    clear hbb hbs hbg hA1 hA2 hS1 hS2 hG1 hG2 hKK hk4
    go_wp2_with fail
    refine (HSB.out A1 A2 _ _ _ _ _ (YhA1.out).ints (YhA2.out).ints jA1 jA2).mono ?_
    rintro e w5 ⟨rfl, hk5⟩
    clear bb0 bb1 bb2 zbb
    clear bs0 bs1 bs2 zbs
    clear bg0 bg1 bg2 zbg
    have hbb := (Yhbb.out).keeps hk5 (fun h => h)
    have hbs := (Yhbs.out).keeps hk5 (fun h => h)
    have hbg := (Yhbg.out).keeps hk5 (fun h => h)
    have hA1 := (YhA1.out).keeps hk5 noS
    have hA2 := (YhA2.out).keeps hk5 noS
    have hS1 := (YhS1.out).keeps hk5 noS
    have hS2 := (YhS2.out).keeps hk5 noS
    have hG1 := (YhG1.out).keeps hk5 noS
    have hG2 := (YhG2.out).keeps hk5 noS
    have hKK := (YhKK.out).trans hk5
    have sz5 := hk5.size
    (try simp at sz5)
    clear Yhbb Yhbs Yhbg YhA1 YhA2 YhS1 YhS2 YhG1 YhG2 YhKK
    have bb0 := hbb.cell 0
    have bb1 := hbb.cell 1
    have bb2 := hbb.cell 2
    simp at bb0 bb1 bb2
    have zbb := hbb.lt
    have bs0 := hbs.cell 0
    have bs1 := hbs.cell 1
    have bs2 := hbs.cell 2
    simp at bs0 bs1 bs2
    have zbs := hbs.lt
    have bg0 := hbg.cell 0
    have bg1 := hbg.cell 1
    have bg2 := hbg.cell 2
    simp at bg0 bg1 bg2
    have zbg := hbg.lt
    have Yhbb := Lib.hid hbb
    have Yhbs := Lib.hid hbs
    have Yhbg := Lib.hid hbg
    have YhA1 := Lib.hid hA1
    have YhA2 := Lib.hid hA2
    have YhS1 := Lib.hid hS1
    have YhS2 := Lib.hid hS2
    have YhG1 := Lib.hid hG1
    have YhG2 := Lib.hid hG2
    have YhKK := Lib.hid hKK
    clear hbb hbs hbg hA1 hA2 hS1 hS2 hG1 hG2 hKK hk5
    cases k
    · skip
      go_wp2_with fail
      refine (lwBank_yes G1 G2 S1 S2 _ _ _ _ _ _ M P Q _ (YhG1.out).ints (YhS1.out).ints (YhG2.out).ints (YhS2.out).ints jG1 jG2).mono ?_
      rintro e w6 ⟨rfl, hk6⟩
      clear bb0 bb1 bb2 zbb
      clear bs0 bs1 bs2 zbs
      clear bg0 bg1 bg2 zbg
      have hbb := (Yhbb.out).keeps hk6 (fun h => h)
      have hbs := (Yhbs.out).keeps hk6 (fun h => h)
      have hbg := (Yhbg.out).keeps hk6 (fun h => h)
      have hA1 := (YhA1.out).keeps hk6 noS
      have hA2 := (YhA2.out).keeps hk6 noS
      have hS1 := (YhS1.out).keeps hk6 noS
      have hS2 := (YhS2.out).keeps hk6 noS
      have hG1 := (YhG1.out).keeps hk6 noS
      have hG2 := (YhG2.out).keeps hk6 noS
      have hKK := (YhKK.out).trans hk6
      have sz6 := hk6.size
      (try simp at sz6)
      clear Yhbb Yhbs Yhbg YhA1 YhA2 YhS1 YhS2 YhG1 YhG2 YhKK
      have bb0 := hbb.cell 0
      have bb1 := hbb.cell 1
      have bb2 := hbb.cell 2
      simp at bb0 bb1 bb2
      have zbb := hbb.lt
      have bs0 := hbs.cell 0
      have bs1 := hbs.cell 1
      have bs2 := hbs.cell 2
      simp at bs0 bs1 bs2
      have zbs := hbs.lt
      have bg0 := hbg.cell 0
      have bg1 := hbg.cell 1
      have bg2 := hbg.cell 2
      simp at bg0 bg1 bg2
      have zbg := hbg.lt
      have Yhbb := Lib.hid hbb
      have Yhbs := Lib.hid hbs
      have Yhbg := Lib.hid hbg
      have YhA1 := Lib.hid hA1
      have YhA2 := Lib.hid hA2
      have YhS1 := Lib.hid hS1
      have YhS2 := Lib.hid hS2
      have YhG1 := Lib.hid hG1
      have YhG2 := Lib.hid hG2
      have YhKK := Lib.hid hKK
      clear hbb hbs hbg hA1 hA2 hS1 hS2 hG1 hG2 hKK hk6
      go_wp2
      go_ret
      exact ⟨rfl, YhKK.out.below⟩
    · by_cases hk3 : 2 < kd
      · have hk4 : ¬ kd < 1 := by omega
        go_wp2_with fail
        refine (lwBank_yes G1 G2 S1 S2 _ _ _ _ _ _ M P Q _ (YhG1.out).ints (YhS1.out).ints (YhG2.out).ints (YhS2.out).ints jG1 jG2).mono ?_
        rintro e w6 ⟨rfl, hk6⟩
        clear bb0 bb1 bb2 zbb
        clear bs0 bs1 bs2 zbs
        clear bg0 bg1 bg2 zbg
        have hbb := (Yhbb.out).keeps hk6 (fun h => h)
        have hbs := (Yhbs.out).keeps hk6 (fun h => h)
        have hbg := (Yhbg.out).keeps hk6 (fun h => h)
        have hA1 := (YhA1.out).keeps hk6 noS
        have hA2 := (YhA2.out).keeps hk6 noS
        have hS1 := (YhS1.out).keeps hk6 noS
        have hS2 := (YhS2.out).keeps hk6 noS
        have hG1 := (YhG1.out).keeps hk6 noS
        have hG2 := (YhG2.out).keeps hk6 noS
        have hKK := (YhKK.out).trans hk6
        have sz6 := hk6.size
        (try simp at sz6)
        clear Yhbb Yhbs Yhbg YhA1 YhA2 YhS1 YhS2 YhG1 YhG2 YhKK
        have bb0 := hbb.cell 0
        have bb1 := hbb.cell 1
        have bb2 := hbb.cell 2
        simp at bb0 bb1 bb2
        have zbb := hbb.lt
        have bs0 := hbs.cell 0
        have bs1 := hbs.cell 1
        have bs2 := hbs.cell 2
        simp at bs0 bs1 bs2
        have zbs := hbs.lt
        have bg0 := hbg.cell 0
        have bg1 := hbg.cell 1
        have bg2 := hbg.cell 2
        simp at bg0 bg1 bg2
        have zbg := hbg.lt
        have Yhbb := Lib.hid hbb
        have Yhbs := Lib.hid hbs
        have Yhbg := Lib.hid hbg
        have YhA1 := Lib.hid hA1
        have YhA2 := Lib.hid hA2
        have YhS1 := Lib.hid hS1
        have YhS2 := Lib.hid hS2
        have YhG1 := Lib.hid hG1
        have YhG2 := Lib.hid hG2
        have YhKK := Lib.hid hKK
        clear hbb hbs hbg hA1 hA2 hS1 hS2 hG1 hG2 hKK hk6
        go_wp2
        go_ret
        exact ⟨rfl, YhKK.out.below⟩
      · have hk4 : ¬ kd < 1 := by omega
        by_cases hf3 : 3 < fr
        · have hf4 : ¬ fr < 1 := by omega
          go_wp2_with fail
          refine (lwBank_yes G1 G2 S1 S2 _ _ _ _ _ _ M P Q _ (YhG1.out).ints (YhS1.out).ints (YhG2.out).ints (YhS2.out).ints jG1 jG2).mono ?_
          rintro e w6 ⟨rfl, hk6⟩
          clear bb0 bb1 bb2 zbb
          clear bs0 bs1 bs2 zbs
          clear bg0 bg1 bg2 zbg
          have hbb := (Yhbb.out).keeps hk6 (fun h => h)
          have hbs := (Yhbs.out).keeps hk6 (fun h => h)
          have hbg := (Yhbg.out).keeps hk6 (fun h => h)
          have hA1 := (YhA1.out).keeps hk6 noS
          have hA2 := (YhA2.out).keeps hk6 noS
          have hS1 := (YhS1.out).keeps hk6 noS
          have hS2 := (YhS2.out).keeps hk6 noS
          have hG1 := (YhG1.out).keeps hk6 noS
          have hG2 := (YhG2.out).keeps hk6 noS
          have hKK := (YhKK.out).trans hk6
          have sz6 := hk6.size
          (try simp at sz6)
          clear Yhbb Yhbs Yhbg YhA1 YhA2 YhS1 YhS2 YhG1 YhG2 YhKK
          have bb0 := hbb.cell 0
          have bb1 := hbb.cell 1
          have bb2 := hbb.cell 2
          simp at bb0 bb1 bb2
          have zbb := hbb.lt
          have bs0 := hbs.cell 0
          have bs1 := hbs.cell 1
          have bs2 := hbs.cell 2
          simp at bs0 bs1 bs2
          have zbs := hbs.lt
          have bg0 := hbg.cell 0
          have bg1 := hbg.cell 1
          have bg2 := hbg.cell 2
          simp at bg0 bg1 bg2
          have zbg := hbg.lt
          have Yhbb := Lib.hid hbb
          have Yhbs := Lib.hid hbs
          have Yhbg := Lib.hid hbg
          have YhA1 := Lib.hid hA1
          have YhA2 := Lib.hid hA2
          have YhS1 := Lib.hid hS1
          have YhS2 := Lib.hid hS2
          have YhG1 := Lib.hid hG1
          have YhG2 := Lib.hid hG2
          have YhKK := Lib.hid hKK
          clear hbb hbs hbg hA1 hA2 hS1 hS2 hG1 hG2 hKK hk6
          go_wp2
          go_ret
          exact ⟨rfl, YhKK.out.below⟩
        · have hf4 : ¬ fr < 1 := by omega
          by_cases hs0 : sm < 0
          · skip
            go_wp2_with fail
            refine (lwBank_yes G1 G2 S1 S2 _ _ _ _ _ _ M P Q _ (YhG1.out).ints (YhS1.out).ints (YhG2.out).ints (YhS2.out).ints jG1 jG2).mono ?_
            rintro e w6 ⟨rfl, hk6⟩
            clear bb0 bb1 bb2 zbb
            clear bs0 bs1 bs2 zbs
            clear bg0 bg1 bg2 zbg
            have hbb := (Yhbb.out).keeps hk6 (fun h => h)
            have hbs := (Yhbs.out).keeps hk6 (fun h => h)
            have hbg := (Yhbg.out).keeps hk6 (fun h => h)
            have hA1 := (YhA1.out).keeps hk6 noS
            have hA2 := (YhA2.out).keeps hk6 noS
            have hS1 := (YhS1.out).keeps hk6 noS
            have hS2 := (YhS2.out).keeps hk6 noS
            have hG1 := (YhG1.out).keeps hk6 noS
            have hG2 := (YhG2.out).keeps hk6 noS
            have hKK := (YhKK.out).trans hk6
            have sz6 := hk6.size
            (try simp at sz6)
            clear Yhbb Yhbs Yhbg YhA1 YhA2 YhS1 YhS2 YhG1 YhG2 YhKK
            have bb0 := hbb.cell 0
            have bb1 := hbb.cell 1
            have bb2 := hbb.cell 2
            simp at bb0 bb1 bb2
            have zbb := hbb.lt
            have bs0 := hbs.cell 0
            have bs1 := hbs.cell 1
            have bs2 := hbs.cell 2
            simp at bs0 bs1 bs2
            have zbs := hbs.lt
            have bg0 := hbg.cell 0
            have bg1 := hbg.cell 1
            have bg2 := hbg.cell 2
            simp at bg0 bg1 bg2
            have zbg := hbg.lt
            have Yhbb := Lib.hid hbb
            have Yhbs := Lib.hid hbs
            have Yhbg := Lib.hid hbg
            have YhA1 := Lib.hid hA1
            have YhA2 := Lib.hid hA2
            have YhS1 := Lib.hid hS1
            have YhS2 := Lib.hid hS2
            have YhG1 := Lib.hid hG1
            have YhG2 := Lib.hid hG2
            have YhKK := Lib.hid hKK
            clear hbb hbs hbg hA1 hA2 hS1 hS2 hG1 hG2 hKK hk6
            go_wp2
            go_ret
            exact ⟨rfl, YhKK.out.below⟩
          · have hkk : kindB kd = true := by simp [kindB]; omega
            have huu : userB fr = true := by simp [userB]; omega
            have hbk := HBK.out
            have hl1 := lst_len hbk 1
            have hl2 := lst_len hbk 2
            have hNb := notes_bounds hbk
            have hLb := locked_bounds hbk
            have hhb := has_bounds hbk kd fr
            simp only [lst, if_true] at hl1 hl2
            have hl2 : ys.length = 3 := hl2
            dsimp only at hNb hLb
            obtain ⟨u, rfl⟩ := nat_of_user huu
            have hu : (u : Int) < 3 := by omega
            have hx1 := has1 xs ys L u
            have hx2 := has2 xs ys L u
            obtain ⟨nn, hnn⟩ : ∃ nn, sumL ys = nn := ⟨_, rfl⟩
            rw [hnn] at hNb
            have ea : allOwn ⟨xs, ys, L⟩ = 30 := by unfold allOwn; rw [hbk]; rfl
            have en : allNotes ⟨xs, ys, L⟩ = nn := by unfold allNotes; rw [hbk]; exact hnn
            have HAb := Lib.hid (fun (B1 B2 : Option Addr) (b1 b2 d1 d2 : Nat) (W : World) (i1 : Ints W B1 b1 xs) (i2 : Ints W B2 b2 ys) (j1 : b1 ≤ maxLen) (j2 : b2 ≤ maxLen) => (show Calls Try.prog 10 #[.agg #[.slice B1 b1 d1, .slice B2 b2 d2, .int .i64 L]] W (fun e w' => e = .returned (.tuple #[.int .i64 30, .int .i64 nn]) ∧ Keeps noBlk W w') from by have h9 := implBankAll_any B1 B2 b1 b2 d1 d2 L xs ys W i1 i2 j1 j2; unfold RetAll at h9; rw [ea, en] at h9; exact h9))
            rcases kind_cases hkk with rfl | rfl
            · rw [hx1] at hhb
              obtain ⟨hv, hhv⟩ : ∃ hv, xs.getD u 0 = hv := ⟨_, rfl⟩
              rw [hhv] at hhb
              have hroom : room ⟨xs, ys, L⟩ 1 = L := by simp [room]
              have HHb := Lib.hid (fun (B1 B2 : Option Addr) (b1 b2 d1 d2 : Nat) (W : World) (i1 : Ints W B1 b1 xs) (i2 : Ints W B2 b2 ys) (j1 : b1 ≤ maxLen) (j2 : b2 ≤ maxLen) => (show Calls Try.prog 12 #[.agg #[.slice B1 b1 d1, .slice B2 b2 d2, .int .i64 L], .int .i64 1, .int .i64 ((u : Int) + 1)] W (fun e w' => e = .returned (.int .i64 hv) ∧ Keeps noBlk W w') from by have h9 := lwHas_1 B1 B2 b1 b2 d1 d2 L xs ys W i1 (i1.1.symm.trans hl1) (i2.1.symm.trans hl2) i2 u hu; rw [hhv] at h9; exact h9))
              cases o
              · have hlt : L < sm := by
                  rcases Int.lt_or_le (L) sm with h9 | h9
                  · exact h9
                  · have h8 := HOK.out; rw [backOk_mk hbk hkk huu (by omega) (by rw [hroom]; exact h9)] at h8; cases h8
                have hd1 : decide (sm ≤ L) = false := by simp; omega
                clear hbk hl1 hl2 hx1 hx2 hhv hkk huu hnn ea en hroom
                go_wp2_with fail
                refine (HAb.out A1 A2 _ _ _ _ _ (YhA1.out).ints (YhA2.out).ints jA1 jA2).mono ?_
                rintro e w6 ⟨rfl, hk6⟩
                clear bb0 bb1 bb2 zbb
                clear bs0 bs1 bs2 zbs
                clear bg0 bg1 bg2 zbg
                have hbb := (Yhbb.out).keeps hk6 (fun h => h)
                have hbs := (Yhbs.out).keeps hk6 (fun h => h)
                have hbg := (Yhbg.out).keeps hk6 (fun h => h)
                have hA1 := (YhA1.out).keeps hk6 noS
                have hA2 := (YhA2.out).keeps hk6 noS
                have hS1 := (YhS1.out).keeps hk6 noS
                have hS2 := (YhS2.out).keeps hk6 noS
                have hG1 := (YhG1.out).keeps hk6 noS
                have hG2 := (YhG2.out).keeps hk6 noS
                have hKK := (YhKK.out).trans hk6
                have sz6 := hk6.size
                (try simp at sz6)
                clear Yhbb Yhbs Yhbg YhA1 YhA2 YhS1 YhS2 YhG1 YhG2 YhKK
                have bb0 := hbb.cell 0
                have bb1 := hbb.cell 1
                have bb2 := hbb.cell 2
                simp at bb0 bb1 bb2
                have zbb := hbb.lt
                have bs0 := hbs.cell 0
                have bs1 := hbs.cell 1
                have bs2 := hbs.cell 2
                simp at bs0 bs1 bs2
                have zbs := hbs.lt
                have bg0 := hbg.cell 0
                have bg1 := hbg.cell 1
                have bg2 := hbg.cell 2
                simp at bg0 bg1 bg2
                have zbg := hbg.lt
                have Yhbb := Lib.hid hbb
                have Yhbs := Lib.hid hbs
                have Yhbg := Lib.hid hbg
                have YhA1 := Lib.hid hA1
                have YhA2 := Lib.hid hA2
                have YhS1 := Lib.hid hS1
                have YhS2 := Lib.hid hS2
                have YhG1 := Lib.hid hG1
                have YhG2 := Lib.hid hG2
                have YhKK := Lib.hid hKK
                clear hbb hbs hbg hA1 hA2 hS1 hS2 hG1 hG2 hKK hk6
                go_wp2
                go_ret
                exact ⟨rfl, YhKK.out.below⟩
              · obtain ⟨-, -, -, hs1, hs2⟩ := backOk_parts HOK.out
                rw [hroom] at hs2
                have hax := backOk_ok' HOK.out
                have hR := HRR.out
                have hR : backed ⟨xs, ys, L⟩ 1 ((u : Int) + 1) sm = ⟨P, Q, M⟩ := hR
                rw [hR] at hax
                rw [backed_1, hhv] at hR
                obtain ⟨e1, e2, e3⟩ := BankL.mk.inj hR
                clear hR HRR HOK
                subst e2 e3
                have hgs : P.getD u 0 = hv + sm := by rw [← e1]; exact getD_set_same xs u (hv + sm) (by omega)
                have hpl : P.length = 3 := by rw [← e1, List.length_set]; exact hl1
                clear e1
                have HHx := Lib.hid (fun (B1 B2 : Option Addr) (b1 b2 d1 d2 : Nat) (W : World) (i1 : Ints W B1 b1 P) (i2 : Ints W B2 b2 ys) (j1 : b1 ≤ maxLen) (j2 : b2 ≤ maxLen) => (show Calls Try.prog 12 #[.agg #[.slice B1 b1 d1, .slice B2 b2 d2, .int .i64 (L - sm)], .int .i64 1, .int .i64 ((u : Int) + 1)] W (fun e w' => e = .returned (.int .i64 (hv + sm)) ∧ Keeps noBlk W w') from by have h9 := lwHas_1 B1 B2 b1 b2 d1 d2 (L - sm) P ys W i1 (i1.1.symm.trans hpl) (i2.1.symm.trans hl2) i2 u hu; rw [hgs] at h9; exact h9))
                have HBx := Lib.hid (fun (B1 B2 : Option Addr) (b1 b2 d1 d2 : Nat) (W : World) (i1 : Ints W B1 b1 P) (i2 : Ints W B2 b2 ys) (j1 : b1 ≤ maxLen) (j2 : b2 ≤ maxLen) => (show Calls Try.prog 11 #[.agg #[.slice B1 b1 d1, .slice B2 b2 d2, .int .i64 (L - sm)]] W (fun e w' => e = .returned (.bool true) ∧ Keeps noBlk W w') from by have h9 := implOk_any B1 B2 b1 b2 d1 d2 (L - sm) P ys W i1 i2 j1 j2; rw [hax] at h9; exact h9))
                have hd1 : decide (sm ≤ L) = true := by simp; omega
                clear hbk hax hl1 hl2 hgs hpl hhv hnn ea en hkk huu hx1 hx2 hroom
                go_wp2_with fail
                refine (HAb.out A1 A2 _ _ _ _ _ (YhA1.out).ints (YhA2.out).ints jA1 jA2).mono ?_
                rintro e w6 ⟨rfl, hk6⟩
                clear bb0 bb1 bb2 zbb
                clear bs0 bs1 bs2 zbs
                clear bg0 bg1 bg2 zbg
                have hbb := (Yhbb.out).keeps hk6 (fun h => h)
                have hbs := (Yhbs.out).keeps hk6 (fun h => h)
                have hbg := (Yhbg.out).keeps hk6 (fun h => h)
                have hA1 := (YhA1.out).keeps hk6 noS
                have hA2 := (YhA2.out).keeps hk6 noS
                have hS1 := (YhS1.out).keeps hk6 noS
                have hS2 := (YhS2.out).keeps hk6 noS
                have hG1 := (YhG1.out).keeps hk6 noS
                have hG2 := (YhG2.out).keeps hk6 noS
                have hKK := (YhKK.out).trans hk6
                have sz6 := hk6.size
                (try simp at sz6)
                clear Yhbb Yhbs Yhbg YhA1 YhA2 YhS1 YhS2 YhG1 YhG2 YhKK
                have bb0 := hbb.cell 0
                have bb1 := hbb.cell 1
                have bb2 := hbb.cell 2
                simp at bb0 bb1 bb2
                have zbb := hbb.lt
                have bs0 := hbs.cell 0
                have bs1 := hbs.cell 1
                have bs2 := hbs.cell 2
                simp at bs0 bs1 bs2
                have zbs := hbs.lt
                have bg0 := hbg.cell 0
                have bg1 := hbg.cell 1
                have bg2 := hbg.cell 2
                simp at bg0 bg1 bg2
                have zbg := hbg.lt
                have Yhbb := Lib.hid hbb
                have Yhbs := Lib.hid hbs
                have Yhbg := Lib.hid hbg
                have YhA1 := Lib.hid hA1
                have YhA2 := Lib.hid hA2
                have YhS1 := Lib.hid hS1
                have YhS2 := Lib.hid hS2
                have YhG1 := Lib.hid hG1
                have YhG2 := Lib.hid hG2
                have YhKK := Lib.hid hKK
                clear hbb hbs hbg hA1 hA2 hS1 hS2 hG1 hG2 hKK hk6
                have hwr : IntKind.i64.wrap (hv + sm) = hv + sm := IntWalk.i64_in _ (by omega)
                have hbn : ((hv + sm : Int) == hv + sm) = true := by simp
                have hwl : IntKind.i64.wrap (L - sm) = L - sm := IntWalk.i64_in _ (by omega)
                have hbl : ((L - sm : Int) == L - sm) = true := by simp
                go_wp2_with fail
                have bb0 := fun U : GW w6 => GW.cell bb0 U
                have bb1 := fun U : GW w6 => GW.cell bb1 U
                have bb2 := fun U : GW w6 => GW.cell bb2 U
                have bg0 := fun U : GW w6 => GW.cell bg0 U
                have bg1 := fun U : GW w6 => GW.cell bg1 U
                have bg2 := fun U : GW w6 => GW.cell bg2 U
                refine wp_region_grow (by kernel_rfl) (by kernel_rfl) ?_
                repeat (go_big_quiet_step (first | (go_at_call_of 11 (Value.agg #[Value.slice G1 P.length Gc1, Value.slice G2 ys.length Gc2, Value.int IntKind.i64 (L - sm)]); exact Calls.grow _ (HBx.out G1 G2 _ _ _ _ _ (YhG1.out.keeps (GW.keep _) noS).ints (YhG2.out.keeps (GW.keep _) noS).ints jG1 jG2)) | (go_at_call_of 12 (Value.agg #[Value.slice G1 P.length Gc1, Value.slice G2 ys.length Gc2, Value.int IntKind.i64 (L - sm)]); exact Calls.grow _ (HHx.out G1 G2 _ _ _ _ _ (YhG1.out.keeps (GW.keep _) noS).ints (YhG2.out.keeps (GW.keep _) noS).ints jG1 jG2)) | (go_at_call_of 12 (Value.agg #[Value.slice A1 xs.length c1, Value.slice A2 ys.length c2, Value.int IntKind.i64 L]); exact Calls.grow _ (HHb.out A1 A2 _ _ _ _ _ (YhA1.out.keeps (GW.keep _) noS).ints (YhA2.out.keeps (GW.keep _) noS).ints jA1 jA2))))
                refine wpQuiet_nil ?_
                rintro _ ⟨U1, rfl⟩
                have hKK := YhKK.out.trans U1.keep
                clear YhKK
                have YhKK := Lib.hid hKK
                clear hKK
                go_wp2
                go_ret
                exact ⟨rfl, YhKK.out.below⟩
            · rw [hx2] at hhb
              obtain ⟨hv, hhv⟩ : ∃ hv, ys.getD u 0 = hv := ⟨_, rfl⟩
              rw [hhv] at hhb
              have hroom : room ⟨xs, ys, L⟩ 2 = 30 - nn := by simp [room, hnn]
              have HHb := Lib.hid (fun (B1 B2 : Option Addr) (b1 b2 d1 d2 : Nat) (W : World) (i1 : Ints W B1 b1 xs) (i2 : Ints W B2 b2 ys) (j1 : b1 ≤ maxLen) (j2 : b2 ≤ maxLen) => (show Calls Try.prog 12 #[.agg #[.slice B1 b1 d1, .slice B2 b2 d2, .int .i64 L], .int .i64 2, .int .i64 ((u : Int) + 1)] W (fun e w' => e = .returned (.int .i64 hv) ∧ Keeps noBlk W w') from by have h9 := lwHas_2 B1 B2 b1 b2 d1 d2 L xs ys W i1 (i1.1.symm.trans hl1) (i2.1.symm.trans hl2) i2 u hu; rw [hhv] at h9; exact h9))
              cases o
              · have hlt : 30 - nn < sm := by
                  rcases Int.lt_or_le (30 - nn) sm with h9 | h9
                  · exact h9
                  · have h8 := HOK.out; rw [backOk_mk hbk hkk huu (by omega) (by rw [hroom]; exact h9)] at h8; cases h8
                have hd1 : decide (nn + sm ≤ 30) = false := by simp; omega
                clear hbk hl1 hl2 hx1 hx2 hhv hkk huu hnn ea en hroom
                go_wp2_with fail
                refine (HAb.out A1 A2 _ _ _ _ _ (YhA1.out).ints (YhA2.out).ints jA1 jA2).mono ?_
                rintro e w6 ⟨rfl, hk6⟩
                clear bb0 bb1 bb2 zbb
                clear bs0 bs1 bs2 zbs
                clear bg0 bg1 bg2 zbg
                have hbb := (Yhbb.out).keeps hk6 (fun h => h)
                have hbs := (Yhbs.out).keeps hk6 (fun h => h)
                have hbg := (Yhbg.out).keeps hk6 (fun h => h)
                have hA1 := (YhA1.out).keeps hk6 noS
                have hA2 := (YhA2.out).keeps hk6 noS
                have hS1 := (YhS1.out).keeps hk6 noS
                have hS2 := (YhS2.out).keeps hk6 noS
                have hG1 := (YhG1.out).keeps hk6 noS
                have hG2 := (YhG2.out).keeps hk6 noS
                have hKK := (YhKK.out).trans hk6
                have sz6 := hk6.size
                (try simp at sz6)
                clear Yhbb Yhbs Yhbg YhA1 YhA2 YhS1 YhS2 YhG1 YhG2 YhKK
                have bb0 := hbb.cell 0
                have bb1 := hbb.cell 1
                have bb2 := hbb.cell 2
                simp at bb0 bb1 bb2
                have zbb := hbb.lt
                have bs0 := hbs.cell 0
                have bs1 := hbs.cell 1
                have bs2 := hbs.cell 2
                simp at bs0 bs1 bs2
                have zbs := hbs.lt
                have bg0 := hbg.cell 0
                have bg1 := hbg.cell 1
                have bg2 := hbg.cell 2
                simp at bg0 bg1 bg2
                have zbg := hbg.lt
                have Yhbb := Lib.hid hbb
                have Yhbs := Lib.hid hbs
                have Yhbg := Lib.hid hbg
                have YhA1 := Lib.hid hA1
                have YhA2 := Lib.hid hA2
                have YhS1 := Lib.hid hS1
                have YhS2 := Lib.hid hS2
                have YhG1 := Lib.hid hG1
                have YhG2 := Lib.hid hG2
                have YhKK := Lib.hid hKK
                clear hbb hbs hbg hA1 hA2 hS1 hS2 hG1 hG2 hKK hk6
                go_wp2
                go_ret
                exact ⟨rfl, YhKK.out.below⟩
              · obtain ⟨-, -, -, hs1, hs2⟩ := backOk_parts HOK.out
                rw [hroom] at hs2
                have hax := backOk_ok' HOK.out
                have hR := HRR.out
                have hR : backed ⟨xs, ys, L⟩ 2 ((u : Int) + 1) sm = ⟨P, Q, M⟩ := hR
                rw [hR] at hax
                rw [backed_2, hhv] at hR
                obtain ⟨e1, e2, e3⟩ := BankL.mk.inj hR
                clear hR HRR HOK
                subst e1 e3
                have hgs : Q.getD u 0 = hv + sm := by rw [← e2]; exact getD_set_same ys u (hv + sm) (by omega)
                have hpl : Q.length = 3 := by rw [← e2, List.length_set]; exact hl2
                clear e2
                have HHx := Lib.hid (fun (B1 B2 : Option Addr) (b1 b2 d1 d2 : Nat) (W : World) (i1 : Ints W B1 b1 xs) (i2 : Ints W B2 b2 Q) (j1 : b1 ≤ maxLen) (j2 : b2 ≤ maxLen) => (show Calls Try.prog 12 #[.agg #[.slice B1 b1 d1, .slice B2 b2 d2, .int .i64 L], .int .i64 2, .int .i64 ((u : Int) + 1)] W (fun e w' => e = .returned (.int .i64 (hv + sm)) ∧ Keeps noBlk W w') from by have h9 := lwHas_2 B1 B2 b1 b2 d1 d2 L xs Q W i1 (i1.1.symm.trans hl1) (i2.1.symm.trans hpl) i2 u hu; rw [hgs] at h9; exact h9))
                have HBx := Lib.hid (fun (B1 B2 : Option Addr) (b1 b2 d1 d2 : Nat) (W : World) (i1 : Ints W B1 b1 xs) (i2 : Ints W B2 b2 Q) (j1 : b1 ≤ maxLen) (j2 : b2 ≤ maxLen) => (show Calls Try.prog 11 #[.agg #[.slice B1 b1 d1, .slice B2 b2 d2, .int .i64 L]] W (fun e w' => e = .returned (.bool true) ∧ Keeps noBlk W w') from by have h9 := implOk_any B1 B2 b1 b2 d1 d2 L xs Q W i1 i2 j1 j2; rw [hax] at h9; exact h9))
                have hd1 : decide (nn + sm ≤ 30) = true := by simp; omega
                clear hbk hax hl1 hl2 hgs hpl hhv hnn ea en hkk huu hx1 hx2 hroom
                go_wp2_with fail
                refine (HAb.out A1 A2 _ _ _ _ _ (YhA1.out).ints (YhA2.out).ints jA1 jA2).mono ?_
                rintro e w6 ⟨rfl, hk6⟩
                clear bb0 bb1 bb2 zbb
                clear bs0 bs1 bs2 zbs
                clear bg0 bg1 bg2 zbg
                have hbb := (Yhbb.out).keeps hk6 (fun h => h)
                have hbs := (Yhbs.out).keeps hk6 (fun h => h)
                have hbg := (Yhbg.out).keeps hk6 (fun h => h)
                have hA1 := (YhA1.out).keeps hk6 noS
                have hA2 := (YhA2.out).keeps hk6 noS
                have hS1 := (YhS1.out).keeps hk6 noS
                have hS2 := (YhS2.out).keeps hk6 noS
                have hG1 := (YhG1.out).keeps hk6 noS
                have hG2 := (YhG2.out).keeps hk6 noS
                have hKK := (YhKK.out).trans hk6
                have sz6 := hk6.size
                (try simp at sz6)
                clear Yhbb Yhbs Yhbg YhA1 YhA2 YhS1 YhS2 YhG1 YhG2 YhKK
                have bb0 := hbb.cell 0
                have bb1 := hbb.cell 1
                have bb2 := hbb.cell 2
                simp at bb0 bb1 bb2
                have zbb := hbb.lt
                have bs0 := hbs.cell 0
                have bs1 := hbs.cell 1
                have bs2 := hbs.cell 2
                simp at bs0 bs1 bs2
                have zbs := hbs.lt
                have bg0 := hbg.cell 0
                have bg1 := hbg.cell 1
                have bg2 := hbg.cell 2
                simp at bg0 bg1 bg2
                have zbg := hbg.lt
                have Yhbb := Lib.hid hbb
                have Yhbs := Lib.hid hbs
                have Yhbg := Lib.hid hbg
                have YhA1 := Lib.hid hA1
                have YhA2 := Lib.hid hA2
                have YhS1 := Lib.hid hS1
                have YhS2 := Lib.hid hS2
                have YhG1 := Lib.hid hG1
                have YhG2 := Lib.hid hG2
                have YhKK := Lib.hid hKK
                clear hbb hbs hbg hA1 hA2 hS1 hS2 hG1 hG2 hKK hk6
                have hwr : IntKind.i64.wrap (hv + sm) = hv + sm := IntWalk.i64_in _ (by omega)
                have hbn : ((hv + sm : Int) == hv + sm) = true := by simp
                go_wp2_with fail
                have bb0 := fun U : GW w6 => GW.cell bb0 U
                have bb1 := fun U : GW w6 => GW.cell bb1 U
                have bb2 := fun U : GW w6 => GW.cell bb2 U
                have bg0 := fun U : GW w6 => GW.cell bg0 U
                have bg1 := fun U : GW w6 => GW.cell bg1 U
                have bg2 := fun U : GW w6 => GW.cell bg2 U
                refine wp_region_grow (by kernel_rfl) (by kernel_rfl) ?_
                repeat (go_big_quiet_step (first | (go_at_call_of 11 (Value.agg #[Value.slice G1 xs.length Gc1, Value.slice G2 Q.length Gc2, Value.int IntKind.i64 L]); exact Calls.grow _ (HBx.out G1 G2 _ _ _ _ _ (YhG1.out.keeps (GW.keep _) noS).ints (YhG2.out.keeps (GW.keep _) noS).ints jG1 jG2)) | (go_at_call_of 12 (Value.agg #[Value.slice G1 xs.length Gc1, Value.slice G2 Q.length Gc2, Value.int IntKind.i64 L]); exact Calls.grow _ (HHx.out G1 G2 _ _ _ _ _ (YhG1.out.keeps (GW.keep _) noS).ints (YhG2.out.keeps (GW.keep _) noS).ints jG1 jG2)) | (go_at_call_of 12 (Value.agg #[Value.slice A1 xs.length c1, Value.slice A2 ys.length c2, Value.int IntKind.i64 L]); exact Calls.grow _ (HHb.out A1 A2 _ _ _ _ _ (YhA1.out.keeps (GW.keep _) noS).ints (YhA2.out.keeps (GW.keep _) noS).ints jA1 jA2))))
                refine wpQuiet_nil ?_
                rintro _ ⟨U1, rfl⟩
                have hKK := YhKK.out.trans U1.keep
                clear YhKK
                have YhKK := Lib.hid hKK
                clear hKK
                go_wp2
                go_ret
                exact ⟨rfl, YhKK.out.below⟩
  · go_enter Try.func3, Try.ntmps3
    go_wp2
    go_ret
    exact ⟨rfl, Below.refl _ _⟩

namespace back
set_option maxRecDepth 100000 in
theorem lifted (os : Os) (started : os.Started) (H : Type) (enc : TypeId × Value → H) :
    ReturnsInHanded {} Try.checked os 3 .any (Rows.fnBackSpec.pre6 enc Try.prog Try.f3 Rows.fnBackRow.domain false) (Rows.fnBackSpec.post enc Try.prog Try.f3 false true false false) := by
  refine returnsInHanded_of_change (C := Try.checked) own started (by kernel_rfl) Try.func3
    (ChangeSpec.witness6 (enc := enc) (C := Try.checked) false ⟨#[], #[.slice none 0 0], []⟩ 8 (by kernel_rfl) (by kernel_rfl) (by kernel_rfl) (by kernel_rfl)) ?_
  intro W base args ds gs before hval0 hW hcnd _
  have hval : ∀ (j : Nat) t v, Try.f3.params[j]? = some t → args[j]? = some v → Value.okWide Try.prog W .any base t v := hval0
  have hW' := hW
  obtain ⟨p, q, hA0, hV, rfl, hfz, hnd⟩ := hW
  have hA : DataW.TrodAll enc Try.prog W 0 (fun _ => true) true Try.f3.params.toList args.toList ds p := hA0
  rw [Try.params3 ] at hA hval
  obtain ⟨v0, vs0, d0, ds0, p0, q0, hargs, rfl, rfl, h0, r0⟩ := trodAll_cons hA
  obtain ⟨rfl, rfl, rfl⟩ := trodAll_nil r0
  obtain rfl : args = #[v0] := by cases args; simp_all
  obtain ⟨rfl, rfl⟩ := trodVars_none hV
  obtain ⟨a0, len0, cap0, rfl⟩ := okWide_slice Try.underlying22 (hval 0 22 v0 rfl rfl)
  have k0 := h0
  have lt0 : ∀ x ∈ p0, x.block < W.heap.size := by obtain ⟨m, hm⟩ := k0; exact DataW.trod_lt m _ _ _ hm
  obtain ⟨z0, w0, e0, f0⟩ := bytes_of_trod h0
  clear hA0 hval0
  refine (walk_back W a0 len0 cap0 z0 w0 e0 f0).mono fun e W' ⟨he, bel⟩ => ?_
  subst he
  exact ⟨_, rfl, _, _, _, [], _, [], hW', trodAll_mk1 (shut_bool Try.underlying4 _), (trodAll_cons_mk (Below.trod laidOut (by kernel_rfl) (of_decide_eq_true (by kernel_rfl)) k0 bel lt0) trodAll_mk0), rfl, bel.frame _, fun h => by cases h⟩

theorem over : Rows.fnBackRow.holds Try.pinned (OpenSpec.ofChange Rows.fnBackSpec) :=
  OpenClaim.holds_of_wide 3 Try.f3 rfl rfl rfl rfl rfl rfl rfl ⟨rfl, rfl, rfl, rfl, rfl⟩ rfl rfl rfl rfl rfl (by kernel_rfl) Try.func3 (by kernel_rfl)
    (of_decide_eq_true (by kernel_rfl)) (by unfold Func.isWrapper; first | (rw [if_pos (by decide +kernel)]; kernel_rfl) | (rw [if_neg (by decide +kernel)]; exact ⟨rfl, rfl⟩))
    (fun os started H enc _ => lifted os started H enc)
end back

theorem fnBack_holds : Rows.FnBackSaid := back.over
#print axioms fnBack_holds
end Go.Proofs.Ytedmkbiamjpdaab
