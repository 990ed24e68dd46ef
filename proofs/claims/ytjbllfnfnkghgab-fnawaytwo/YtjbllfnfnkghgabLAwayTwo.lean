/- FnAwayTwo: taken away in two it is as at once. -/
import Derived.Test.YtjbllfnfnkghgabRows
import Derived.Test.YtjbllfnfnkghgabSAB
import Derived.Test.YtjbllfnfnkghgabIAB
import Derived.Test.YtjbllfnfnkghgabTwo
import Derived.Test.YtjbllfnfnkghgabLw
import Derived.Test.YtjbllfnfnkghgabDAway
import Derived.Test.YtjbllfnfnkghgabFrameB
set_option linter.unusedVariables false
set_option linter.unusedSimpArgs false
namespace Go.Proofs.Ytjbllfnfnkghgab
open Go.RowKit Go.ChangeShapes Go.WideShapes Go.ChangeAt

theorem mod_range (m : Nat) {s : Int} (h : 0 ≤ s) : 0 ≤ (m : Int) % (s + 1) ∧ (m : Int) % (s + 1) ≤ s := by
  have h1 := Int.emod_nonneg (m : Int) (b := s + 1) (by omega)
  have h2 := Int.emod_lt_of_pos (m : Int) (b := s + 1) (by omega)
  omega

set_option maxHeartbeats 4000000 in
theorem walk_awayTwo (w : World) (a0 : Option Addr) (len0 cap0 : Nat) (z0 : List Int) (h : Bytes w a0 len0 z0) (e0 : len0 ≤ cap0) (f0 : cap0 ≤ maxLen) (a1 : Option Addr) (len1 cap1 : Nat) (_e1 : len1 ≤ cap1) (_f1 : cap1 ≤ maxLen) :
    Calls Try.prog 9 #[.slice a0 len0 cap0, .slice a1 len1 cap1] w fun e w' => e = .returned (.bool true) ∧ Below w.heap.size w w' := by
  have H := Lib.hid h
  clear h
  by_cases hs : (len0 : Int) ≤ 1048576
  · by_cases hs1 : (len1 : Int) ≤ 1048576
    · go_enter Try.func9, Try.ntmps9
      go_wp2_with fail
      refine (drawAway_any a0 len0 _ z0 _ H.out e0 f0).mono ?_
      rintro e w1 ⟨v, ⟨xs, ys, L⟩, kd, fr, sm, rfl, ⟨⟨A1, n1, c1, A2, n2, c2, rfl, hA1, hA2, hAd, k1, k2, m1, m2⟩, hk1, hL1, hL2, ho, hn⟩, g1, g2, g3, g4, g5, g6⟩
      dsimp only at hA1 hA2 hL1 hL2 ho hn ⊢
      obtain rfl : xs.length = n1 := hA1.1.1
      obtain rfl : ys.length = n2 := hA2.1.1
      have hfr : I64 fr := ⟨by omega, by omega⟩
      have hLm : L ≤ 9223372036854775807 := by omega
      have jA1 : xs.length ≤ maxLen := Nat.le_trans k1 m1
      have jA2 : ys.length ≤ maxLen := Nat.le_trans k2 m2
      have noS : ∀ {A : Option Addr} {n : Nat} (b : Nat), blk A n b → ¬ noBlk b := fun _ _ h => h
      have hKK := hk1
      have sz1 := hk1.size
      have HO := Lib.hid ho
      have HN := Lib.hid hn
      clear hAd k1 k2 m1 m2 H ho hn
      have YhA1 := Lib.hid hA1
      have YhA2 := Lib.hid hA2
      have YhKK := Lib.hid hKK
      clear hA1 hA2 hKK hk1
      by_cases hok : awayOk ⟨xs, ys, L⟩ kd fr sm = true
      · obtain ⟨⟨P, Q, K⟩, hrb0⟩ : ∃ rb, awayed ⟨xs, ys, L⟩ kd fr sm = rb := ⟨_, rfl⟩
        have hrb : resL true (awayed ⟨xs, ys, L⟩ kd fr sm) = ⟨P, Q, K⟩ := by rw [← hrb0]; rfl
        have HSP := Lib.hid (fun (B1 B2 : Option Addr) (b1 b2 d1 d2 : Nat) (W : World) (i1 : Ints W B1 b1 xs) (i2 : Ints W B2 b2 ys) (j1 : b1 ≤ maxLen) (j2 : b2 ≤ maxLen) => (show Calls Try.prog 22 #[.agg #[.slice B1 b1 d1, .slice B2 b2 d2, .int .i64 L], .int .i64 kd, .int .i64 fr, .int .i64 sm] W (RetU W true ⟨P, Q, K⟩) from by have h9 := (specAway_any B1 B2 b1 b2 d1 d2 L xs ys W i1 i2 j1 j2 hLm kd fr sm).mono fun _ _ hr => hr.u; rw [hok, hrb] at h9; exact h9))
        have HIM := Lib.hid (fun (B1 B2 : Option Addr) (b1 b2 d1 d2 : Nat) (W : World) (i1 : Ints W B1 b1 xs) (i2 : Ints W B2 b2 ys) (j1 : b1 ≤ maxLen) (j2 : b2 ≤ maxLen) => (show Calls Try.prog 23 #[.agg #[.slice B1 b1 d1, .slice B2 b2 d2, .int .i64 L], .int .i64 kd, .int .i64 fr, .int .i64 sm] W (RetU W true ⟨P, Q, K⟩) from by have h9 := (implAway_any B1 B2 b1 b2 d1 d2 L xs ys W i1 i2 j1 j2 kd fr sm hfr).mono fun _ _ hr => hr.u; rw [hok, hrb] at h9; exact h9))
        have hsm := (awayOk_parts hok).2.2.2.1
        have hmr := mod_range len1 hsm
        have htw := away_two hok hmr.1 hmr.2
        obtain ⟨⟨P2, Q2, K2⟩, hrb2⟩ : ∃ rb, awayed ⟨xs, ys, L⟩ kd fr ((len1 : Int) % (sm + 1)) = rb := ⟨_, rfl⟩
        rw [hrb0, hrb2] at htw
        obtain ⟨ht1, ht2, ht3⟩ := htw
        have hrb3 : resL true (awayed ⟨xs, ys, L⟩ kd fr ((len1 : Int) % (sm + 1))) = ⟨P2, Q2, K2⟩ := by rw [← hrb2]; rfl
        have hrb4 : resL true (awayed ⟨P2, Q2, K2⟩ kd fr (sm - (len1 : Int) % (sm + 1))) = ⟨P, Q, K⟩ := by rw [← ht3]; rfl
        have HY := Lib.hid (fun (B1 B2 : Option Addr) (b1 b2 d1 d2 : Nat) (W : World) (i1 : Ints W B1 b1 xs) (i2 : Ints W B2 b2 ys) (j1 : b1 ≤ maxLen) (j2 : b2 ≤ maxLen) => (show Calls Try.prog 23 #[.agg #[.slice B1 b1 d1, .slice B2 b2 d2, .int .i64 L], .int .i64 kd, .int .i64 fr, .int .i64 ((len1 : Int) % (sm + 1))] W (RetU W true ⟨P2, Q2, K2⟩) from by have h9 := (implAway_any B1 B2 b1 b2 d1 d2 L xs ys W i1 i2 j1 j2 kd fr ((len1 : Int) % (sm + 1)) hfr).mono fun _ _ hr => hr.u; rw [ht1, hrb3] at h9; exact h9))
        have HZ := Lib.hid (fun (B1 B2 : Option Addr) (b1 b2 d1 d2 : Nat) (W : World) (i1 : Ints W B1 b1 P2) (i2 : Ints W B2 b2 Q2) (j1 : b1 ≤ maxLen) (j2 : b2 ≤ maxLen) => (show Calls Try.prog 23 #[.agg #[.slice B1 b1 d1, .slice B2 b2 d2, .int .i64 K2], .int .i64 kd, .int .i64 fr, .int .i64 (sm - (len1 : Int) % (sm + 1))] W (RetU W true ⟨P, Q, K⟩) from by have h9 := (implAway_any B1 B2 b1 b2 d1 d2 K2 P2 Q2 W i1 i2 j1 j2 kd fr (sm - (len1 : Int) % (sm + 1)) hfr).mono fun _ _ hr => hr.u; rw [ht2, hrb4] at h9; exact h9))
        have hz1 : ¬ sm + 1 = 0 := by omega
        clear hok hrb hrb0 ht1 ht2 ht3 hrb2 hrb3 hrb4
        go_wp2_with fail
        refine (HSP.out A1 A2 _ _ _ _ _ (YhA1.out.alloc (.cells #[.slice A1 xs.length c1, .slice A2 ys.length c2, .int .i64 L] 25)).ints (YhA2.out.alloc (.cells #[.slice A1 xs.length c1, .slice A2 ys.length c2, .int .i64 L] 25)).ints jA1 jA2).mono ?_
        rintro e w2 ⟨S1, Sn1, Sc1, S2, Sn2, Sc2, rfl, hS1, hS2, -, jS1, jS2, hk2⟩
        obtain rfl : P.length = Sn1 := hS1.1.1
        obtain rfl : Q.length = Sn2 := hS2.1.1
        have hbb := (Box.new w1 _ rfl 25 #[.slice A1 xs.length c1, .slice A2 ys.length c2, .int .i64 L]).keeps hk2 (fun h => h)
        have hA1 := (YhA1.out.alloc (.cells #[.slice A1 xs.length c1, .slice A2 ys.length c2, .int .i64 L] 25)).keeps hk2 noS
        have hA2 := (YhA2.out.alloc (.cells #[.slice A1 xs.length c1, .slice A2 ys.length c2, .int .i64 L] 25)).keeps hk2 noS
        have hKK := (YhKK.out.alloc (.cells #[.slice A1 xs.length c1, .slice A2 ys.length c2, .int .i64 L] 25)).trans hk2
        have sz2 := hk2.size
        (try simp at sz2)
        clear YhA1 YhA2 YhKK
        have bb0 := hbb.cell 0
        have bb1 := hbb.cell 1
        have bb2 := hbb.cell 2
        simp at bb0 bb1 bb2
        have zbb := hbb.lt
        have Yhbb := Lib.hid hbb
        have YhA1 := Lib.hid hA1
        have YhA2 := Lib.hid hA2
        have YhS1 := Lib.hid hS1
        have YhS2 := Lib.hid hS2
        have YhKK := Lib.hid hKK
        clear hbb hA1 hA2 hS1 hS2 hKK hk2
        go_wp2_with fail
        refine (HIM.out A1 A2 _ _ _ _ _ (YhA1.out.alloc (.cells #[.slice S1 P.length Sc1, .slice S2 Q.length Sc2, .int .i64 K] 25)).ints (YhA2.out.alloc (.cells #[.slice S1 P.length Sc1, .slice S2 Q.length Sc2, .int .i64 K] 25)).ints jA1 jA2).mono ?_
        rintro e w3 ⟨G1, Gn1, Gc1, G2, Gn2, Gc2, rfl, hG1, hG2, -, jG1, jG2, hk3⟩
        obtain rfl : P.length = Gn1 := hG1.1.1
        obtain rfl : Q.length = Gn2 := hG2.1.1
        clear bb0 bb1 bb2 zbb
        have hbb := (Yhbb.out.alloc (.cells #[.slice S1 P.length Sc1, .slice S2 Q.length Sc2, .int .i64 K] 25)).keeps hk3 (fun h => h)
        have hbs := (Box.new w2 _ rfl 25 #[.slice S1 P.length Sc1, .slice S2 Q.length Sc2, .int .i64 K]).keeps hk3 (fun h => h)
        have hA1 := (YhA1.out.alloc (.cells #[.slice S1 P.length Sc1, .slice S2 Q.length Sc2, .int .i64 K] 25)).keeps hk3 noS
        have hA2 := (YhA2.out.alloc (.cells #[.slice S1 P.length Sc1, .slice S2 Q.length Sc2, .int .i64 K] 25)).keeps hk3 noS
        have hS1 := (YhS1.out.alloc (.cells #[.slice S1 P.length Sc1, .slice S2 Q.length Sc2, .int .i64 K] 25)).keeps hk3 noS
        have hS2 := (YhS2.out.alloc (.cells #[.slice S1 P.length Sc1, .slice S2 Q.length Sc2, .int .i64 K] 25)).keeps hk3 noS
        have hKK := (YhKK.out.alloc (.cells #[.slice S1 P.length Sc1, .slice S2 Q.length Sc2, .int .i64 K] 25)).trans hk3
        have sz3 := hk3.size
        (try simp at sz3)
        clear Yhbb YhA1 YhA2 YhS1 YhS2 YhKK
        have bb0 := hbb.cell 0
        have bb1 := hbb.cell 1
        have bb2 := hbb.cell 2
        simp at bb0 bb1 bb2
        have zbb := hbb.lt
        have bs0 := hbs.cell 0
        have bs1 := hbs.cell 1
        have bs2 := hbs.cell 2
        simp at bs0 bs1 bs2
        have zbs := hbs.lt
        have Yhbb := Lib.hid hbb
        have Yhbs := Lib.hid hbs
        have YhA1 := Lib.hid hA1
        have YhA2 := Lib.hid hA2
        have YhS1 := Lib.hid hS1
        have YhS2 := Lib.hid hS2
        have YhG1 := Lib.hid hG1
        have YhG2 := Lib.hid hG2
        have YhKK := Lib.hid hKK
        clear hbb hbs hA1 hA2 hS1 hS2 hG1 hG2 hKK hk3
        go_wp2_with fail
        refine (lwBank_yes G1 G2 S1 S2 _ _ _ _ _ _ K P Q _ (YhG1.out.alloc (.cells #[.slice G1 P.length Gc1, .slice G2 Q.length Gc2, .int .i64 K] 25)).ints (YhS1.out.alloc (.cells #[.slice G1 P.length Gc1, .slice G2 Q.length Gc2, .int .i64 K] 25)).ints (YhG2.out.alloc (.cells #[.slice G1 P.length Gc1, .slice G2 Q.length Gc2, .int .i64 K] 25)).ints (YhS2.out.alloc (.cells #[.slice G1 P.length Gc1, .slice G2 Q.length Gc2, .int .i64 K] 25)).ints jG1 jG2).mono ?_
        rintro e w4 ⟨rfl, hk4⟩
        clear bb0 bb1 bb2 zbb
        clear bs0 bs1 bs2 zbs
        have hbb := (Yhbb.out.alloc (.cells #[.slice G1 P.length Gc1, .slice G2 Q.length Gc2, .int .i64 K] 25)).keeps hk4 (fun h => h)
        have hbs := (Yhbs.out.alloc (.cells #[.slice G1 P.length Gc1, .slice G2 Q.length Gc2, .int .i64 K] 25)).keeps hk4 (fun h => h)
        have hbg := (Box.new w3 _ rfl 25 #[.slice G1 P.length Gc1, .slice G2 Q.length Gc2, .int .i64 K]).keeps hk4 (fun h => h)
        have hA1 := (YhA1.out.alloc (.cells #[.slice G1 P.length Gc1, .slice G2 Q.length Gc2, .int .i64 K] 25)).keeps hk4 noS
        have hA2 := (YhA2.out.alloc (.cells #[.slice G1 P.length Gc1, .slice G2 Q.length Gc2, .int .i64 K] 25)).keeps hk4 noS
        have hS1 := (YhS1.out.alloc (.cells #[.slice G1 P.length Gc1, .slice G2 Q.length Gc2, .int .i64 K] 25)).keeps hk4 noS
        have hS2 := (YhS2.out.alloc (.cells #[.slice G1 P.length Gc1, .slice G2 Q.length Gc2, .int .i64 K] 25)).keeps hk4 noS
        have hG1 := (YhG1.out.alloc (.cells #[.slice G1 P.length Gc1, .slice G2 Q.length Gc2, .int .i64 K] 25)).keeps hk4 noS
        have hG2 := (YhG2.out.alloc (.cells #[.slice G1 P.length Gc1, .slice G2 Q.length Gc2, .int .i64 K] 25)).keeps hk4 noS
        have hKK := (YhKK.out.alloc (.cells #[.slice G1 P.length Gc1, .slice G2 Q.length Gc2, .int .i64 K] 25)).trans hk4
        have sz4 := hk4.size
        (try simp at sz4)
        clear Yhbb Yhbs YhA1 YhA2 YhS1 YhS2 YhG1 YhG2 YhKK
        have bb0 := hbb.cell 0
        have bb1 := hbb.cell 1
        have bb2 := hbb.cell 2
        simp at bb0 bb1 bb2
        have zbb := hbb.lt
        have bs0 := hbs.cell 0
        have bs1 := hbs.cell 1
        have bs2 := hbs.cell 2
        simp at bs0 bs1 bs2
        have zbs := hbs.lt
        have bg0 := hbg.cell 0
        have bg1 := hbg.cell 1
        have bg2 := hbg.cell 2
        simp at bg0 bg1 bg2
        have zbg := hbg.lt
        have Yhbb := Lib.hid hbb
        have Yhbs := Lib.hid hbs
        have Yhbg := Lib.hid hbg
        have YhA1 := Lib.hid hA1
        have YhA2 := Lib.hid hA2
        have YhS1 := Lib.hid hS1
        have YhS2 := Lib.hid hS2
        have YhG1 := Lib.hid hG1
        have YhG2 := Lib.hid hG2
        have YhKK := Lib.hid hKK
        clear hbb hbs hbg hA1 hA2 hS1 hS2 hG1 hG2 hKK hk4
        go_wp2_with fail
        refine (HY.out A1 A2 _ _ _ _ _ (YhA1.out).ints (YhA2.out).ints jA1 jA2).mono ?_
        rintro e w5 ⟨H1, Hn1, Hc1, H2, Hn2, Hc2, rfl, hH1, hH2, -, jH1, jH2, hk5⟩
        obtain rfl : P2.length = Hn1 := hH1.1.1
        obtain rfl : Q2.length = Hn2 := hH2.1.1
        clear bb0 bb1 bb2 zbb
        clear bs0 bs1 bs2 zbs
        clear bg0 bg1 bg2 zbg
        have hbb := (Yhbb.out).keeps hk5 (fun h => h)
        have hbs := (Yhbs.out).keeps hk5 (fun h => h)
        have hbg := (Yhbg.out).keeps hk5 (fun h => h)
        have hA1 := (YhA1.out).keeps hk5 noS
        have hA2 := (YhA2.out).keeps hk5 noS
        have hS1 := (YhS1.out).keeps hk5 noS
        have hS2 := (YhS2.out).keeps hk5 noS
        have hG1 := (YhG1.out).keeps hk5 noS
        have hG2 := (YhG2.out).keeps hk5 noS
        have hKK := (YhKK.out).trans hk5
        have sz5 := hk5.size
        (try simp at sz5)
        clear Yhbb Yhbs Yhbg YhA1 YhA2 YhS1 YhS2 YhG1 YhG2 YhKK
        have bb0 := hbb.cell 0
        have bb1 := hbb.cell 1
        have bb2 := hbb.cell 2
        simp at bb0 bb1 bb2
        have zbb := hbb.lt
        have bs0 := hbs.cell 0
        have bs1 := hbs.cell 1
        have bs2 := hbs.cell 2
        simp at bs0 bs1 bs2
        have zbs := hbs.lt
        have bg0 := hbg.cell 0
        have bg1 := hbg.cell 1
        have bg2 := hbg.cell 2
        simp at bg0 bg1 bg2
        have zbg := hbg.lt
        have Yhbb := Lib.hid hbb
        have Yhbs := Lib.hid hbs
        have Yhbg := Lib.hid hbg
        have YhA1 := Lib.hid hA1
        have YhA2 := Lib.hid hA2
        have YhS1 := Lib.hid hS1
        have YhS2 := Lib.hid hS2
        have YhG1 := Lib.hid hG1
        have YhG2 := Lib.hid hG2
        have YhH1 := Lib.hid hH1
        have YhH2 := Lib.hid hH2
        have YhKK := Lib.hid hKK
        clear hbb hbs hbg hA1 hA2 hS1 hS2 hG1 hG2 hH1 hH2 hKK hk5
        go_wp2_with fail
        refine (HZ.out H1 H2 _ _ _ _ _ (YhH1.out.alloc (.cells #[.slice H1 P2.length Hc1, .slice H2 Q2.length Hc2, .int .i64 K2] 25)).ints (YhH2.out.alloc (.cells #[.slice H1 P2.length Hc1, .slice H2 Q2.length Hc2, .int .i64 K2] 25)).ints jH1 jH2).mono ?_
        rintro e w6 ⟨Z1, Zn1, Zc1, Z2, Zn2, Zc2, rfl, hZ1, hZ2, -, jZ1, jZ2, hk6⟩
        obtain rfl : P.length = Zn1 := hZ1.1.1
        obtain rfl : Q.length = Zn2 := hZ2.1.1
        clear bb0 bb1 bb2 zbb
        clear bs0 bs1 bs2 zbs
        clear bg0 bg1 bg2 zbg
        have hbb := (Yhbb.out.alloc (.cells #[.slice H1 P2.length Hc1, .slice H2 Q2.length Hc2, .int .i64 K2] 25)).keeps hk6 (fun h => h)
        have hbs := (Yhbs.out.alloc (.cells #[.slice H1 P2.length Hc1, .slice H2 Q2.length Hc2, .int .i64 K2] 25)).keeps hk6 (fun h => h)
        have hbg := (Yhbg.out.alloc (.cells #[.slice H1 P2.length Hc1, .slice H2 Q2.length Hc2, .int .i64 K2] 25)).keeps hk6 (fun h => h)
        have hbh := (Box.new w5 _ rfl 25 #[.slice H1 P2.length Hc1, .slice H2 Q2.length Hc2, .int .i64 K2]).keeps hk6 (fun h => h)
        have hA1 := (YhA1.out.alloc (.cells #[.slice H1 P2.length Hc1, .slice H2 Q2.length Hc2, .int .i64 K2] 25)).keeps hk6 noS
        have hA2 := (YhA2.out.alloc (.cells #[.slice H1 P2.length Hc1, .slice H2 Q2.length Hc2, .int .i64 K2] 25)).keeps hk6 noS
        have hS1 := (YhS1.out.alloc (.cells #[.slice H1 P2.length Hc1, .slice H2 Q2.length Hc2, .int .i64 K2] 25)).keeps hk6 noS
        have hS2 := (YhS2.out.alloc (.cells #[.slice H1 P2.length Hc1, .slice H2 Q2.length Hc2, .int .i64 K2] 25)).keeps hk6 noS
        have hG1 := (YhG1.out.alloc (.cells #[.slice H1 P2.length Hc1, .slice H2 Q2.length Hc2, .int .i64 K2] 25)).keeps hk6 noS
        have hG2 := (YhG2.out.alloc (.cells #[.slice H1 P2.length Hc1, .slice H2 Q2.length Hc2, .int .i64 K2] 25)).keeps hk6 noS
        have hH1 := (YhH1.out.alloc (.cells #[.slice H1 P2.length Hc1, .slice H2 Q2.length Hc2, .int .i64 K2] 25)).keeps hk6 noS
        have hH2 := (YhH2.out.alloc (.cells #[.slice H1 P2.length Hc1, .slice H2 Q2.length Hc2, .int .i64 K2] 25)).keeps hk6 noS
        have hKK := (YhKK.out.alloc (.cells #[.slice H1 P2.length Hc1, .slice H2 Q2.length Hc2, .int .i64 K2] 25)).trans hk6
        have sz6 := hk6.size
        (try simp at sz6)
        clear Yhbb Yhbs Yhbg YhA1 YhA2 YhS1 YhS2 YhG1 YhG2 YhH1 YhH2 YhKK
        have bb0 := hbb.cell 0
        have bb1 := hbb.cell 1
        have bb2 := hbb.cell 2
        simp at bb0 bb1 bb2
        have zbb := hbb.lt
        have bs0 := hbs.cell 0
        have bs1 := hbs.cell 1
        have bs2 := hbs.cell 2
        simp at bs0 bs1 bs2
        have zbs := hbs.lt
        have bg0 := hbg.cell 0
        have bg1 := hbg.cell 1
        have bg2 := hbg.cell 2
        simp at bg0 bg1 bg2
        have zbg := hbg.lt
        have bh0 := hbh.cell 0
        have bh1 := hbh.cell 1
        have bh2 := hbh.cell 2
        simp at bh0 bh1 bh2
        have zbh := hbh.lt
        have Yhbb := Lib.hid hbb
        have Yhbs := Lib.hid hbs
        have Yhbg := Lib.hid hbg
        have Yhbh := Lib.hid hbh
        have YhA1 := Lib.hid hA1
        have YhA2 := Lib.hid hA2
        have YhS1 := Lib.hid hS1
        have YhS2 := Lib.hid hS2
        have YhG1 := Lib.hid hG1
        have YhG2 := Lib.hid hG2
        have YhH1 := Lib.hid hH1
        have YhH2 := Lib.hid hH2
        have YhZ1 := Lib.hid hZ1
        have YhZ2 := Lib.hid hZ2
        have YhKK := Lib.hid hKK
        clear hbb hbs hbg hbh hA1 hA2 hS1 hS2 hG1 hG2 hH1 hH2 hZ1 hZ2 hKK hk6
        go_wp2_with fail
        refine (lwBank_yes Z1 Z2 G1 G2 _ _ _ _ _ _ K P Q _ (YhZ1.out.alloc (.cells #[.slice Z1 P.length Zc1, .slice Z2 Q.length Zc2, .int .i64 K] 25)).ints (YhG1.out.alloc (.cells #[.slice Z1 P.length Zc1, .slice Z2 Q.length Zc2, .int .i64 K] 25)).ints (YhZ2.out.alloc (.cells #[.slice Z1 P.length Zc1, .slice Z2 Q.length Zc2, .int .i64 K] 25)).ints (YhG2.out.alloc (.cells #[.slice Z1 P.length Zc1, .slice Z2 Q.length Zc2, .int .i64 K] 25)).ints jZ1 jZ2).mono ?_
        rintro e w7 ⟨rfl, hk7⟩
        clear bb0 bb1 bb2 zbb
        clear bs0 bs1 bs2 zbs
        clear bg0 bg1 bg2 zbg
        clear bh0 bh1 bh2 zbh
        have hbb := (Yhbb.out.alloc (.cells #[.slice Z1 P.length Zc1, .slice Z2 Q.length Zc2, .int .i64 K] 25)).keeps hk7 (fun h => h)
        have hbs := (Yhbs.out.alloc (.cells #[.slice Z1 P.length Zc1, .slice Z2 Q.length Zc2, .int .i64 K] 25)).keeps hk7 (fun h => h)
        have hbg := (Yhbg.out.alloc (.cells #[.slice Z1 P.length Zc1, .slice Z2 Q.length Zc2, .int .i64 K] 25)).keeps hk7 (fun h => h)
        have hbh := (Yhbh.out.alloc (.cells #[.slice Z1 P.length Zc1, .slice Z2 Q.length Zc2, .int .i64 K] 25)).keeps hk7 (fun h => h)
        have hbz := (Box.new w6 _ rfl 25 #[.slice Z1 P.length Zc1, .slice Z2 Q.length Zc2, .int .i64 K]).keeps hk7 (fun h => h)
        have hA1 := (YhA1.out.alloc (.cells #[.slice Z1 P.length Zc1, .slice Z2 Q.length Zc2, .int .i64 K] 25)).keeps hk7 noS
        have hA2 := (YhA2.out.alloc (.cells #[.slice Z1 P.length Zc1, .slice Z2 Q.length Zc2, .int .i64 K] 25)).keeps hk7 noS
        have hS1 := (YhS1.out.alloc (.cells #[.slice Z1 P.length Zc1, .slice Z2 Q.length Zc2, .int .i64 K] 25)).keeps hk7 noS
        have hS2 := (YhS2.out.alloc (.cells #[.slice Z1 P.length Zc1, .slice Z2 Q.length Zc2, .int .i64 K] 25)).keeps hk7 noS
        have hG1 := (YhG1.out.alloc (.cells #[.slice Z1 P.length Zc1, .slice Z2 Q.length Zc2, .int .i64 K] 25)).keeps hk7 noS
        have hG2 := (YhG2.out.alloc (.cells #[.slice Z1 P.length Zc1, .slice Z2 Q.length Zc2, .int .i64 K] 25)).keeps hk7 noS
        have hH1 := (YhH1.out.alloc (.cells #[.slice Z1 P.length Zc1, .slice Z2 Q.length Zc2, .int .i64 K] 25)).keeps hk7 noS
        have hH2 := (YhH2.out.alloc (.cells #[.slice Z1 P.length Zc1, .slice Z2 Q.length Zc2, .int .i64 K] 25)).keeps hk7 noS
        have hZ1 := (YhZ1.out.alloc (.cells #[.slice Z1 P.length Zc1, .slice Z2 Q.length Zc2, .int .i64 K] 25)).keeps hk7 noS
        have hZ2 := (YhZ2.out.alloc (.cells #[.slice Z1 P.length Zc1, .slice Z2 Q.length Zc2, .int .i64 K] 25)).keeps hk7 noS
        have hKK := (YhKK.out.alloc (.cells #[.slice Z1 P.length Zc1, .slice Z2 Q.length Zc2, .int .i64 K] 25)).trans hk7
        have sz7 := hk7.size
        (try simp at sz7)
        clear Yhbb Yhbs Yhbg Yhbh YhA1 YhA2 YhS1 YhS2 YhG1 YhG2 YhH1 YhH2 YhZ1 YhZ2 YhKK
        have bb0 := hbb.cell 0
        have bb1 := hbb.cell 1
        have bb2 := hbb.cell 2
        simp at bb0 bb1 bb2
        have zbb := hbb.lt
        have bs0 := hbs.cell 0
        have bs1 := hbs.cell 1
        have bs2 := hbs.cell 2
        simp at bs0 bs1 bs2
        have zbs := hbs.lt
        have bg0 := hbg.cell 0
        have bg1 := hbg.cell 1
        have bg2 := hbg.cell 2
        simp at bg0 bg1 bg2
        have zbg := hbg.lt
        have bh0 := hbh.cell 0
        have bh1 := hbh.cell 1
        have bh2 := hbh.cell 2
        simp at bh0 bh1 bh2
        have zbh := hbh.lt
        have bz0 := hbz.cell 0
        have bz1 := hbz.cell 1
        have bz2 := hbz.cell 2
        simp at bz0 bz1 bz2
        have zbz := hbz.lt
        have Yhbb := Lib.hid hbb
        have Yhbs := Lib.hid hbs
        have Yhbg := Lib.hid hbg
        have Yhbh := Lib.hid hbh
        have Yhbz := Lib.hid hbz
        have YhA1 := Lib.hid hA1
        have YhA2 := Lib.hid hA2
        have YhS1 := Lib.hid hS1
        have YhS2 := Lib.hid hS2
        have YhG1 := Lib.hid hG1
        have YhG2 := Lib.hid hG2
        have YhH1 := Lib.hid hH1
        have YhH2 := Lib.hid hH2
        have YhZ1 := Lib.hid hZ1
        have YhZ2 := Lib.hid hZ2
        have YhKK := Lib.hid hKK
        clear hbb hbs hbg hbh hbz hA1 hA2 hS1 hS2 hG1 hG2 hH1 hH2 hZ1 hZ2 hKK hk7
        go_wp2
        go_ret
        exact ⟨rfl, YhKK.out.below⟩
      · have hok : awayOk ⟨xs, ys, L⟩ kd fr sm = false := Bool.eq_false_iff.2 hok
        have hrb : resL false (awayed ⟨xs, ys, L⟩ kd fr sm) = ⟨[], [], 0⟩ := rfl
        have HSP := Lib.hid (fun (B1 B2 : Option Addr) (b1 b2 d1 d2 : Nat) (W : World) (i1 : Ints W B1 b1 xs) (i2 : Ints W B2 b2 ys) (j1 : b1 ≤ maxLen) (j2 : b2 ≤ maxLen) => (show Calls Try.prog 22 #[.agg #[.slice B1 b1 d1, .slice B2 b2 d2, .int .i64 L], .int .i64 kd, .int .i64 fr, .int .i64 sm] W (RetU W false ⟨[], [], 0⟩) from by have h9 := (specAway_any B1 B2 b1 b2 d1 d2 L xs ys W i1 i2 j1 j2 hLm kd fr sm).mono fun _ _ hr => hr.u; rw [hok, hrb] at h9; exact h9))
        have HIM := Lib.hid (fun (B1 B2 : Option Addr) (b1 b2 d1 d2 : Nat) (W : World) (i1 : Ints W B1 b1 xs) (i2 : Ints W B2 b2 ys) (j1 : b1 ≤ maxLen) (j2 : b2 ≤ maxLen) => (show Calls Try.prog 23 #[.agg #[.slice B1 b1 d1, .slice B2 b2 d2, .int .i64 L], .int .i64 kd, .int .i64 fr, .int .i64 sm] W (RetU W false ⟨[], [], 0⟩) from by have h9 := (implAway_any B1 B2 b1 b2 d1 d2 L xs ys W i1 i2 j1 j2 kd fr sm hfr).mono fun _ _ hr => hr.u; rw [hok, hrb] at h9; exact h9))
        clear hok hrb
        go_wp2_with fail
        refine (HSP.out A1 A2 _ _ _ _ _ (YhA1.out.alloc (.cells #[.slice A1 xs.length c1, .slice A2 ys.length c2, .int .i64 L] 25)).ints (YhA2.out.alloc (.cells #[.slice A1 xs.length c1, .slice A2 ys.length c2, .int .i64 L] 25)).ints jA1 jA2).mono ?_
        rintro e w2 ⟨S1, Sn1, Sc1, S2, Sn2, Sc2, rfl, hS1, hS2, -, jS1, jS2, hk2⟩
        obtain rfl : 0 = Sn1 := hS1.1.1
        obtain rfl : 0 = Sn2 := hS2.1.1
        have hbb := (Box.new w1 _ rfl 25 #[.slice A1 xs.length c1, .slice A2 ys.length c2, .int .i64 L]).keeps hk2 (fun h => h)
        have hA1 := (YhA1.out.alloc (.cells #[.slice A1 xs.length c1, .slice A2 ys.length c2, .int .i64 L] 25)).keeps hk2 noS
        have hA2 := (YhA2.out.alloc (.cells #[.slice A1 xs.length c1, .slice A2 ys.length c2, .int .i64 L] 25)).keeps hk2 noS
        have hKK := (YhKK.out.alloc (.cells #[.slice A1 xs.length c1, .slice A2 ys.length c2, .int .i64 L] 25)).trans hk2
        have sz2 := hk2.size
        (try simp at sz2)
        clear YhA1 YhA2 YhKK
        have bb0 := hbb.cell 0
        have bb1 := hbb.cell 1
        have bb2 := hbb.cell 2
        simp at bb0 bb1 bb2
        have zbb := hbb.lt
        have Yhbb := Lib.hid hbb
        have YhA1 := Lib.hid hA1
        have YhA2 := Lib.hid hA2
        have YhS1 := Lib.hid hS1
        have YhS2 := Lib.hid hS2
        have YhKK := Lib.hid hKK
        clear hbb hA1 hA2 hS1 hS2 hKK hk2
        go_wp2_with fail
        refine (HIM.out A1 A2 _ _ _ _ _ (YhA1.out.alloc (.cells #[.slice S1 0 Sc1, .slice S2 0 Sc2, .int .i64 0] 25)).ints (YhA2.out.alloc (.cells #[.slice S1 0 Sc1, .slice S2 0 Sc2, .int .i64 0] 25)).ints jA1 jA2).mono ?_
        rintro e w3 ⟨G1, Gn1, Gc1, G2, Gn2, Gc2, rfl, hG1, hG2, -, jG1, jG2, hk3⟩
        obtain rfl : 0 = Gn1 := hG1.1.1
        obtain rfl : 0 = Gn2 := hG2.1.1
        clear bb0 bb1 bb2 zbb
        have hbb := (Yhbb.out.alloc (.cells #[.slice S1 0 Sc1, .slice S2 0 Sc2, .int .i64 0] 25)).keeps hk3 (fun h => h)
        have hbs := (Box.new w2 _ rfl 25 #[.slice S1 0 Sc1, .slice S2 0 Sc2, .int .i64 0]).keeps hk3 (fun h => h)
        have hA1 := (YhA1.out.alloc (.cells #[.slice S1 0 Sc1, .slice S2 0 Sc2, .int .i64 0] 25)).keeps hk3 noS
        have hA2 := (YhA2.out.alloc (.cells #[.slice S1 0 Sc1, .slice S2 0 Sc2, .int .i64 0] 25)).keeps hk3 noS
        have hS1 := (YhS1.out.alloc (.cells #[.slice S1 0 Sc1, .slice S2 0 Sc2, .int .i64 0] 25)).keeps hk3 noS
        have hS2 := (YhS2.out.alloc (.cells #[.slice S1 0 Sc1, .slice S2 0 Sc2, .int .i64 0] 25)).keeps hk3 noS
        have hKK := (YhKK.out.alloc (.cells #[.slice S1 0 Sc1, .slice S2 0 Sc2, .int .i64 0] 25)).trans hk3
        have sz3 := hk3.size
        (try simp at sz3)
        clear Yhbb YhA1 YhA2 YhS1 YhS2 YhKK
        have bb0 := hbb.cell 0
        have bb1 := hbb.cell 1
        have bb2 := hbb.cell 2
        simp at bb0 bb1 bb2
        have zbb := hbb.lt
        have bs0 := hbs.cell 0
        have bs1 := hbs.cell 1
        have bs2 := hbs.cell 2
        simp at bs0 bs1 bs2
        have zbs := hbs.lt
        have Yhbb := Lib.hid hbb
        have Yhbs := Lib.hid hbs
        have YhA1 := Lib.hid hA1
        have YhA2 := Lib.hid hA2
        have YhS1 := Lib.hid hS1
        have YhS2 := Lib.hid hS2
        have YhG1 := Lib.hid hG1
        have YhG2 := Lib.hid hG2
        have YhKK := Lib.hid hKK
        clear hbb hbs hA1 hA2 hS1 hS2 hG1 hG2 hKK hk3
        go_wp2_with fail
        refine (lwBank_yes G1 G2 S1 S2 _ _ _ _ _ _ 0 [] [] _ (YhG1.out.alloc (.cells #[.slice G1 0 Gc1, .slice G2 0 Gc2, .int .i64 0] 25)).ints (YhS1.out.alloc (.cells #[.slice G1 0 Gc1, .slice G2 0 Gc2, .int .i64 0] 25)).ints (YhG2.out.alloc (.cells #[.slice G1 0 Gc1, .slice G2 0 Gc2, .int .i64 0] 25)).ints (YhS2.out.alloc (.cells #[.slice G1 0 Gc1, .slice G2 0 Gc2, .int .i64 0] 25)).ints jG1 jG2).mono ?_
        rintro e w4 ⟨rfl, hk4⟩
        clear bb0 bb1 bb2 zbb
        clear bs0 bs1 bs2 zbs
        have hbb := (Yhbb.out.alloc (.cells #[.slice G1 0 Gc1, .slice G2 0 Gc2, .int .i64 0] 25)).keeps hk4 (fun h => h)
        have hbs := (Yhbs.out.alloc (.cells #[.slice G1 0 Gc1, .slice G2 0 Gc2, .int .i64 0] 25)).keeps hk4 (fun h => h)
        have hbg := (Box.new w3 _ rfl 25 #[.slice G1 0 Gc1, .slice G2 0 Gc2, .int .i64 0]).keeps hk4 (fun h => h)
        have hA1 := (YhA1.out.alloc (.cells #[.slice G1 0 Gc1, .slice G2 0 Gc2, .int .i64 0] 25)).keeps hk4 noS
        have hA2 := (YhA2.out.alloc (.cells #[.slice G1 0 Gc1, .slice G2 0 Gc2, .int .i64 0] 25)).keeps hk4 noS
        have hS1 := (YhS1.out.alloc (.cells #[.slice G1 0 Gc1, .slice G2 0 Gc2, .int .i64 0] 25)).keeps hk4 noS
        have hS2 := (YhS2.out.alloc (.cells #[.slice G1 0 Gc1, .slice G2 0 Gc2, .int .i64 0] 25)).keeps hk4 noS
        have hG1 := (YhG1.out.alloc (.cells #[.slice G1 0 Gc1, .slice G2 0 Gc2, .int .i64 0] 25)).keeps hk4 noS
        have hG2 := (YhG2.out.alloc (.cells #[.slice G1 0 Gc1, .slice G2 0 Gc2, .int .i64 0] 25)).keeps hk4 noS
        have hKK := (YhKK.out.alloc (.cells #[.slice G1 0 Gc1, .slice G2 0 Gc2, .int .i64 0] 25)).trans hk4
        have sz4 := hk4.size
        (try simp at sz4)
        clear Yhbb Yhbs YhA1 YhA2 YhS1 YhS2 YhG1 YhG2 YhKK
        have bb0 := hbb.cell 0
        have bb1 := hbb.cell 1
        have bb2 := hbb.cell 2
        simp at bb0 bb1 bb2
        have zbb := hbb.lt
        have bs0 := hbs.cell 0
        have bs1 := hbs.cell 1
        have bs2 := hbs.cell 2
        simp at bs0 bs1 bs2
        have zbs := hbs.lt
        have bg0 := hbg.cell 0
        have bg1 := hbg.cell 1
        have bg2 := hbg.cell 2
        simp at bg0 bg1 bg2
        have zbg := hbg.lt
        have Yhbb := Lib.hid hbb
        have Yhbs := Lib.hid hbs
        have Yhbg := Lib.hid hbg
        have YhA1 := Lib.hid hA1
        have YhA2 := Lib.hid hA2
        have YhS1 := Lib.hid hS1
        have YhS2 := Lib.hid hS2
        have YhG1 := Lib.hid hG1
        have YhG2 := Lib.hid hG2
        have YhKK := Lib.hid hKK
        clear hbb hbs hbg hA1 hA2 hS1 hS2 hG1 hG2 hKK hk4
        go_wp2_with fail
        refine (lwBank_yes G1 G2 S1 S2 _ _ _ _ _ _ 0 [] [] _ (YhG1.out).ints (YhS1.out).ints (YhG2.out).ints (YhS2.out).ints jG1 jG2).mono ?_
        rintro e w5 ⟨rfl, hk5⟩
        clear bb0 bb1 bb2 zbb
        clear bs0 bs1 bs2 zbs
        clear bg0 bg1 bg2 zbg
        have hbb := (Yhbb.out).keeps hk5 (fun h => h)
        have hbs := (Yhbs.out).keeps hk5 (fun h => h)
        have hbg := (Yhbg.out).keeps hk5 (fun h => h)
        have hA1 := (YhA1.out).keeps hk5 noS
        have hA2 := (YhA2.out).keeps hk5 noS
        have hS1 := (YhS1.out).keeps hk5 noS
        have hS2 := (YhS2.out).keeps hk5 noS
        have hG1 := (YhG1.out).keeps hk5 noS
        have hG2 := (YhG2.out).keeps hk5 noS
        have hKK := (YhKK.out).trans hk5
        have sz5 := hk5.size
        (try simp at sz5)
        clear Yhbb Yhbs Yhbg YhA1 YhA2 YhS1 YhS2 YhG1 YhG2 YhKK
        have bb0 := hbb.cell 0
        have bb1 := hbb.cell 1
        have bb2 := hbb.cell 2
        simp at bb0 bb1 bb2
        have zbb := hbb.lt
        have bs0 := hbs.cell 0
        have bs1 := hbs.cell 1
        have bs2 := hbs.cell 2
        simp at bs0 bs1 bs2
        have zbs := hbs.lt
        have bg0 := hbg.cell 0
        have bg1 := hbg.cell 1
        have bg2 := hbg.cell 2
        simp at bg0 bg1 bg2
        have zbg := hbg.lt
        have Yhbb := Lib.hid hbb
        have Yhbs := Lib.hid hbs
        have Yhbg := Lib.hid hbg
        have YhA1 := Lib.hid hA1
        have YhA2 := Lib.hid hA2
        have YhS1 := Lib.hid hS1
        have YhS2 := Lib.hid hS2
        have YhG1 := Lib.hid hG1
        have YhG2 := Lib.hid hG2
        have YhKK := Lib.hid hKK
        clear hbb hbs hbg hA1 hA2 hS1 hS2 hG1 hG2 hKK hk5
        go_wp2
        go_ret
        exact ⟨rfl, YhKK.out.below⟩
    · go_enter Try.func9, Try.ntmps9
      go_wp2
      go_ret
      exact ⟨rfl, Below.refl _ _⟩
  · go_enter Try.func9, Try.ntmps9
    go_wp2
    go_ret
    exact ⟨rfl, Below.refl _ _⟩

namespace awayTwo
set_option maxRecDepth 100000 in
theorem lifted (os : Os) (started : os.Started) (H : Type) (enc : TypeId × Value → H) :
    ReturnsInHanded {} Try.checked os 9 .any (Rows.fnAwayTwoSpec.pre6 enc Try.prog Try.f9 Rows.fnAwayTwoRow.domain false) (Rows.fnAwayTwoSpec.post enc Try.prog Try.f9 false true false false) := by
  refine returnsInHanded_of_change (C := Try.checked) own started (by kernel_rfl) Try.func9
    (ChangeSpec.witness6 (enc := enc) (C := Try.checked) false ⟨#[], #[.slice none 0 0, .slice none 0 0], []⟩ 8 (by kernel_rfl) (by kernel_rfl) (by kernel_rfl) (by kernel_rfl)) ?_
  intro W base args ds gs before hval0 hW hcnd _
  have hval : ∀ (j : Nat) t v, Try.f9.params[j]? = some t → args[j]? = some v → Value.okWide Try.prog W .any base t v := hval0
  have hW' := hW
  obtain ⟨p, q, hA0, hV, rfl, hfz, hnd⟩ := hW
  have hA : DataW.TrodAll enc Try.prog W 0 (fun _ => true) true Try.f9.params.toList args.toList ds p := hA0
  rw [Try.params9 ] at hA hval
  obtain ⟨v0, vs0, d0, ds0, p0, q0, hargs, rfl, rfl, h0, r0⟩ := trodAll_cons hA
  obtain ⟨v1, vs1, d1, ds1, p1, q1, rfl, rfl, rfl, h1, r1⟩ := trodAll_cons r0
  obtain ⟨rfl, rfl, rfl⟩ := trodAll_nil r1
  obtain rfl : args = #[v0, v1] := by cases args; simp_all
  obtain ⟨rfl, rfl⟩ := trodVars_none hV
  obtain ⟨a0, len0, cap0, rfl⟩ := okWide_slice Try.underlying22 (hval 0 22 v0 rfl rfl)
  have k0 := h0
  have lt0 : ∀ x ∈ p0, x.block < W.heap.size := by obtain ⟨m, hm⟩ := k0; exact DataW.trod_lt m _ _ _ hm
  obtain ⟨z0, w0, e0, f0⟩ := bytes_of_trod h0
  obtain ⟨a1, len1, cap1, rfl⟩ := okWide_slice Try.underlying22 (hval 1 22 v1 rfl rfl)
  have k1 := h1
  have lt1 : ∀ x ∈ p1, x.block < W.heap.size := by obtain ⟨m, hm⟩ := k1; exact DataW.trod_lt m _ _ _ hm
  obtain ⟨z1, w1, e1, f1⟩ := bytes_of_trod h1
  clear hA0 hval0
  refine (walk_awayTwo W a0 len0 cap0 z0 w0 e0 f0 a1 len1 cap1 e1 f1).mono fun e W' ⟨he, bel⟩ => ?_
  subst he
  exact ⟨_, rfl, _, _, _, [], _, [], hW', trodAll_mk1 (shut_bool Try.underlying4 _), (trodAll_cons_mk (Below.trod laidOut (by kernel_rfl) (of_decide_eq_true (by kernel_rfl)) k0 bel lt0) (trodAll_cons_mk (Below.trod laidOut (by kernel_rfl) (of_decide_eq_true (by kernel_rfl)) k1 bel lt1) trodAll_mk0)), rfl, bel.frame _, fun h => by cases h⟩

theorem over : Rows.fnAwayTwoRow.holds Try.pinned (OpenSpec.ofChange Rows.fnAwayTwoSpec) :=
  OpenClaim.holds_of_wide 9 Try.f9 rfl rfl rfl rfl rfl rfl rfl ⟨rfl, rfl, rfl, rfl, rfl⟩ rfl rfl rfl rfl rfl (by kernel_rfl) Try.func9 (by kernel_rfl)
    (of_decide_eq_true (by kernel_rfl)) (by unfold Func.isWrapper; first | (rw [if_pos (by decide +kernel)]; kernel_rfl) | (rw [if_neg (by decide +kernel)]; exact ⟨rfl, rfl⟩))
    (fun os started H enc _ => lifted os started H enc)
end awayTwo

theorem fnAwayTwo_holds : Rows.FnAwayTwoSaid := awayTwo.over
#print axioms fnAwayTwo_holds
end Go.Proofs.Ytjbllfnfnkghgab
