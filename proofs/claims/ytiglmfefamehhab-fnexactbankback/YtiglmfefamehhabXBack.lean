/- FnExactBankBack: for every bank and all numbers the law returns true, and the bank reads as it did. No condition. -/
import Derived.Test.YtiglmfefamehhabRows
import Derived.Test.YtiglmfefamehhabSAB
import Derived.Test.YtiglmfefamehhabIAB
import Derived.Test.YtiglmfefamehhabUni
import Derived.Test.YtiglmfefamehhabPure
import Derived.Test.YtiglmfefamehhabTo
import Derived.Test.YtiglmfefamehhabFrame
import Derived.Deep.RegionHeld3
namespace Go.Proofs.Ytiglmfefamehhab
open Go.RowKit Go.ChangeShapes Go.WideShapes Go.ChangeAt

theorem backOk_ok {b : BankL} {k f s : Int} (h : backOk b k f s = true) : okB (backed b k f s) = true := by
  simp only [backOk, Bool.and_eq_true, decide_eq_true_eq] at h
  exact back_ok h.1.1.1.1 h.1.1.1.2 h.1.1.2 h.1.2 h.2
set_option maxHeartbeats 4000000 in
set_option maxRecDepth 100000 in
theorem walk_exactBack (A1 A2 : Option Addr) (n1 n2 c1 c2 : Nat) (L : Int) (xs ys : List Int) (w : World) (ha1 : Ints w A1 n1 xs) (ha2 : Ints w A2 n2 ys)
    (h1 : n1 ≤ maxLen) (h2 : n2 ≤ maxLen) (hL : L ≤ 9223372036854775807) (kd fr sm : Int) (hfr : I64 fr) :
    Calls Try.prog 4 #[.agg #[.slice A1 n1 c1, .slice A2 n2 c2, .int .i64 L], .int .i64 kd, .int .i64 fr, .int .i64 sm] w fun e w' => e = .returned (.bool true) ∧ Below w.heap.size w w' := by
  have HA1 := Lib.hid ha1
  have HA2 := Lib.hid ha2
  clear ha1 ha2
  by_cases hs : (n1 : Int) + n2 ≤ 1048576
  · have noS : ∀ {A : Option Addr} {n : Nat} (b : Nat), blk A n b → ¬ noBlk b := fun _ _ h => h
    have hl1 : xs.length = n1 := HA1.out.1
    have hl2 : ys.length = n2 := HA2.out.1
    have m1 : xs.length ≤ maxLen := by rw [hl1]; exact h1
    have m2 : ys.length ≤ maxLen := by rw [hl2]; exact h2
    have xl : xs.length ≤ 1048576 := by omega
    have yl : ys.length ≤ 1048576 := by omega
    clear hl1 hl2
    obtain ⟨rb, hrb⟩ : ∃ rb, rb = resL (backOk ⟨xs, ys, L⟩ kd fr sm) (backed ⟨xs, ys, L⟩ kd fr sm) := ⟨_, rfl⟩
    have hrl : rb.own.length ≤ 3 ∧ rb.notes.length ≤ 3 := by rw [hrb]; exact resL_len fun h => backOk_ok h
    obtain ⟨ok, hok⟩ : ∃ ok, ok = (backOk ⟨xs, ys, L⟩ kd fr sm) := ⟨_, rfl⟩
    have HSP := Lib.hid (fun (B1 B2 : Option Addr) (b1 b2 d1 d2 : Nat) (W : World) (i1 : Ints W B1 b1 xs) (i2 : Ints W B2 b2 ys) (j1 : b1 ≤ maxLen) (j2 : b2 ≤ maxLen) => (show Calls Try.prog 13 #[.agg #[.slice B1 b1 d1, .slice B2 b2 d2, .int .i64 L], .int .i64 kd, .int .i64 fr, .int .i64 sm] W (RetU W ok rb) from by rw [hok, hrb]; exact (specBack_any B1 B2 b1 b2 d1 d2 L xs ys W i1 i2 j1 j2 hL kd fr sm).mono fun _ _ hr => hr.u))
    have HIM := Lib.hid (fun (B1 B2 : Option Addr) (b1 b2 d1 d2 : Nat) (W : World) (i1 : Ints W B1 b1 xs) (i2 : Ints W B2 b2 ys) (j1 : b1 ≤ maxLen) (j2 : b2 ≤ maxLen) => (show Calls Try.prog 14 #[.agg #[.slice B1 b1 d1, .slice B2 b2 d2, .int .i64 L], .int .i64 kd, .int .i64 fr, .int .i64 sm] W (RetU W ok rb) from by rw [hok, hrb]; exact (implBack_any B1 B2 b1 b2 d1 d2 L xs ys W i1 i2 j1 j2 kd fr sm hfr).mono fun _ _ hr => hr.u))
    clear hok hrb
    obtain ⟨P, Q, K⟩ := rb
    dsimp only at hrl
    go_enter Try.func4, Try.ntmps4
    go_wp2_with fail
    refine (szBank_yes A1 A2 n1 n2 _ _ L 1048576 _ hs (by omega)).mono ?_
    rintro e w1 ⟨rfl, hk1⟩
    have hneg : ¬ (1048576 - (n1 : Int) - (n2 : Int)) < 0 := by omega
    have hba := (Box.new w _ rfl 24 #[.slice A1 n1 c1, .slice A2 n2 c2, .int .i64 L]).keeps hk1 fun h => h
    have hA1 := (HA1.out.alloc (.cells #[.slice A1 n1 c1, .slice A2 n2 c2, .int .i64 L] 24)).keeps hk1 noS
    have hA2 := (HA2.out.alloc (.cells #[.slice A1 n1 c1, .slice A2 n2 c2, .int .i64 L] 24)).keeps hk1 noS
    have hKK := ((Keeps.refl noBlk w).alloc (.cells #[.slice A1 n1 c1, .slice A2 n2 c2, .int .i64 L] 24)).trans hk1
    have sz1 := hk1.size
    simp at sz1
    have ba0 := hba.cell 0
    have ba1 := hba.cell 1
    have ba2 := hba.cell 2
    simp at ba0 ba1 ba2
    have zba := hba.lt
    have Yhba := Lib.hid hba
    have YhA1 := Lib.hid hA1
    have YhA2 := Lib.hid hA2
    have YhKK := Lib.hid hKK
    clear hba hA1 hA2 hKK hk1
    have lA1 : ∀ i, blk A1 n1 i → i < w.heap.size := fun i hi => HA1.out.lt hi
    have lA2 : ∀ i, blk A2 n2 i → i < w.heap.size := fun i hi => HA2.out.lt hi
    go_wp2_with fail
    refine (toBank_any A1 A2 n1 n2 _ _ L xs ys _ YhA1.out YhA2.out (by omega) (by omega)).mono ?_
    rintro e w2 ⟨T1, T2, rfl, ht1, ht2, -, hk2⟩
    clear ba0 ba1 ba2 zba
    have hba := ((Yhba.out)).keeps hk2 (fun h => h)
    have hA1 := ((YhA1.out)).keeps hk2 (noS)
    have hA2 := ((YhA2.out)).keeps hk2 (noS)
    have hKK := ((YhKK.out)).trans hk2
    have sz2 := hk2.size
    (try simp at sz2)
    clear Yhba YhA1 YhA2 YhKK
    have ba0 := hba.cell 0
    have ba1 := hba.cell 1
    have ba2 := hba.cell 2
    simp at ba0 ba1 ba2
    have zba := hba.lt
    have Yhba := Lib.hid hba
    have YhA1 := Lib.hid hA1
    have YhA2 := Lib.hid hA2
    have YhKK := Lib.hid hKK
    clear hba hA1 hA2 hKK hk2
    go_wp2_with fail
    refine (HSP.out T1 T2 _ _ _ _ _ ht1.ints ht2.ints m1 m2).mono ?_
    rintro e w3 ⟨S1, s1, u1, S2, s2, u2, rfl, hS1, hS2, -, js1, js2, hk3⟩
    obtain rfl : P.length = s1 := hS1.1.1
    obtain rfl : Q.length = s2 := hS2.1.1
    have lS1 : ∀ i, blk S1 P.length i → w.heap.size < i ∧ i < w3.heap.size := fun i hi => ⟨by have := hS1.ge hi; omega, hS1.lt hi⟩
    have lS2 : ∀ i, blk S2 Q.length i → w.heap.size < i ∧ i < w3.heap.size := fun i hi => ⟨by have := hS2.ge hi; omega, hS2.lt hi⟩
    clear ht1 ht2 ba0 ba1 ba2 zba
    have hba := ((Yhba.out)).keeps hk3 (fun h => h)
    have hA1 := ((YhA1.out)).keeps hk3 (noS)
    have hA2 := ((YhA2.out)).keeps hk3 (noS)
    have hKK := ((YhKK.out)).trans hk3
    have sz3 := hk3.size
    (try simp at sz3)
    clear Yhba YhA1 YhA2 YhKK
    have ba0 := hba.cell 0
    have ba1 := hba.cell 1
    have ba2 := hba.cell 2
    simp at ba0 ba1 ba2
    have zba := hba.lt
    have Yhba := Lib.hid hba
    have YhA1 := Lib.hid hA1
    have YhA2 := Lib.hid hA2
    have YhS1 := Lib.hid hS1
    have YhS2 := Lib.hid hS2
    have YhKK := Lib.hid hKK
    clear hba hA1 hA2 hS1 hS2 hKK hk3
    go_wp2_with fail
    refine (toBank_any A1 A2 n1 n2 _ _ L xs ys _ (YhA1.out.alloc (.cells #[.slice S1 P.length u1, .slice S2 Q.length u2, .int .i64 K] 26)) (YhA2.out.alloc (.cells #[.slice S1 P.length u1, .slice S2 Q.length u2, .int .i64 K] 26)) (by omega) (by omega)).mono ?_
    rintro e w4 ⟨X1, X2, rfl, hX1, hX2, hXd, hk4⟩
    have lX1 : ∀ i, blk X1 xs.length i → w3.heap.size < i ∧ i < w4.heap.size := fun i hi => ⟨by have := hX1.ge hi; simp at this; omega, hX1.lt hi⟩
    have lX2 : ∀ i, blk X2 ys.length i → w3.heap.size < i ∧ i < w4.heap.size := fun i hi => ⟨by have := hX2.ge hi; simp at this; omega, hX2.lt hi⟩
    clear ba0 ba1 ba2 zba
    have hba := ((Yhba.out.alloc (.cells #[.slice S1 P.length u1, .slice S2 Q.length u2, .int .i64 K] 26))).keeps hk4 (fun h => h)
    have hbs := ((Box.new w3 _ rfl 26 #[.slice S1 P.length u1, .slice S2 Q.length u2, .int .i64 K])).keeps hk4 (fun h => h)
    have hA1 := ((YhA1.out.alloc (.cells #[.slice S1 P.length u1, .slice S2 Q.length u2, .int .i64 K] 26))).keeps hk4 (noS)
    have hA2 := ((YhA2.out.alloc (.cells #[.slice S1 P.length u1, .slice S2 Q.length u2, .int .i64 K] 26))).keeps hk4 (noS)
    have hS1 := ((YhS1.out.alloc (.cells #[.slice S1 P.length u1, .slice S2 Q.length u2, .int .i64 K] 26))).keeps hk4 (noS)
    have hS2 := ((YhS2.out.alloc (.cells #[.slice S1 P.length u1, .slice S2 Q.length u2, .int .i64 K] 26))).keeps hk4 (noS)
    have hKK := ((YhKK.out.alloc (.cells #[.slice S1 P.length u1, .slice S2 Q.length u2, .int .i64 K] 26))).trans hk4
    have sz4 := hk4.size
    (try simp at sz4)
    clear Yhba YhA1 YhA2 YhS1 YhS2 YhKK
    have ba0 := hba.cell 0
    have ba1 := hba.cell 1
    have ba2 := hba.cell 2
    simp at ba0 ba1 ba2
    have zba := hba.lt
    have bs0 := hbs.cell 0
    have bs1 := hbs.cell 1
    have bs2 := hbs.cell 2
    simp at bs0 bs1 bs2
    have zbs := hbs.lt
    have Yhba := Lib.hid hba
    have Yhbs := Lib.hid hbs
    have YhA1 := Lib.hid hA1
    have YhA2 := Lib.hid hA2
    have YhS1 := Lib.hid hS1
    have YhS2 := Lib.hid hS2
    have YhX1 := Lib.hid hX1
    have YhX2 := Lib.hid hX2
    have YhKK := Lib.hid hKK
    clear hba hbs hA1 hA2 hS1 hS2 hX1 hX2 hKK hk4
    have HXD := Lib.hid hXd
    clear hXd
    go_wp2_with fail
    refine (HIM.out X1 X2 _ _ _ _ _ (YhX1.out.alloc (.cells #[.slice X1 xs.length xs.length, .slice X2 ys.length ys.length, .int .i64 L] 26)).ints (YhX2.out.alloc (.cells #[.slice X1 xs.length xs.length, .slice X2 ys.length ys.length, .int .i64 L] 26)).ints m1 m2).mono ?_
    rintro e w5 ⟨G1, g1, v1, G2, g2, v2, rfl, hG1, hG2, hGd, jg1, jg2, hk5⟩
    obtain rfl : P.length = g1 := hG1.1.1
    obtain rfl : Q.length = g2 := hG2.1.1
    have lG1 : ∀ i, blk G1 P.length i → w4.heap.size < i ∧ i < w5.heap.size := fun i hi => ⟨by have := hG1.ge hi; simp at this; omega, hG1.lt hi⟩
    have lG2 : ∀ i, blk G2 Q.length i → w4.heap.size < i ∧ i < w5.heap.size := fun i hi => ⟨by have := hG2.ge hi; simp at this; omega, hG2.lt hi⟩
    clear ba0 ba1 ba2 zba
    clear bs0 bs1 bs2 zbs
    have hba := ((Yhba.out.alloc (.cells #[.slice X1 xs.length xs.length, .slice X2 ys.length ys.length, .int .i64 L] 26))).keeps hk5 (fun h => h)
    have hbs := ((Yhbs.out.alloc (.cells #[.slice X1 xs.length xs.length, .slice X2 ys.length ys.length, .int .i64 L] 26))).keeps hk5 (fun h => h)
    have hbx := ((Box.new w4 _ rfl 26 #[.slice X1 xs.length xs.length, .slice X2 ys.length ys.length, .int .i64 L])).keeps hk5 (fun h => h)
    have hA1 := ((YhA1.out.alloc (.cells #[.slice X1 xs.length xs.length, .slice X2 ys.length ys.length, .int .i64 L] 26))).keeps hk5 (noS)
    have hA2 := ((YhA2.out.alloc (.cells #[.slice X1 xs.length xs.length, .slice X2 ys.length ys.length, .int .i64 L] 26))).keeps hk5 (noS)
    have hS1 := ((YhS1.out.alloc (.cells #[.slice X1 xs.length xs.length, .slice X2 ys.length ys.length, .int .i64 L] 26))).keeps hk5 (noS)
    have hS2 := ((YhS2.out.alloc (.cells #[.slice X1 xs.length xs.length, .slice X2 ys.length ys.length, .int .i64 L] 26))).keeps hk5 (noS)
    have hX1 := ((YhX1.out.alloc (.cells #[.slice X1 xs.length xs.length, .slice X2 ys.length ys.length, .int .i64 L] 26))).keeps hk5 (noS)
    have hX2 := ((YhX2.out.alloc (.cells #[.slice X1 xs.length xs.length, .slice X2 ys.length ys.length, .int .i64 L] 26))).keeps hk5 (noS)
    have hKK := ((YhKK.out.alloc (.cells #[.slice X1 xs.length xs.length, .slice X2 ys.length ys.length, .int .i64 L] 26))).trans hk5
    have sz5 := hk5.size
    (try simp at sz5)
    clear Yhba Yhbs YhA1 YhA2 YhS1 YhS2 YhX1 YhX2 YhKK
    have ba0 := hba.cell 0
    have ba1 := hba.cell 1
    have ba2 := hba.cell 2
    simp at ba0 ba1 ba2
    have zba := hba.lt
    have bs0 := hbs.cell 0
    have bs1 := hbs.cell 1
    have bs2 := hbs.cell 2
    simp at bs0 bs1 bs2
    have zbs := hbs.lt
    have bx0 := hbx.cell 0
    have bx1 := hbx.cell 1
    have bx2 := hbx.cell 2
    simp at bx0 bx1 bx2
    have zbx := hbx.lt
    have Yhba := Lib.hid hba
    have Yhbs := Lib.hid hbs
    have Yhbx := Lib.hid hbx
    have YhA1 := Lib.hid hA1
    have YhA2 := Lib.hid hA2
    have YhS1 := Lib.hid hS1
    have YhS2 := Lib.hid hS2
    have YhX1 := Lib.hid hX1
    have YhX2 := Lib.hid hX2
    have YhG1 := Lib.hid hG1
    have YhG2 := Lib.hid hG2
    have YhKK := Lib.hid hKK
    clear hba hbs hbx hA1 hA2 hS1 hS2 hX1 hX2 hG1 hG2 hKK hk5
    have HGD := Lib.hid hGd
    clear hGd
    go_wp2_with fail
    refine (eqBank_yes G1 G2 S1 S2 _ _ _ _ _ _ K P Q _ (YhG1.out.alloc (.cells #[.slice G1 P.length v1, .slice G2 Q.length v2, .int .i64 K] 26)).ints (YhS1.out.alloc (.cells #[.slice G1 P.length v1, .slice G2 Q.length v2, .int .i64 K] 26)).ints (YhG2.out.alloc (.cells #[.slice G1 P.length v1, .slice G2 Q.length v2, .int .i64 K] 26)).ints (YhS2.out.alloc (.cells #[.slice G1 P.length v1, .slice G2 Q.length v2, .int .i64 K] 26)).ints js1 js2).mono ?_
    rintro e w6 ⟨rfl, hk6⟩
    clear ba0 ba1 ba2 zba
    clear bs0 bs1 bs2 zbs
    clear bx0 bx1 bx2 zbx
    have hba := ((Yhba.out.alloc (.cells #[.slice G1 P.length v1, .slice G2 Q.length v2, .int .i64 K] 26))).keeps hk6 (fun h => h)
    have hbs := ((Yhbs.out.alloc (.cells #[.slice G1 P.length v1, .slice G2 Q.length v2, .int .i64 K] 26))).keeps hk6 (fun h => h)
    have hbx := ((Yhbx.out.alloc (.cells #[.slice G1 P.length v1, .slice G2 Q.length v2, .int .i64 K] 26))).keeps hk6 (fun h => h)
    have hbg := ((Box.new w5 _ rfl 26 #[.slice G1 P.length v1, .slice G2 Q.length v2, .int .i64 K])).keeps hk6 (fun h => h)
    have hA1 := ((YhA1.out.alloc (.cells #[.slice G1 P.length v1, .slice G2 Q.length v2, .int .i64 K] 26))).keeps hk6 (noS)
    have hA2 := ((YhA2.out.alloc (.cells #[.slice G1 P.length v1, .slice G2 Q.length v2, .int .i64 K] 26))).keeps hk6 (noS)
    have hS1 := ((YhS1.out.alloc (.cells #[.slice G1 P.length v1, .slice G2 Q.length v2, .int .i64 K] 26))).keeps hk6 (noS)
    have hS2 := ((YhS2.out.alloc (.cells #[.slice G1 P.length v1, .slice G2 Q.length v2, .int .i64 K] 26))).keeps hk6 (noS)
    have hX1 := ((YhX1.out.alloc (.cells #[.slice G1 P.length v1, .slice G2 Q.length v2, .int .i64 K] 26))).keeps hk6 (noS)
    have hX2 := ((YhX2.out.alloc (.cells #[.slice G1 P.length v1, .slice G2 Q.length v2, .int .i64 K] 26))).keeps hk6 (noS)
    have hG1 := ((YhG1.out.alloc (.cells #[.slice G1 P.length v1, .slice G2 Q.length v2, .int .i64 K] 26))).keeps hk6 (noS)
    have hG2 := ((YhG2.out.alloc (.cells #[.slice G1 P.length v1, .slice G2 Q.length v2, .int .i64 K] 26))).keeps hk6 (noS)
    have hKK := ((YhKK.out.alloc (.cells #[.slice G1 P.length v1, .slice G2 Q.length v2, .int .i64 K] 26))).trans hk6
    have sz6 := hk6.size
    (try simp at sz6)
    clear Yhba Yhbs Yhbx YhA1 YhA2 YhS1 YhS2 YhX1 YhX2 YhG1 YhG2 YhKK
    have ba0 := hba.cell 0
    have ba1 := hba.cell 1
    have ba2 := hba.cell 2
    simp at ba0 ba1 ba2
    have zba := hba.lt
    have bs0 := hbs.cell 0
    have bs1 := hbs.cell 1
    have bs2 := hbs.cell 2
    simp at bs0 bs1 bs2
    have zbs := hbs.lt
    have bx0 := hbx.cell 0
    have bx1 := hbx.cell 1
    have bx2 := hbx.cell 2
    simp at bx0 bx1 bx2
    have zbx := hbx.lt
    have bg0 := hbg.cell 0
    have bg1 := hbg.cell 1
    have bg2 := hbg.cell 2
    simp at bg0 bg1 bg2
    have zbg := hbg.lt
    have Yhba := Lib.hid hba
    have Yhbs := Lib.hid hbs
    have Yhbx := Lib.hid hbx
    have Yhbg := Lib.hid hbg
    have YhA1 := Lib.hid hA1
    have YhA2 := Lib.hid hA2
    have YhS1 := Lib.hid hS1
    have YhS2 := Lib.hid hS2
    have YhX1 := Lib.hid hX1
    have YhX2 := Lib.hid hX2
    have YhG1 := Lib.hid hG1
    have YhG2 := Lib.hid hG2
    have YhKK := Lib.hid hKK
    clear hba hbs hbx hbg hA1 hA2 hS1 hS2 hX1 hX2 hG1 hG2 hKK
    have HK6 := Lib.hid hk6
    clear hk6
    go_wp2_with fail
    go_region_held3 (fun w' => w'.cell? ⟨w4.heap.size, 0, none⟩ = some (.slice X1 xs.length xs.length) ∧ w'.cell? ⟨w4.heap.size, 1, none⟩ = some (.slice X2 ys.length ys.length) ∧ w'.cell? ⟨w4.heap.size, 2, none⟩ = some (.int .i64 L) ∧ w'.cell? ⟨w.heap.size, 0, none⟩ = some (.slice A1 n1 c1) ∧ w'.cell? ⟨w.heap.size, 1, none⟩ = some (.slice A2 n2 c2) ∧ w'.cell? ⟨w.heap.size, 2, none⟩ = some (.int .i64 L))
      (((try dsimp only); (repeat' apply And.intro) <;> (first | with_reducible assumption | (go_keep; done))))
      (first | (go_at_call 8; refine (toBank_any A1 A2 n1 n2 _ _ L xs ys _ (YhA1.out.drewN 1) (YhA2.out.drewN 1) (by omega) (by omega)).mono ?_; rintro e w7 ⟨D1, D2, rfl, hD1, hD2, -, hk7⟩; have hbx7 := (Yhbx.out.drewN 1).keeps hk7 fun h => h; have bx0 := hbx7.cell 0; have bx1 := hbx7.cell 1; have bx2 := hbx7.cell 2; simp at bx0 bx1 bx2; have hba7 := (Yhba.out.drewN 1).keeps hk7 fun h => h; have ba0 := hba7.cell 0; have ba1 := hba7.cell 1; have ba2 := hba7.cell 2; simp at ba0 ba1 ba2; have Ybx7 := Lib.hid hbx7; have Yba7 := Lib.hid hba7; clear hbx7 hba7) | (go_at_call 10; refine (eqBank_yes X1 X2 D1 D2 _ _ _ _ _ _ L xs ys _ ((YhX1.out.drewN 1).keeps hk7 noS).ints hD1.ints ((YhX2.out.drewN 1).keeps hk7 noS).ints hD2.ints m1 m2).mono ?_; rintro e w8 ⟨rfl, hk8⟩; have hbx8 := (Ybx7.out).keeps hk8 fun h => h; have bx0 := hbx8.cell 0; have bx1 := hbx8.cell 1; have bx2 := hbx8.cell 2; simp at bx0 bx1 bx2; have hba8 := (Yba7.out).keeps hk8 fun h => h; have ba0 := hba8.cell 0; have ba1 := hba8.cell 1; have ba2 := hba8.cell 2; simp at ba0 ba1 ba2; have Ybx8 := Lib.hid hbx8; have Yba8 := Lib.hid hba8; clear hbx8 hba8))
    clear bs0 bs1 bs2 bg0 bg1 bg2 ba0 ba1 ba2 bx0 bx1 bx2 zba zbs zbx zbg Ybx7 Yba7 Ybx8 Yba8
    have hk78 := hk7.trans hk8
    have hba := (Yhba.out.drewN 1).keeps hk78 (fun h => h)
    have hbs := (Yhbs.out.drewN 1).keeps hk78 (fun h => h)
    have hbx := (Yhbx.out.drewN 1).keeps hk78 (fun h => h)
    have hbg := (Yhbg.out.drewN 1).keeps hk78 (fun h => h)
    have hA1 := (YhA1.out.drewN 1).keeps hk78 noS
    have hA2 := (YhA2.out.drewN 1).keeps hk78 noS
    have hS1 := (YhS1.out.drewN 1).keeps hk78 noS
    have hS2 := (YhS2.out.drewN 1).keeps hk78 noS
    have hX1 := (YhX1.out.drewN 1).keeps hk78 noS
    have hX2 := (YhX2.out.drewN 1).keeps hk78 noS
    have hG1 := (YhG1.out.drewN 1).keeps hk78 noS
    have hG2 := (YhG2.out.drewN 1).keeps hk78 noS
    have hKK := (YhKK.out.drewN 1).trans hk78
    have sz8 := hk78.size
    (try simp at sz8)
    clear Yhba Yhbs Yhbx Yhbg YhA1 YhA2 YhS1 YhS2 YhX1 YhX2 YhG1 YhG2 YhKK hk7 hk8 hD1 hD2
    have ba0 := hba.cell 0
    have ba1 := hba.cell 1
    have ba2 := hba.cell 2
    simp at ba0 ba1 ba2
    have zba := hba.lt
    have bs0 := hbs.cell 0
    have bs1 := hbs.cell 1
    have bs2 := hbs.cell 2
    simp at bs0 bs1 bs2
    have zbs := hbs.lt
    have bx0 := hbx.cell 0
    have bx1 := hbx.cell 1
    have bx2 := hbx.cell 2
    simp at bx0 bx1 bx2
    have zbx := hbx.lt
    have bg0 := hbg.cell 0
    have bg1 := hbg.cell 1
    have bg2 := hbg.cell 2
    simp at bg0 bg1 bg2
    have zbg := hbg.lt
    have Yhba := Lib.hid hba
    have Yhbs := Lib.hid hbs
    have Yhbx := Lib.hid hbx
    have Yhbg := Lib.hid hbg
    have YhA1 := Lib.hid hA1
    have YhA2 := Lib.hid hA2
    have YhS1 := Lib.hid hS1
    have YhS2 := Lib.hid hS2
    have YhX1 := Lib.hid hX1
    have YhX2 := Lib.hid hX2
    have YhG1 := Lib.hid hG1
    have YhG2 := Lib.hid hG2
    have YhKK := Lib.hid hKK
    clear hba hbs hbx hbg hA1 hA2 hS1 hS2 hX1 hX2 hG1 hG2 hKK hk78
    go_wp2_with fail
    refine (markBank_any X1 X2 _ _ _ _ _ L 1 xs ys _ YhX1.out YhX2.out HXD.out (by omega) (by omega)).mono ?_
    rintro e w9 ⟨rfl, hX1, hX2, hk9⟩
    clear ba0 ba1 ba2 zba
    clear bs0 bs1 bs2 zbs
    clear bx0 bx1 bx2 zbx
    clear bg0 bg1 bg2 zbg
    clear YhX1 YhX2
    have hk9' := hk9
    clear hk9'
    have hba := ((Yhba.out)).keeps hk9 (fun h => by rcases h with h | h; (have := lX1 _ h; omega); (have := lX2 _ h; omega))
    have hbs := ((Yhbs.out)).keeps hk9 (fun h => by rcases h with h | h; (have := lX1 _ h; omega); (have := lX2 _ h; omega))
    have hbx := ((Yhbx.out)).keeps hk9 (fun h => by rcases h with h | h; (have := lX1 _ h; omega); (have := lX2 _ h; omega))
    have hbg := ((Yhbg.out)).keeps hk9 (fun h => by rcases h with h | h; (have := lX1 _ h; omega); (have := lX2 _ h; omega))
    have hA1 := ((YhA1.out)).keeps hk9 (fun i hi h => by have hb := lA1 i hi; rcases h with h | h; (have := lX1 _ h; omega); (have := lX2 _ h; omega))
    have hA2 := ((YhA2.out)).keeps hk9 (fun i hi h => by have hb := lA2 i hi; rcases h with h | h; (have := lX1 _ h; omega); (have := lX2 _ h; omega))
    have hS1 := ((YhS1.out)).keeps hk9 (fun i hi h => by have hb := lS1 i hi; rcases h with h | h; (have := lX1 _ h; omega); (have := lX2 _ h; omega))
    have hS2 := ((YhS2.out)).keeps hk9 (fun i hi h => by have hb := lS2 i hi; rcases h with h | h; (have := lX1 _ h; omega); (have := lX2 _ h; omega))
    have hG1 := ((YhG1.out)).keeps hk9 (fun i hi h => by have hb := lG1 i hi; rcases h with h | h; (have := lX1 _ h; omega); (have := lX2 _ h; omega))
    have hG2 := ((YhG2.out)).keeps hk9 (fun i hi h => by have hb := lG2 i hi; rcases h with h | h; (have := lX1 _ h; omega); (have := lX2 _ h; omega))
    have hKK := ((YhKK.out)).then hk9 fun i hi h => by rcases h with h | h; (have := lX1 _ h; omega); (have := lX2 _ h; omega)
    have sz9 := hk9.size
    (try simp at sz9)
    clear Yhba Yhbs Yhbx Yhbg YhA1 YhA2 YhS1 YhS2 YhG1 YhG2 YhKK
    have hkneg : ¬ (1 : Int) + (xs.length : Int) + (ys.length : Int) < 0 := by omega
    have ba0 := hba.cell 0
    have ba1 := hba.cell 1
    have ba2 := hba.cell 2
    simp at ba0 ba1 ba2
    have zba := hba.lt
    have bs0 := hbs.cell 0
    have bs1 := hbs.cell 1
    have bs2 := hbs.cell 2
    simp at bs0 bs1 bs2
    have zbs := hbs.lt
    have bx0 := hbx.cell 0
    have bx1 := hbx.cell 1
    have bx2 := hbx.cell 2
    simp at bx0 bx1 bx2
    have zbx := hbx.lt
    have bg0 := hbg.cell 0
    have bg1 := hbg.cell 1
    have bg2 := hbg.cell 2
    simp at bg0 bg1 bg2
    have zbg := hbg.lt
    have Yhba := Lib.hid hba
    have Yhbs := Lib.hid hbs
    have Yhbx := Lib.hid hbx
    have Yhbg := Lib.hid hbg
    have YhA1 := Lib.hid hA1
    have YhA2 := Lib.hid hA2
    have YhS1 := Lib.hid hS1
    have YhS2 := Lib.hid hS2
    have YhG1 := Lib.hid hG1
    have YhG2 := Lib.hid hG2
    have YhKK := Lib.hid hKK
    clear hba hbs hbx hbg hA1 hA2 hS1 hS2 hG1 hG2 hKK hk9 hX1 hX2
    go_wp2_with fail
    refine (eqBank_yes G1 G2 S1 S2 _ _ _ _ _ _ K P Q _ YhG1.out.ints YhS1.out.ints YhG2.out.ints YhS2.out.ints js1 js2).mono ?_
    rintro e w10 ⟨rfl, hk10⟩
    clear ba0 ba1 ba2 zba
    clear bs0 bs1 bs2 zbs
    clear bx0 bx1 bx2 zbx
    clear bg0 bg1 bg2 zbg
    have hba := ((Yhba.out)).keeps hk10 (fun h => h)
    have hbs := ((Yhbs.out)).keeps hk10 (fun h => h)
    have hbx := ((Yhbx.out)).keeps hk10 (fun h => h)
    have hbg := ((Yhbg.out)).keeps hk10 (fun h => h)
    have hA1 := ((YhA1.out)).keeps hk10 (noS)
    have hA2 := ((YhA2.out)).keeps hk10 (noS)
    have hS1 := ((YhS1.out)).keeps hk10 (noS)
    have hS2 := ((YhS2.out)).keeps hk10 (noS)
    have hG1 := ((YhG1.out)).keeps hk10 (noS)
    have hG2 := ((YhG2.out)).keeps hk10 (noS)
    have hKK := ((YhKK.out)).trans hk10
    have sz10 := hk10.size
    (try simp at sz10)
    clear Yhba Yhbs Yhbx Yhbg YhA1 YhA2 YhS1 YhS2 YhG1 YhG2 YhKK
    have ba0 := hba.cell 0
    have ba1 := hba.cell 1
    have ba2 := hba.cell 2
    simp at ba0 ba1 ba2
    have zba := hba.lt
    have bs0 := hbs.cell 0
    have bs1 := hbs.cell 1
    have bs2 := hbs.cell 2
    simp at bs0 bs1 bs2
    have zbs := hbs.lt
    have bx0 := hbx.cell 0
    have bx1 := hbx.cell 1
    have bx2 := hbx.cell 2
    simp at bx0 bx1 bx2
    have zbx := hbx.lt
    have bg0 := hbg.cell 0
    have bg1 := hbg.cell 1
    have bg2 := hbg.cell 2
    simp at bg0 bg1 bg2
    have zbg := hbg.lt
    have Yhba := Lib.hid hba
    have Yhbs := Lib.hid hbs
    have Yhbx := Lib.hid hbx
    have Yhbg := Lib.hid hbg
    have YhA1 := Lib.hid hA1
    have YhA2 := Lib.hid hA2
    have YhS1 := Lib.hid hS1
    have YhS2 := Lib.hid hS2
    have YhG1 := Lib.hid hG1
    have YhG2 := Lib.hid hG2
    have YhKK := Lib.hid hKK
    clear hba hbs hbx hbg hA1 hA2 hS1 hS2 hG1 hG2 hKK hk10
    go_wp2_with fail
    refine (markBank_any G1 G2 _ _ _ _ _ K 1 P Q _ YhG1.out YhG2.out HGD.out (by omega) (by omega)).mono ?_
    rintro e w11 ⟨rfl, hG1, hG2, hk11⟩
    clear ba0 ba1 ba2 zba
    clear bs0 bs1 bs2 zbs
    clear bx0 bx1 bx2 zbx
    clear bg0 bg1 bg2 zbg
    clear YhG1 YhG2
    have hba := ((Yhba.out)).keeps hk11 (fun h => by rcases h with h | h; (have := lG1 _ h; omega); (have := lG2 _ h; omega))
    have hbs := ((Yhbs.out)).keeps hk11 (fun h => by rcases h with h | h; (have := lG1 _ h; omega); (have := lG2 _ h; omega))
    have hbx := ((Yhbx.out)).keeps hk11 (fun h => by rcases h with h | h; (have := lG1 _ h; omega); (have := lG2 _ h; omega))
    have hbg := ((Yhbg.out)).keeps hk11 (fun h => by rcases h with h | h; (have := lG1 _ h; omega); (have := lG2 _ h; omega))
    have hA1 := ((YhA1.out)).keeps hk11 (fun i hi h => by have hb := lA1 i hi; rcases h with h | h; (have := lG1 _ h; omega); (have := lG2 _ h; omega))
    have hA2 := ((YhA2.out)).keeps hk11 (fun i hi h => by have hb := lA2 i hi; rcases h with h | h; (have := lG1 _ h; omega); (have := lG2 _ h; omega))
    have hS1 := ((YhS1.out)).keeps hk11 (fun i hi h => by have hb := lS1 i hi; rcases h with h | h; (have := lG1 _ h; omega); (have := lG2 _ h; omega))
    have hS2 := ((YhS2.out)).keeps hk11 (fun i hi h => by have hb := lS2 i hi; rcases h with h | h; (have := lG1 _ h; omega); (have := lG2 _ h; omega))
    have hKK := ((YhKK.out)).then hk11 fun i hi h => by rcases h with h | h; (have := lG1 _ h; omega); (have := lG2 _ h; omega)
    have sz11 := hk11.size
    (try simp at sz11)
    clear Yhba Yhbs Yhbx Yhbg YhA1 YhA2 YhS1 YhS2 YhKK
    have hmneg : ¬ (1 : Int) + (P.length : Int) + (Q.length : Int) < 0 := by omega
    have ba0 := hba.cell 0
    have ba1 := hba.cell 1
    have ba2 := hba.cell 2
    simp at ba0 ba1 ba2
    have zba := hba.lt
    have bs0 := hbs.cell 0
    have bs1 := hbs.cell 1
    have bs2 := hbs.cell 2
    simp at bs0 bs1 bs2
    have zbs := hbs.lt
    have bx0 := hbx.cell 0
    have bx1 := hbx.cell 1
    have bx2 := hbx.cell 2
    simp at bx0 bx1 bx2
    have zbx := hbx.lt
    have bg0 := hbg.cell 0
    have bg1 := hbg.cell 1
    have bg2 := hbg.cell 2
    simp at bg0 bg1 bg2
    have zbg := hbg.lt
    have Yhba := Lib.hid hba
    have Yhbs := Lib.hid hbs
    have Yhbx := Lib.hid hbx
    have Yhbg := Lib.hid hbg
    have YhA1 := Lib.hid hA1
    have YhA2 := Lib.hid hA2
    have YhS1 := Lib.hid hS1
    have YhS2 := Lib.hid hS2
    have YhG1 := Lib.hid hG1
    have YhG2 := Lib.hid hG2
    have YhKK := Lib.hid hKK
    clear hba hbs hbx hbg hA1 hA2 hS1 hS2 hG1 hG2 hKK hk11
    go_wp2_with fail
    refine (heldBank_any G1 G2 _ _ _ _ K 1 _ YhG1.out.ints YhG2.out.ints (by omega) (by omega)).mono ?_
    rintro e w12 ⟨rfl, hk12⟩
    clear ba0 ba1 ba2 zba
    clear bs0 bs1 bs2 zbs
    clear bx0 bx1 bx2 zbx
    clear bg0 bg1 bg2 zbg
    have hba := ((Yhba.out)).keeps hk12 (fun h => h)
    have hbs := ((Yhbs.out)).keeps hk12 (fun h => h)
    have hbx := ((Yhbx.out)).keeps hk12 (fun h => h)
    have hbg := ((Yhbg.out)).keeps hk12 (fun h => h)
    have hA1 := ((YhA1.out)).keeps hk12 (noS)
    have hA2 := ((YhA2.out)).keeps hk12 (noS)
    have hS1 := ((YhS1.out)).keeps hk12 (noS)
    have hS2 := ((YhS2.out)).keeps hk12 (noS)
    have hG1 := ((YhG1.out)).keeps hk12 (noS)
    have hG2 := ((YhG2.out)).keeps hk12 (noS)
    have hKK := ((YhKK.out)).trans hk12
    have sz12 := hk12.size
    (try simp at sz12)
    clear Yhba Yhbs Yhbx Yhbg YhA1 YhA2 YhS1 YhS2 YhG1 YhG2 YhKK
    have ba0 := hba.cell 0
    have ba1 := hba.cell 1
    have ba2 := hba.cell 2
    simp at ba0 ba1 ba2
    have zba := hba.lt
    have bs0 := hbs.cell 0
    have bs1 := hbs.cell 1
    have bs2 := hbs.cell 2
    simp at bs0 bs1 bs2
    have zbs := hbs.lt
    have bx0 := hbx.cell 0
    have bx1 := hbx.cell 1
    have bx2 := hbx.cell 2
    simp at bx0 bx1 bx2
    have zbx := hbx.lt
    have bg0 := hbg.cell 0
    have bg1 := hbg.cell 1
    have bg2 := hbg.cell 2
    simp at bg0 bg1 bg2
    have zbg := hbg.lt
    have Yhba := Lib.hid hba
    have Yhbs := Lib.hid hbs
    have Yhbx := Lib.hid hbx
    have Yhbg := Lib.hid hbg
    have YhA1 := Lib.hid hA1
    have YhA2 := Lib.hid hA2
    have YhS1 := Lib.hid hS1
    have YhS2 := Lib.hid hS2
    have YhG1 := Lib.hid hG1
    have YhG2 := Lib.hid hG2
    have YhKK := Lib.hid hKK
    clear hba hbs hbx hbg hA1 hA2 hS1 hS2 hG1 hG2 hKK hk12
    go_wp2_with fail
    refine (toBank_any A1 A2 n1 n2 _ _ L xs ys _ YhA1.out YhA2.out (by omega) (by omega)).mono ?_
    rintro e w13 ⟨E1, E2, rfl, hE1, hE2, -, hk13⟩
    clear ba0 ba1 ba2 zba
    clear bs0 bs1 bs2 zbs
    clear bx0 bx1 bx2 zbx
    clear bg0 bg1 bg2 zbg
    have hba := ((Yhba.out)).keeps hk13 (fun h => h)
    have hbs := ((Yhbs.out)).keeps hk13 (fun h => h)
    have hbx := ((Yhbx.out)).keeps hk13 (fun h => h)
    have hbg := ((Yhbg.out)).keeps hk13 (fun h => h)
    have hA1 := ((YhA1.out)).keeps hk13 (noS)
    have hA2 := ((YhA2.out)).keeps hk13 (noS)
    have hS1 := ((YhS1.out)).keeps hk13 (noS)
    have hS2 := ((YhS2.out)).keeps hk13 (noS)
    have hG1 := ((YhG1.out)).keeps hk13 (noS)
    have hG2 := ((YhG2.out)).keeps hk13 (noS)
    have hKK := ((YhKK.out)).trans hk13
    have sz13 := hk13.size
    (try simp at sz13)
    clear Yhba Yhbs Yhbx Yhbg YhA1 YhA2 YhS1 YhS2 YhG1 YhG2 YhKK
    have ba0 := hba.cell 0
    have ba1 := hba.cell 1
    have ba2 := hba.cell 2
    simp at ba0 ba1 ba2
    have zba := hba.lt
    have bs0 := hbs.cell 0
    have bs1 := hbs.cell 1
    have bs2 := hbs.cell 2
    simp at bs0 bs1 bs2
    have zbs := hbs.lt
    have bx0 := hbx.cell 0
    have bx1 := hbx.cell 1
    have bx2 := hbx.cell 2
    simp at bx0 bx1 bx2
    have zbx := hbx.lt
    have bg0 := hbg.cell 0
    have bg1 := hbg.cell 1
    have bg2 := hbg.cell 2
    simp at bg0 bg1 bg2
    have zbg := hbg.lt
    have Yhba := Lib.hid hba
    have Yhbs := Lib.hid hbs
    have Yhbx := Lib.hid hbx
    have Yhbg := Lib.hid hbg
    have YhA1 := Lib.hid hA1
    have YhA2 := Lib.hid hA2
    have YhS1 := Lib.hid hS1
    have YhS2 := Lib.hid hS2
    have YhG1 := Lib.hid hG1
    have YhG2 := Lib.hid hG2
    have YhKK := Lib.hid hKK
    clear hba hbs hbx hbg hA1 hA2 hS1 hS2 hG1 hG2 hKK hk13
    go_wp2_with fail
    refine (HIM.out E1 E2 _ _ _ _ _ hE1.ints hE2.ints m1 m2).mono ?_
    rintro e w14 ⟨H1, q1', o1, H2, q2', o2, rfl, hH1, hH2, -, jh1, jh2, hk14⟩
    obtain rfl : P.length = q1' := hH1.1.1
    obtain rfl : Q.length = q2' := hH2.1.1
    clear hE1 hE2
    clear ba0 ba1 ba2 zba
    clear bs0 bs1 bs2 zbs
    clear bx0 bx1 bx2 zbx
    clear bg0 bg1 bg2 zbg
    have hba := ((Yhba.out)).keeps hk14 (fun h => h)
    have hbs := ((Yhbs.out)).keeps hk14 (fun h => h)
    have hbx := ((Yhbx.out)).keeps hk14 (fun h => h)
    have hbg := ((Yhbg.out)).keeps hk14 (fun h => h)
    have hA1 := ((YhA1.out)).keeps hk14 (noS)
    have hA2 := ((YhA2.out)).keeps hk14 (noS)
    have hS1 := ((YhS1.out)).keeps hk14 (noS)
    have hS2 := ((YhS2.out)).keeps hk14 (noS)
    have hG1 := ((YhG1.out)).keeps hk14 (noS)
    have hG2 := ((YhG2.out)).keeps hk14 (noS)
    have hKK := ((YhKK.out)).trans hk14
    have sz14 := hk14.size
    (try simp at sz14)
    clear Yhba Yhbs Yhbx Yhbg YhA1 YhA2 YhS1 YhS2 YhG1 YhG2 YhKK
    have ba0 := hba.cell 0
    have ba1 := hba.cell 1
    have ba2 := hba.cell 2
    simp at ba0 ba1 ba2
    have zba := hba.lt
    have bs0 := hbs.cell 0
    have bs1 := hbs.cell 1
    have bs2 := hbs.cell 2
    simp at bs0 bs1 bs2
    have zbs := hbs.lt
    have bx0 := hbx.cell 0
    have bx1 := hbx.cell 1
    have bx2 := hbx.cell 2
    simp at bx0 bx1 bx2
    have zbx := hbx.lt
    have bg0 := hbg.cell 0
    have bg1 := hbg.cell 1
    have bg2 := hbg.cell 2
    simp at bg0 bg1 bg2
    have zbg := hbg.lt
    have Yhba := Lib.hid hba
    have Yhbs := Lib.hid hbs
    have Yhbx := Lib.hid hbx
    have Yhbg := Lib.hid hbg
    have YhA1 := Lib.hid hA1
    have YhA2 := Lib.hid hA2
    have YhS1 := Lib.hid hS1
    have YhS2 := Lib.hid hS2
    have YhG1 := Lib.hid hG1
    have YhG2 := Lib.hid hG2
    have YhH1 := Lib.hid hH1
    have YhH2 := Lib.hid hH2
    have YhKK := Lib.hid hKK
    clear hba hbs hbx hbg hA1 hA2 hS1 hS2 hG1 hG2 hH1 hH2 hKK hk14
    go_wp2_with fail
    refine (eqBank_yes H1 H2 S1 S2 _ _ _ _ _ _ K P Q _ (YhH1.out.alloc (.cells #[.slice H1 P.length o1, .slice H2 Q.length o2, .int .i64 K] 26)).ints (YhS1.out.alloc (.cells #[.slice H1 P.length o1, .slice H2 Q.length o2, .int .i64 K] 26)).ints (YhH2.out.alloc (.cells #[.slice H1 P.length o1, .slice H2 Q.length o2, .int .i64 K] 26)).ints (YhS2.out.alloc (.cells #[.slice H1 P.length o1, .slice H2 Q.length o2, .int .i64 K] 26)).ints js1 js2).mono ?_
    rintro e w15 ⟨rfl, hk15⟩
    clear ba0 ba1 ba2 zba
    clear bs0 bs1 bs2 zbs
    clear bx0 bx1 bx2 zbx
    clear bg0 bg1 bg2 zbg
    have hba := ((Yhba.out.alloc (.cells #[.slice H1 P.length o1, .slice H2 Q.length o2, .int .i64 K] 26))).keeps hk15 (fun h => h)
    have hbs := ((Yhbs.out.alloc (.cells #[.slice H1 P.length o1, .slice H2 Q.length o2, .int .i64 K] 26))).keeps hk15 (fun h => h)
    have hbx := ((Yhbx.out.alloc (.cells #[.slice H1 P.length o1, .slice H2 Q.length o2, .int .i64 K] 26))).keeps hk15 (fun h => h)
    have hbg := ((Yhbg.out.alloc (.cells #[.slice H1 P.length o1, .slice H2 Q.length o2, .int .i64 K] 26))).keeps hk15 (fun h => h)
    have hbh := ((Box.new w14 _ rfl 26 #[.slice H1 P.length o1, .slice H2 Q.length o2, .int .i64 K])).keeps hk15 (fun h => h)
    have hA1 := ((YhA1.out.alloc (.cells #[.slice H1 P.length o1, .slice H2 Q.length o2, .int .i64 K] 26))).keeps hk15 (noS)
    have hA2 := ((YhA2.out.alloc (.cells #[.slice H1 P.length o1, .slice H2 Q.length o2, .int .i64 K] 26))).keeps hk15 (noS)
    have hS1 := ((YhS1.out.alloc (.cells #[.slice H1 P.length o1, .slice H2 Q.length o2, .int .i64 K] 26))).keeps hk15 (noS)
    have hS2 := ((YhS2.out.alloc (.cells #[.slice H1 P.length o1, .slice H2 Q.length o2, .int .i64 K] 26))).keeps hk15 (noS)
    have hG1 := ((YhG1.out.alloc (.cells #[.slice H1 P.length o1, .slice H2 Q.length o2, .int .i64 K] 26))).keeps hk15 (noS)
    have hG2 := ((YhG2.out.alloc (.cells #[.slice H1 P.length o1, .slice H2 Q.length o2, .int .i64 K] 26))).keeps hk15 (noS)
    have hH1 := ((YhH1.out.alloc (.cells #[.slice H1 P.length o1, .slice H2 Q.length o2, .int .i64 K] 26))).keeps hk15 (noS)
    have hH2 := ((YhH2.out.alloc (.cells #[.slice H1 P.length o1, .slice H2 Q.length o2, .int .i64 K] 26))).keeps hk15 (noS)
    have hKK := ((YhKK.out.alloc (.cells #[.slice H1 P.length o1, .slice H2 Q.length o2, .int .i64 K] 26))).trans hk15
    have sz15 := hk15.size
    (try simp at sz15)
    clear Yhba Yhbs Yhbx Yhbg YhA1 YhA2 YhS1 YhS2 YhG1 YhG2 YhH1 YhH2 YhKK
    have ba0 := hba.cell 0
    have ba1 := hba.cell 1
    have ba2 := hba.cell 2
    simp at ba0 ba1 ba2
    have zba := hba.lt
    have bs0 := hbs.cell 0
    have bs1 := hbs.cell 1
    have bs2 := hbs.cell 2
    simp at bs0 bs1 bs2
    have zbs := hbs.lt
    have bx0 := hbx.cell 0
    have bx1 := hbx.cell 1
    have bx2 := hbx.cell 2
    simp at bx0 bx1 bx2
    have zbx := hbx.lt
    have bg0 := hbg.cell 0
    have bg1 := hbg.cell 1
    have bg2 := hbg.cell 2
    simp at bg0 bg1 bg2
    have zbg := hbg.lt
    have bh0 := hbh.cell 0
    have bh1 := hbh.cell 1
    have bh2 := hbh.cell 2
    simp at bh0 bh1 bh2
    have zbh := hbh.lt
    have Yhba := Lib.hid hba
    have Yhbs := Lib.hid hbs
    have Yhbx := Lib.hid hbx
    have Yhbg := Lib.hid hbg
    have Yhbh := Lib.hid hbh
    have YhA1 := Lib.hid hA1
    have YhA2 := Lib.hid hA2
    have YhS1 := Lib.hid hS1
    have YhS2 := Lib.hid hS2
    have YhG1 := Lib.hid hG1
    have YhG2 := Lib.hid hG2
    have YhH1 := Lib.hid hH1
    have YhH2 := Lib.hid hH2
    have YhKK := Lib.hid hKK
    clear hba hbs hbx hbg hbh hA1 hA2 hS1 hS2 hG1 hG2 hH1 hH2 hKK hk15
    go_wp2_with fail
    refine (heldBank_any G1 G2 _ _ _ _ K 1 _ YhG1.out.ints YhG2.out.ints (by omega) (by omega)).mono ?_
    rintro e w16 ⟨rfl, hk16⟩
    have hKK := YhKK.out.trans hk16
    have HKK := Lib.hid hKK
    clear hKK hk16
    go_wp2
    go_ret
    exact ⟨rfl, HKK.out.below⟩
  · go_enter Try.func4, Try.ntmps4
    go_wp2_with fail
    refine (szBank_no A1 A2 n1 n2 _ _ L 1048576 _ (by omega) (by omega) (by omega) h1 h2).mono ?_
    rintro e w1 ⟨rfl, hk1⟩
    go_wp2
    go_ret
    exact ⟨rfl, (((Keeps.refl _ _).alloc _).trans hk1).below⟩


namespace exactBack
set_option maxRecDepth 100000 in
theorem lifted (os : Os) (started : os.Started) (H : Type) (enc : TypeId × Value → H) :
    ReturnsInHanded {} Try.checked os 4 .any (Rows.fnExactBankBackSpec.pre6 enc Try.prog Try.f4 Rows.fnExactBankBackRow.domain false) (Rows.fnExactBankBackSpec.post enc Try.prog Try.f4 false true false false) := by
  refine returnsInHanded_of_change (C := Try.checked) own started (by kernel_rfl) Try.func4
    (ChangeSpec.witness6 (enc := enc) (C := Try.checked) false ⟨#[], #[.agg #[.slice none 0 0, .slice none 0 0, .int .i64 0], .int .i64 0, .int .i64 0, .int .i64 0], []⟩ 8 (by kernel_rfl) (by kernel_rfl) (by kernel_rfl) (by kernel_rfl)) ?_
  intro W base args ds gs before hval0 hW hcnd _
  have hval : ∀ (j : Nat) t v, Try.f4.params[j]? = some t → args[j]? = some v → Value.okWide Try.prog W .any base t v := hval0
  have hW' := hW
  obtain ⟨p, q, hA0, hV, rfl, hfz, hnd⟩ := hW
  have hA : DataW.TrodAll enc Try.prog W 0 (fun _ => true) true Try.f4.params.toList args.toList ds p := hA0
  rw [Try.params4 ] at hA hval
  obtain ⟨v0, vs0, d0, ds0, p0, q0, hargs, rfl, rfl, h0, r0⟩ := trodAll_cons hA
  obtain ⟨v1, vs1, d1, ds1, p1, q1, rfl, rfl, rfl, h1, r1⟩ := trodAll_cons r0
  obtain ⟨v2, vs2, d2, ds2, p2, q2, rfl, rfl, rfl, h2, r2⟩ := trodAll_cons r1
  obtain ⟨v3, vs3, d3, ds3, p3, q3, rfl, rfl, rfl, h3, r3⟩ := trodAll_cons r2
  obtain ⟨rfl, rfl, rfl⟩ := trodAll_nil r3
  obtain rfl : args = #[v0, v1, v2, v3] := by cases args; simp_all
  obtain ⟨rfl, rfl⟩ := trodVars_none hV
  have k0 := h0
  have lt0 : ∀ x ∈ p0, x.block < W.heap.size := by obtain ⟨m, hm⟩ := k0; exact DataW.trod_lt m _ _ _ hm
  obtain ⟨A1, n1, c1, A2, n2, c2, L, xs, ys, rfl, i1, i2, m1, m2, wL⟩ := bank_of_trod (hval 0 24 v0 rfl rfl) h0
  obtain ⟨a1, rfl, rfl, rfl, wa1⟩ := open_int Try.underlying3 (hval 1 3 v1 rfl rfl) h1
  obtain ⟨a2, rfl, rfl, rfl, wa2⟩ := open_int Try.underlying3 (hval 2 3 v2 rfl rfl) h2
  obtain ⟨a3, rfl, rfl, rfl, wa3⟩ := open_int Try.underlying3 (hval 3 3 v3 rfl rfl) h3
  clear hA0 hval0
  refine (walk_exactBack A1 A2 n1 n2 c1 c2 L xs ys W i1 i2 m1 m2 (wf_i64 wL).2 a1 a2 a3 (wf_i64 wa2)).mono fun e W' ⟨he, bel⟩ => ?_
  subst he
  exact ⟨_, rfl, _, _, _, [], _, [], hW', trodAll_mk1 (shut_bool Try.underlying4 _), (trodAll_cons_mk (Below.trod laidOut (by kernel_rfl) (of_decide_eq_true (by kernel_rfl)) k0 bel lt0) (trodAll_cons_mk (shut_int Try.underlying3 wa1) (trodAll_cons_mk (shut_int Try.underlying3 wa2) (trodAll_cons_mk (shut_int Try.underlying3 wa3) trodAll_mk0)))), rfl, bel.frame _, fun h => by cases h⟩

theorem over : Rows.fnExactBankBackRow.holds Try.pinned (OpenSpec.ofChange Rows.fnExactBankBackSpec) :=
  OpenClaim.holds_of_wide 4 Try.f4 rfl rfl rfl rfl rfl rfl rfl ⟨rfl, rfl, rfl, rfl, rfl⟩ rfl rfl rfl rfl rfl (by kernel_rfl) Try.func4 (by kernel_rfl)
    (of_decide_eq_true (by kernel_rfl)) (by unfold Func.isWrapper; first | (rw [if_pos (by decide +kernel)]; kernel_rfl) | (rw [if_neg (by decide +kernel)]; exact ⟨rfl, rfl⟩))
    (fun os started H enc _ => lifted os started H enc)
end exactBack

theorem fnExactBankBack_holds : Rows.FnExactBankBackSaid := exactBack.over
#print axioms fnExactBankBack_holds
end Go.Proofs.Ytiglmfefamehhab
