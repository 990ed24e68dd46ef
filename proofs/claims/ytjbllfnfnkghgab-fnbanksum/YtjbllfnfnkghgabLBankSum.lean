/- FnBankSum: own coins are as many as at first, whatever is drawn. -/
import Derived.Test.YtjbllfnfnkghgabRows
import Derived.Test.YtjbllfnfnkghgabBAll
import Derived.Test.YtjbllfnfnkghgabNew
import Derived.Test.YtjbllfnfnkghgabDAll
import Derived.Test.YtjbllfnfnkghgabFrameB
set_option linter.unusedVariables false
set_option linter.unusedSimpArgs false
namespace Go.Proofs.Ytjbllfnfnkghgab
open Go.RowKit Go.ChangeShapes Go.WideShapes Go.ChangeAt

set_option maxHeartbeats 4000000 in
theorem walk_bankSum (w : World) (a0 : Option Addr) (len0 cap0 : Nat) (z0 : List Int) (h : Bytes w a0 len0 z0) (e0 : len0 ≤ cap0) (f0 : cap0 ≤ maxLen) :
    Calls Try.prog 3 #[.slice a0 len0 cap0] w fun e w' => e = .returned (.bool true) ∧ Below w.heap.size w w' := by
  have H := Lib.hid h
  clear h
  by_cases hs : (len0 : Int) ≤ 1048576
  · go_enter Try.func3, Try.ntmps3
    go_wp2_with fail
    refine (drawAll_any a0 len0 _ z0 _ H.out e0 f0).mono ?_
    rintro e w1 ⟨v, ⟨xs, ys, L⟩, rfl, ⟨⟨A1, n1, c1, A2, n2, c2, rfl, hA1, hA2, hAd, k1, k2, m1, m2⟩, hk1, hL1, hL2, ho, hn⟩⟩
    dsimp only at hA1 hA2 hL1 hL2 ho hn ⊢
    obtain rfl : xs.length = n1 := hA1.1.1
    obtain rfl : ys.length = n2 := hA2.1.1
    have hLm : L ≤ 9223372036854775807 := by omega
    have jA1 : xs.length ≤ maxLen := Nat.le_trans k1 m1
    have jA2 : ys.length ≤ maxLen := Nat.le_trans k2 m2
    have noS : ∀ {A : Option Addr} {n : Nat} (b : Nat), blk A n b → ¬ noBlk b := fun _ _ h => h
    have hKK := hk1
    have sz1 := hk1.size
    have HO := Lib.hid ho
    have HN := Lib.hid hn
    clear hAd k1 k2 m1 m2 H ho hn
    have YhA1 := Lib.hid hA1
    have YhA2 := Lib.hid hA2
    have YhKK := Lib.hid hKK
    clear hA1 hA2 hKK hk1
    by_cases hok : okB ⟨xs, ys, L⟩ = true
    · have hNb := notes_bounds hok
      have hpp := okB_parts hok
      have hll := lst_len hok 1
      have hsm := (lst_small hok 1)
      simp only [lst, if_true] at hll hsm
      dsimp only at hNb hpp
      have HSM := Lib.hid hsm
      have HLL := Lib.hid hll
      have HPP := Lib.hid hpp.2.2.2.1
      clear hpp hll hsm
      generalize hgn : sumL ys = nn at hNb
      have HGN := Lib.hid hgn
      clear hgn
      have ea : allOwn ⟨xs, ys, L⟩ = 30 := by unfold allOwn; rw [hok]; rfl
      have en : allNotes ⟨xs, ys, L⟩ = nn := by unfold allNotes; rw [hok]; exact HGN.out
      have HSA := Lib.hid (fun (B1 B2 : Option Addr) (b1 b2 d1 d2 : Nat) (W : World) (i1 : Ints W B1 b1 xs) (i2 : Ints W B2 b2 ys) (j1 : b1 ≤ maxLen) (j2 : b2 ≤ maxLen) => (show Calls Try.prog 11 #[.agg #[.slice B1 b1 d1, .slice B2 b2 d2, .int .i64 L]] W (fun e w' => e = .returned (.tuple #[.int .i64 (30), .int .i64 (nn)]) ∧ Keeps noBlk W w') from by have h9 := specBankAll_any B1 B2 b1 b2 d1 d2 L xs ys W i1 i2 j1 j2 hLm; unfold RetAll at h9; rw [ea, en] at h9; exact h9))
      have HIA := Lib.hid (fun (B1 B2 : Option Addr) (b1 b2 d1 d2 : Nat) (W : World) (i1 : Ints W B1 b1 xs) (i2 : Ints W B2 b2 ys) (j1 : b1 ≤ maxLen) (j2 : b2 ≤ maxLen) => (show Calls Try.prog 12 #[.agg #[.slice B1 b1 d1, .slice B2 b2 d2, .int .i64 L]] W (fun e w' => e = .returned (.tuple #[.int .i64 (30), .int .i64 (nn)]) ∧ Keeps noBlk W w') from by have h9 := implBankAll_any B1 B2 b1 b2 d1 d2 L xs ys W i1 i2 j1 j2; unfold RetAll at h9; rw [ea, en] at h9; exact h9))
      have HSB := Lib.hid (fun (B1 B2 : Option Addr) (b1 b2 d1 d2 : Nat) (W : World) (i1 : Ints W B1 b1 xs) (i2 : Ints W B2 b2 ys) (j1 : b1 ≤ maxLen) (j2 : b2 ≤ maxLen) => (show Calls Try.prog 13 #[.agg #[.slice B1 b1 d1, .slice B2 b2 d2, .int .i64 L]] W (fun e w' => e = .returned (.bool true) ∧ Keeps noBlk W w') from by have h9 := specOk_any B1 B2 b1 b2 d1 d2 L xs ys W i1 i2 j1 j2 hLm; rw [hok] at h9; exact h9))
      clear ea en
      go_wp2_with fail
      refine (HSA.out A1 A2 _ _ _ _ _ (YhA1.out.alloc (.cells #[.slice A1 xs.length c1, .slice A2 ys.length c2, .int .i64 L] 25)).ints (YhA2.out.alloc (.cells #[.slice A1 xs.length c1, .slice A2 ys.length c2, .int .i64 L] 25)).ints jA1 jA2).mono ?_
      rintro e w2 ⟨rfl, hk2⟩
      have hbb := (Box.new w1 _ rfl 25 #[.slice A1 xs.length c1, .slice A2 ys.length c2, .int .i64 L]).keeps hk2 (fun h => h)
      have hA1 := (YhA1.out.alloc (.cells #[.slice A1 xs.length c1, .slice A2 ys.length c2, .int .i64 L] 25)).keeps hk2 noS
      have hA2 := (YhA2.out.alloc (.cells #[.slice A1 xs.length c1, .slice A2 ys.length c2, .int .i64 L] 25)).keeps hk2 noS
      have hKK := (YhKK.out.alloc (.cells #[.slice A1 xs.length c1, .slice A2 ys.length c2, .int .i64 L] 25)).trans hk2
      have sz2 := hk2.size
      (try simp at sz2)
      clear YhA1 YhA2 YhKK
      have bb0 := hbb.cell 0
      have bb1 := hbb.cell 1
      have bb2 := hbb.cell 2
      simp at bb0 bb1 bb2
      have zbb := hbb.lt
      have Yhbb := Lib.hid hbb
      have YhA1 := Lib.hid hA1
      have YhA2 := Lib.hid hA2
      have YhKK := Lib.hid hKK
      clear hbb hA1 hA2 hKK hk2
      go_wp2_with fail
      refine (HIA.out A1 A2 _ _ _ _ _ (YhA1.out).ints (YhA2.out).ints jA1 jA2).mono ?_
      rintro e w3 ⟨rfl, hk3⟩
      clear bb0 bb1 bb2 zbb
      have hbb := (Yhbb.out).keeps hk3 (fun h => h)
      have hA1 := (YhA1.out).keeps hk3 noS
      have hA2 := (YhA2.out).keeps hk3 noS
      have hKK := (YhKK.out).trans hk3
      have sz3 := hk3.size
      (try simp at sz3)
      clear Yhbb YhA1 YhA2 YhKK
      have bb0 := hbb.cell 0
      have bb1 := hbb.cell 1
      have bb2 := hbb.cell 2
      simp at bb0 bb1 bb2
      have zbb := hbb.lt
      have Yhbb := Lib.hid hbb
      have YhA1 := Lib.hid hA1
      have YhA2 := Lib.hid hA2
      have YhKK := Lib.hid hKK
      clear hbb hA1 hA2 hKK hk3
      go_wp2_with fail
      refine (HSB.out A1 A2 _ _ _ _ _ (YhA1.out).ints (YhA2.out).ints jA1 jA2).mono ?_
      rintro e w4 ⟨rfl, hk4⟩
      clear bb0 bb1 bb2 zbb
      have hbb := (Yhbb.out).keeps hk4 (fun h => h)
      have hA1 := (YhA1.out).keeps hk4 noS
      have hA2 := (YhA2.out).keeps hk4 noS
      have hKK := (YhKK.out).trans hk4
      have sz4 := hk4.size
      (try simp at sz4)
      clear Yhbb YhA1 YhA2 YhKK
      have bb0 := hbb.cell 0
      have bb1 := hbb.cell 1
      have bb2 := hbb.cell 2
      simp at bb0 bb1 bb2
      have zbb := hbb.lt
      have Yhbb := Lib.hid hbb
      have YhA1 := Lib.hid hA1
      have YhA2 := Lib.hid hA2
      have YhKK := Lib.hid hKK
      clear hbb hA1 hA2 hKK hk4
      go_wp2_with fail
      refine (implNew_any _).mono ?_
      rintro e w5 ⟨_, rfl, ⟨B1, bn1, bc1, B2, bn2, bc2, rfl, hB1, hB2, -, kk1, kk2, mm1, mm2⟩, hk5⟩
      dsimp only [newL] at hB1 hB2 ⊢
      obtain rfl : 3 = bn1 := hB1.1.1
      obtain rfl : 3 = bn2 := hB2.1.1
      clear bb0 bb1 bb2 zbb
      have hbb := (Yhbb.out).keeps hk5 (fun h => h)
      have hA1 := (YhA1.out).keeps hk5 noS
      have hA2 := (YhA2.out).keeps hk5 noS
      have hKK := (YhKK.out).trans hk5
      have sz5 := hk5.size
      (try simp at sz5)
      clear Yhbb YhA1 YhA2 YhKK
      have bb0 := hbb.cell 0
      have bb1 := hbb.cell 1
      have bb2 := hbb.cell 2
      simp at bb0 bb1 bb2
      have zbb := hbb.lt
      have Yhbb := Lib.hid hbb
      have YhA1 := Lib.hid hA1
      have YhA2 := Lib.hid hA2
      have YhB1 := Lib.hid hB1
      have YhB2 := Lib.hid hB2
      have YhKK := Lib.hid hKK
      clear hbb hA1 hA2 hB1 hB2 hKK hk5
      have HIN := Lib.hid (fun (B1 B2 : Option Addr) (b1 b2 d1 d2 : Nat) (W : World) (i1 : Ints W B1 b1 [10, 10, 10]) (i2 : Ints W B2 b2 [0, 0, 0]) (j1 : b1 ≤ maxLen) (j2 : b2 ≤ maxLen) => (show Calls Try.prog 12 #[.agg #[.slice B1 b1 d1, .slice B2 b2 d2, .int .i64 0]] W (fun e w' => e = .returned (.tuple #[.int .i64 30, .int .i64 0]) ∧ Keeps noBlk W w') from implBankAll_any B1 B2 b1 b2 d1 d2 0 [10, 10, 10] [0, 0, 0] W i1 i2 j1 j2))
      go_wp2_with fail
      refine (HIN.out B1 B2 3 3 _ _ _ (YhB1.out).ints (YhB2.out).ints (by unfold maxLen; omega) (by unfold maxLen; omega)).mono ?_
      rintro e w6 ⟨rfl, hk6⟩
      clear bb0 bb1 bb2 zbb
      have hbb := (Yhbb.out).keeps hk6 (fun h => h)
      have hA1 := (YhA1.out).keeps hk6 noS
      have hA2 := (YhA2.out).keeps hk6 noS
      have hB1 := (YhB1.out).keeps hk6 noS
      have hB2 := (YhB2.out).keeps hk6 noS
      have hKK := (YhKK.out).trans hk6
      have sz6 := hk6.size
      (try simp at sz6)
      clear Yhbb YhA1 YhA2 YhB1 YhB2 YhKK
      have bb0 := hbb.cell 0
      have bb1 := hbb.cell 1
      have bb2 := hbb.cell 2
      simp at bb0 bb1 bb2
      have zbb := hbb.lt
      have Yhbb := Lib.hid hbb
      have YhA1 := Lib.hid hA1
      have YhA2 := Lib.hid hA2
      have YhB1 := Lib.hid hB1
      have YhB2 := Lib.hid hB2
      have YhKK := Lib.hid hKK
      clear hbb hA1 hA2 hB1 hB2 hKK hk6
      go_wp2_with fail
      go_loopw [10, 11] (fun s i wr => ∃ k : Nat, k ≤ 3 ∧ i = .int .i64 k ∧ s = .int .i64 (L + sumL (xs.take k)) ∧ wr = w6) (fun _ i _ => 3 - (intOf i).toNat)
      case atStart => exact ⟨0, by omega, rfl, by simp [sumL], rfl⟩
      case round =>
        obtain ⟨k, hk, rfl, rfl, rfl⟩ := hrel
        have hl : (xs.take k).length ≤ k := List.length_take_le _ _
        have hb := (HSM.out.take k).sum
        by_cases hlt : k < 3
        · obtain ⟨b1, o1, e1, _, hc1⟩ := YhA1.out.ints.at_ (k := k) (by rw [HLL.out]; exact hlt)
          subst e1
          have hst := Lib.hid (sumL_step xs k (by rw [HLL.out]; exact hlt))
          have hg := HSM.out.getD k
          have hn3 : (k : Int) < (xs.length : Int) := by rw [HLL.out]; omega
          generalize xs.getD k 0 = yv at hc1 hg hst
          generalize sumL (xs.take k) = sv at hb hst
          go_wp2
          go_roundw
          case rel => exact ⟨k + 1, by omega, by go_num, by first | (rw [hst.out]; go_num) | (rw [hst.out]; simp; omega) | (simp [hst.out]; omega), by first | rfl | trivial⟩
          case measure => simp [intOf]; omega
        · have he : xs.take k = xs := List.take_of_length_le (by rw [HLL.out]; omega)
          rw [he]
          have hsum : L + sumL xs = 30 := by have := HPP.out; omega
          rw [hsum]
          clear he hsum hb hl
          go_wp2
          go_ret
          exact ⟨rfl, YhKK.out.below⟩
    · have hok : okB ⟨xs, ys, L⟩ = false := Bool.eq_false_iff.2 hok
      have ea : allOwn ⟨xs, ys, L⟩ = -1 := by unfold allOwn; rw [hok]; rfl
      have en : allNotes ⟨xs, ys, L⟩ = -1 := by unfold allNotes; rw [hok]; rfl
      have HSA := Lib.hid (fun (B1 B2 : Option Addr) (b1 b2 d1 d2 : Nat) (W : World) (i1 : Ints W B1 b1 xs) (i2 : Ints W B2 b2 ys) (j1 : b1 ≤ maxLen) (j2 : b2 ≤ maxLen) => (show Calls Try.prog 11 #[.agg #[.slice B1 b1 d1, .slice B2 b2 d2, .int .i64 L]] W (fun e w' => e = .returned (.tuple #[.int .i64 (-1), .int .i64 (-1)]) ∧ Keeps noBlk W w') from by have h9 := specBankAll_any B1 B2 b1 b2 d1 d2 L xs ys W i1 i2 j1 j2 hLm; unfold RetAll at h9; rw [ea, en] at h9; exact h9))
      have HIA := Lib.hid (fun (B1 B2 : Option Addr) (b1 b2 d1 d2 : Nat) (W : World) (i1 : Ints W B1 b1 xs) (i2 : Ints W B2 b2 ys) (j1 : b1 ≤ maxLen) (j2 : b2 ≤ maxLen) => (show Calls Try.prog 12 #[.agg #[.slice B1 b1 d1, .slice B2 b2 d2, .int .i64 L]] W (fun e w' => e = .returned (.tuple #[.int .i64 (-1), .int .i64 (-1)]) ∧ Keeps noBlk W w') from by have h9 := implBankAll_any B1 B2 b1 b2 d1 d2 L xs ys W i1 i2 j1 j2; unfold RetAll at h9; rw [ea, en] at h9; exact h9))
      have HSB := Lib.hid (fun (B1 B2 : Option Addr) (b1 b2 d1 d2 : Nat) (W : World) (i1 : Ints W B1 b1 xs) (i2 : Ints W B2 b2 ys) (j1 : b1 ≤ maxLen) (j2 : b2 ≤ maxLen) => (show Calls Try.prog 13 #[.agg #[.slice B1 b1 d1, .slice B2 b2 d2, .int .i64 L]] W (fun e w' => e = .returned (.bool false) ∧ Keeps noBlk W w') from by have h9 := specOk_any B1 B2 b1 b2 d1 d2 L xs ys W i1 i2 j1 j2 hLm; rw [hok] at h9; exact h9))
      clear ea en
      go_wp2_with fail
      refine (HSA.out A1 A2 _ _ _ _ _ (YhA1.out.alloc (.cells #[.slice A1 xs.length c1, .slice A2 ys.length c2, .int .i64 L] 25)).ints (YhA2.out.alloc (.cells #[.slice A1 xs.length c1, .slice A2 ys.length c2, .int .i64 L] 25)).ints jA1 jA2).mono ?_
      rintro e w2 ⟨rfl, hk2⟩
      have hbb := (Box.new w1 _ rfl 25 #[.slice A1 xs.length c1, .slice A2 ys.length c2, .int .i64 L]).keeps hk2 (fun h => h)
      have hA1 := (YhA1.out.alloc (.cells #[.slice A1 xs.length c1, .slice A2 ys.length c2, .int .i64 L] 25)).keeps hk2 noS
      have hA2 := (YhA2.out.alloc (.cells #[.slice A1 xs.length c1, .slice A2 ys.length c2, .int .i64 L] 25)).keeps hk2 noS
      have hKK := (YhKK.out.alloc (.cells #[.slice A1 xs.length c1, .slice A2 ys.length c2, .int .i64 L] 25)).trans hk2
      have sz2 := hk2.size
      (try simp at sz2)
      clear YhA1 YhA2 YhKK
      have bb0 := hbb.cell 0
      have bb1 := hbb.cell 1
      have bb2 := hbb.cell 2
      simp at bb0 bb1 bb2
      have zbb := hbb.lt
      have Yhbb := Lib.hid hbb
      have YhA1 := Lib.hid hA1
      have YhA2 := Lib.hid hA2
      have YhKK := Lib.hid hKK
      clear hbb hA1 hA2 hKK hk2
      go_wp2_with fail
      refine (HIA.out A1 A2 _ _ _ _ _ (YhA1.out).ints (YhA2.out).ints jA1 jA2).mono ?_
      rintro e w3 ⟨rfl, hk3⟩
      clear bb0 bb1 bb2 zbb
      have hbb := (Yhbb.out).keeps hk3 (fun h => h)
      have hA1 := (YhA1.out).keeps hk3 noS
      have hA2 := (YhA2.out).keeps hk3 noS
      have hKK := (YhKK.out).trans hk3
      have sz3 := hk3.size
      (try simp at sz3)
      clear Yhbb YhA1 YhA2 YhKK
      have bb0 := hbb.cell 0
      have bb1 := hbb.cell 1
      have bb2 := hbb.cell 2
      simp at bb0 bb1 bb2
      have zbb := hbb.lt
      have Yhbb := Lib.hid hbb
      have YhA1 := Lib.hid hA1
      have YhA2 := Lib.hid hA2
      have YhKK := Lib.hid hKK
      clear hbb hA1 hA2 hKK hk3
      go_wp2_with fail
      refine (HSB.out A1 A2 _ _ _ _ _ (YhA1.out).ints (YhA2.out).ints jA1 jA2).mono ?_
      rintro e w4 ⟨rfl, hk4⟩
      clear bb0 bb1 bb2 zbb
      have hbb := (Yhbb.out).keeps hk4 (fun h => h)
      have hA1 := (YhA1.out).keeps hk4 noS
      have hA2 := (YhA2.out).keeps hk4 noS
      have hKK := (YhKK.out).trans hk4
      have sz4 := hk4.size
      (try simp at sz4)
      clear Yhbb YhA1 YhA2 YhKK
      have bb0 := hbb.cell 0
      have bb1 := hbb.cell 1
      have bb2 := hbb.cell 2
      simp at bb0 bb1 bb2
      have zbb := hbb.lt
      have Yhbb := Lib.hid hbb
      have YhA1 := Lib.hid hA1
      have YhA2 := Lib.hid hA2
      have YhKK := Lib.hid hKK
      clear hbb hA1 hA2 hKK hk4
      go_wp2
      go_ret
      exact ⟨rfl, YhKK.out.below⟩
  · go_enter Try.func3, Try.ntmps3
    go_wp2
    go_ret
    exact ⟨rfl, Below.refl _ _⟩

namespace bankSum
set_option maxRecDepth 100000 in
theorem lifted (os : Os) (started : os.Started) (H : Type) (enc : TypeId × Value → H) :
    ReturnsInHanded {} Try.checked os 3 .any (Rows.fnBankSumSpec.pre6 enc Try.prog Try.f3 Rows.fnBankSumRow.domain false) (Rows.fnBankSumSpec.post enc Try.prog Try.f3 false true false false) := by
  refine returnsInHanded_of_change (C := Try.checked) own started (by kernel_rfl) Try.func3
    (ChangeSpec.witness6 (enc := enc) (C := Try.checked) false ⟨#[], #[.slice none 0 0], []⟩ 8 (by kernel_rfl) (by kernel_rfl) (by kernel_rfl) (by kernel_rfl)) ?_
  intro W base args ds gs before hval0 hW hcnd _
  have hval : ∀ (j : Nat) t v, Try.f3.params[j]? = some t → args[j]? = some v → Value.okWide Try.prog W .any base t v := hval0
  have hW' := hW
  obtain ⟨p, q, hA0, hV, rfl, hfz, hnd⟩ := hW
  have hA : DataW.TrodAll enc Try.prog W 0 (fun _ => true) true Try.f3.params.toList args.toList ds p := hA0
  rw [Try.params3 ] at hA hval
  obtain ⟨v0, vs0, d0, ds0, p0, q0, hargs, rfl, rfl, h0, r0⟩ := trodAll_cons hA
  obtain ⟨rfl, rfl, rfl⟩ := trodAll_nil r0
  obtain rfl : args = #[v0] := by cases args; simp_all
  obtain ⟨rfl, rfl⟩ := trodVars_none hV
  obtain ⟨a0, len0, cap0, rfl⟩ := okWide_slice Try.underlying22 (hval 0 22 v0 rfl rfl)
  have k0 := h0
  have lt0 : ∀ x ∈ p0, x.block < W.heap.size := by obtain ⟨m, hm⟩ := k0; exact DataW.trod_lt m _ _ _ hm
  obtain ⟨z0, w0, e0, f0⟩ := bytes_of_trod h0
  clear hA0 hval0
  refine (walk_bankSum W a0 len0 cap0 z0 w0 e0 f0).mono fun e W' ⟨he, bel⟩ => ?_
  subst he
  exact ⟨_, rfl, _, _, _, [], _, [], hW', trodAll_mk1 (shut_bool Try.underlying4 _), (trodAll_cons_mk (Below.trod laidOut (by kernel_rfl) (of_decide_eq_true (by kernel_rfl)) k0 bel lt0) trodAll_mk0), rfl, bel.frame _, fun h => by cases h⟩

theorem over : Rows.fnBankSumRow.holds Try.pinned (OpenSpec.ofChange Rows.fnBankSumSpec) :=
  OpenClaim.holds_of_wide 3 Try.f3 rfl rfl rfl rfl rfl rfl rfl ⟨rfl, rfl, rfl, rfl, rfl⟩ rfl rfl rfl rfl rfl (by kernel_rfl) Try.func3 (by kernel_rfl)
    (of_decide_eq_true (by kernel_rfl)) (by unfold Func.isWrapper; first | (rw [if_pos (by decide +kernel)]; kernel_rfl) | (rw [if_neg (by decide +kernel)]; exact ⟨rfl, rfl⟩))
    (fun os started H enc _ => lifted os started H enc)
end bankSum

theorem fnBankSum_holds : Rows.FnBankSumSaid := bankSum.over
#print axioms fnBankSum_holds
end Go.Proofs.Ytjbllfnfnkghgab
