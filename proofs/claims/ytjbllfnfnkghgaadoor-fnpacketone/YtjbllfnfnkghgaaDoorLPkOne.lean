/- FnPacketOne: two packets are the same just if their texts are, whatever is drawn. -/
import Derived.Test.YtjbllfnfnkghgaaDoorPkFB
import Derived.Test.YtjbllfnfnkghgaaDoorPkST
import Derived.Test.YtjbllfnfnkghgaaDoorPkTh
import Derived.Test.YtjbllfnfnkghgaaDoorPkDraw2
set_option linter.unusedVariables false
set_option linter.unusedSimpArgs false
namespace Go.Proofs.YtjbllfnfnkghgaaDoor
open Go.RowKit Go.ChangeShapes Go.WideShapes Go.ChangeAt

set_option maxRecDepth 100000 in
set_option maxHeartbeats 4000000 in
theorem walk_pkone (w : World) (ht : Tabs w) (a0 : Option Addr) (len0 cap0 : Nat) (z0 : List Int) (h : Bytes w a0 len0 z0) (e0 : len0 ≤ cap0) (f0 : cap0 ≤ maxLen) (a1 : Option Addr) (len1 cap1 : Nat) (z1 : List Int) (h1 : Bytes w a1 len1 z1) (e1 : len1 ≤ cap1) (f1 : cap1 ≤ maxLen) :
    Calls Tryd.prog 5 #[.slice a0 len0 cap0, .slice a1 len1 cap1] w fun e w' => e = .returned (.bool true) ∧ Below w.heap.size w w' := by
  have H := Lib.hid h
  have H1 := Lib.hid h1
  have HT := Lib.hid ht
  clear h h1 ht
  by_cases hs : (len0 : Int) ≤ 1048576
  · by_cases hs1 : (len1 : Int) ≤ 1048576
    · go_enter Tryd.func5, Tryd.ntmps5
      go_wp2_with fail
      refine (drawPkText_any a0 len0 _ z0 _ H.out e0 f0).mono ?_
      rintro e w1 ⟨s, k, f, t, m, u, v, rfl, hk⟩
      have YK := Lib.hid hk
      clear hk
      go_wp2_with fail
      refine (drawPkOk_any a1 len1 _ z1 _ (H1.out.keeps (YK.out.alloc _) fun _ _ x => x) e1 f1).mono ?_
      rintro e w2 ⟨s', k', f', t', m', u', v', rfl, hk⟩
      have Ya := Lib.hid ((Box.new w1 _ rfl 24 #[.int .i64 s, .int .i64 k, .int .i64 f, .int .i64 t, .int .i64 m, .int .i64 u, .int .i64 v]).keeps hk (fun h => h))
      have YK2 := Lib.hid ((YK.out.alloc _).trans hk)
      have za := Ya.out.lt
      clear hk YK
      obtain ⟨o1, ho1⟩ : ∃ o, pkT s k f t m u v = o := ⟨_, rfl⟩
      obtain ⟨o2, ho2⟩ : ∃ o, pkT s' k' f' t' m' u' v' = o := ⟨_, rfl⟩
      have HIA := Lib.hid (fun W hW => (show Calls Tryd.prog 13 #[.agg #[.int .i64 s, .int .i64 k, .int .i64 f, .int .i64 t, .int .i64 m, .int .i64 u, .int .i64 v]] W (RetTxt W o1) from by rw [← ho1]; exact implText_any s k f t m u v W hW))
      have HIB := Lib.hid (fun W hW => (show Calls Tryd.prog 13 #[.agg #[.int .i64 s', .int .i64 k', .int .i64 f', .int .i64 t', .int .i64 m', .int .i64 u', .int .i64 v']] W (RetTxt W o2) from by rw [← ho2]; exact implText_any s' k' f' t' m' u' v' W hW))
      have HSA := Lib.hid (fun W => (show Calls Tryd.prog 14 #[.agg #[.int .i64 s, .int .i64 k, .int .i64 f, .int .i64 t, .int .i64 m, .int .i64 u, .int .i64 v]] W (RetTxt W o1) from by rw [← ho1]; exact specText_any s k f t m u v W))
      have HO1 := Lib.hid ho1
      have HO2 := Lib.hid ho2
      clear ho1 ho2
      have ac0 := Ya.out.cell 0
      have ac1 := Ya.out.cell 1
      have ac2 := Ya.out.cell 2
      have ac3 := Ya.out.cell 3
      have ac4 := Ya.out.cell 4
      have ac5 := Ya.out.cell 5
      have ac6 := Ya.out.cell 6
      simp at ac0 ac1 ac2 ac3 ac4 ac5 ac6
      go_wp2_with fail
      refine (HIA.out _ (HT.out.keeps (YK2.out.alloc _))).mono ?_
      rintro e w3 ⟨rfl, hk⟩
      clear ac0 ac1 ac2 ac3 ac4 ac5 ac6
      have Yb := Lib.hid ((Box.new w2 _ rfl 24 #[.int .i64 s', .int .i64 k', .int .i64 f', .int .i64 t', .int .i64 m', .int .i64 u', .int .i64 v']).keeps hk (fun h => h))
      have Ya3 := Lib.hid ((Ya.out.alloc _).keeps hk (fun h => h))
      have YK3 := Lib.hid ((YK2.out.alloc _).trans hk)
      clear hk Ya YK2
      have Ya := Ya3
      clear Ya3
      have ac0 := Ya.out.cell 0
      have ac1 := Ya.out.cell 1
      have ac2 := Ya.out.cell 2
      have ac3 := Ya.out.cell 3
      have ac4 := Ya.out.cell 4
      have ac5 := Ya.out.cell 5
      have ac6 := Ya.out.cell 6
      simp at ac0 ac1 ac2 ac3 ac4 ac5 ac6
      have bc0 := Yb.out.cell 0
      have bc1 := Yb.out.cell 1
      have bc2 := Yb.out.cell 2
      have bc3 := Yb.out.cell 3
      have bc4 := Yb.out.cell 4
      have bc5 := Yb.out.cell 5
      have bc6 := Yb.out.cell 6
      simp at bc0 bc1 bc2 bc3 bc4 bc5 bc6
      go_wp2_with fail
      refine (HIB.out _ (HT.out.keeps YK3.out)).mono ?_
      rintro e w4 ⟨rfl, hk⟩
      clear ac0 ac1 ac2 ac3 ac4 ac5 ac6
      clear bc0 bc1 bc2 bc3 bc4 bc5 bc6
      have ha := Ya.out.keeps hk (fun h => h)
      have hb := Yb.out.keeps hk (fun h => h)
      have hKK := YK3.out.trans hk
      clear hk Ya Yb
      have Ya := Lib.hid ha
      clear ha
      have Yb := Lib.hid hb
      clear hb
      have YK4 := Lib.hid hKK
      clear hKK
      have ac0 := Ya.out.cell 0
      have ac1 := Ya.out.cell 1
      have ac2 := Ya.out.cell 2
      have ac3 := Ya.out.cell 3
      have ac4 := Ya.out.cell 4
      have ac5 := Ya.out.cell 5
      have ac6 := Ya.out.cell 6
      simp at ac0 ac1 ac2 ac3 ac4 ac5 ac6
      have bc0 := Yb.out.cell 0
      have bc1 := Yb.out.cell 1
      have bc2 := Yb.out.cell 2
      have bc3 := Yb.out.cell 3
      have bc4 := Yb.out.cell 4
      have bc5 := Yb.out.cell 5
      have bc6 := Yb.out.cell 6
      simp at bc0 bc1 bc2 bc3 bc4 bc5 bc6
      go_wp2_with fail
      refine (HSA.out _).mono ?_
      rintro e w5 ⟨rfl, hk⟩
      clear ac0 ac1 ac2 ac3 ac4 ac5 ac6
      clear bc0 bc1 bc2 bc3 bc4 bc5 bc6
      have ha := Ya.out.keeps hk (fun h => h)
      have hb := Yb.out.keeps hk (fun h => h)
      have hKK := YK4.out.trans hk
      clear hk Ya Yb
      have Ya := Lib.hid ha
      clear ha
      have Yb := Lib.hid hb
      clear hb
      have YK5 := Lib.hid hKK
      clear hKK
      have ac0 := Ya.out.cell 0
      have ac1 := Ya.out.cell 1
      have ac2 := Ya.out.cell 2
      have ac3 := Ya.out.cell 3
      have ac4 := Ya.out.cell 4
      have ac5 := Ya.out.cell 5
      have ac6 := Ya.out.cell 6
      simp at ac0 ac1 ac2 ac3 ac4 ac5 ac6
      have bc0 := Yb.out.cell 0
      have bc1 := Yb.out.cell 1
      have bc2 := Yb.out.cell 2
      have bc3 := Yb.out.cell 3
      have bc4 := Yb.out.cell 4
      have bc5 := Yb.out.cell 5
      have bc6 := Yb.out.cell 6
      simp at bc0 bc1 bc2 bc3 bc4 bc5 bc6
      rcases Bool.eq_false_or_eq_true (pkB s k f t m u v) with ha | ha
      · rcases Bool.eq_false_or_eq_true (pkB s' k' f' t' m' u' v') with hb | hb
        · have e1' := HO1.out
          rw [pkT_yes ha] at e1'
          have e2' := HO2.out
          rw [pkT_yes hb] at e2'
          have n1 : o1 ≠ [] := by rw [← e1']; exact txt_ne _ _ _ _ _ _ _ ha
          have n2 : o2 ≠ [] := by rw [← e2']; exact txt_ne _ _ _ _ _ _ _ hb
          have i1 : o1.isEmpty = false := by simpa using n1
          have i2 : o2.isEmpty = false := by simpa using n2
          by_cases heq : o1 = o2
          · obtain ⟨rfl, rfl, rfl, rfl, rfl, rfl, rfl⟩ := txt_inj ha hb (e1'.trans (heq.trans e2'.symm))
            subst heq
            clear e1' e2' ha hb n1 n2 i2 HO1 HO2
            go_wp2
            go_ret
            exact ⟨rfl, YK5.out.below⟩
          · have hne : ¬ (s = s' ∧ k = k' ∧ f = f' ∧ t = t' ∧ m = m' ∧ u = u' ∧ v = v') := fun hh => by
                obtain ⟨rfl, rfl, rfl, rfl, rfl, rfl, rfl⟩ := hh
                exact heq (e1'.symm.trans e2')
            have q1 : (o1 == o2) = false := by simpa using heq
            clear e1' e2' ha hb HO1 HO2 n1 n2 heq
            have HNE := Lib.hid hne
            clear hne
            go_wp2
            all_goals first | (go_ret; exact ⟨rfl, YK5.out.below⟩) | exact absurd ⟨(by first | assumption | (symm; assumption) | rfl), (by first | assumption | (symm; assumption) | rfl), (by first | assumption | (symm; assumption) | rfl), (by first | assumption | (symm; assumption) | rfl), (by first | assumption | (symm; assumption) | rfl), (by first | assumption | (symm; assumption) | rfl), (by first | assumption | (symm; assumption) | rfl)⟩ HNE.out
        · have e2' := HO2.out
          rw [pkT_no hb] at e2'
          subst e2'
          have e1' := HO1.out
          rw [pkT_yes ha] at e1'
          have n1 : o1 ≠ [] := by rw [← e1']; exact txt_ne _ _ _ _ _ _ _ ha
          have i1 : o1.isEmpty = false := by simpa using n1
          clear ha hb HO1 HO2 e1' n1
          go_wp2_with fail
          refine (HSA.out _).mono ?_
          rintro e w6 ⟨rfl, hk⟩
          clear ac0 ac1 ac2 ac3 ac4 ac5 ac6
          clear bc0 bc1 bc2 bc3 bc4 bc5 bc6
          have ha := Ya.out.keeps hk (fun h => h)
          have hb := Yb.out.keeps hk (fun h => h)
          have hKK := YK5.out.trans hk
          clear hk Ya Yb
          have Ya := Lib.hid ha
          clear ha
          have Yb := Lib.hid hb
          clear hb
          have YK6 := Lib.hid hKK
          clear hKK
          have ac0 := Ya.out.cell 0
          have ac1 := Ya.out.cell 1
          have ac2 := Ya.out.cell 2
          have ac3 := Ya.out.cell 3
          have ac4 := Ya.out.cell 4
          have ac5 := Ya.out.cell 5
          have ac6 := Ya.out.cell 6
          simp at ac0 ac1 ac2 ac3 ac4 ac5 ac6
          have bc0 := Yb.out.cell 0
          have bc1 := Yb.out.cell 1
          have bc2 := Yb.out.cell 2
          have bc3 := Yb.out.cell 3
          have bc4 := Yb.out.cell 4
          have bc5 := Yb.out.cell 5
          have bc6 := Yb.out.cell 6
          simp at bc0 bc1 bc2 bc3 bc4 bc5 bc6
          go_wp2
          go_ret
          exact ⟨by simp, YK6.out.below⟩
      · have e1' := HO1.out
        rw [pkT_no ha] at e1'
        subst e1'
        clear ha HO1 HO2
        go_wp2_with fail
        refine (HSA.out _).mono ?_
        rintro e w6 ⟨rfl, hk⟩
        clear ac0 ac1 ac2 ac3 ac4 ac5 ac6
        clear bc0 bc1 bc2 bc3 bc4 bc5 bc6
        have ha := Ya.out.keeps hk (fun h => h)
        have hb := Yb.out.keeps hk (fun h => h)
        have hKK := YK5.out.trans hk
        clear hk Ya Yb
        have Ya := Lib.hid ha
        clear ha
        have Yb := Lib.hid hb
        clear hb
        have YK6 := Lib.hid hKK
        clear hKK
        have ac0 := Ya.out.cell 0
        have ac1 := Ya.out.cell 1
        have ac2 := Ya.out.cell 2
        have ac3 := Ya.out.cell 3
        have ac4 := Ya.out.cell 4
        have ac5 := Ya.out.cell 5
        have ac6 := Ya.out.cell 6
        simp at ac0 ac1 ac2 ac3 ac4 ac5 ac6
        have bc0 := Yb.out.cell 0
        have bc1 := Yb.out.cell 1
        have bc2 := Yb.out.cell 2
        have bc3 := Yb.out.cell 3
        have bc4 := Yb.out.cell 4
        have bc5 := Yb.out.cell 5
        have bc6 := Yb.out.cell 6
        simp at bc0 bc1 bc2 bc3 bc4 bc5 bc6
        go_wp2
        go_ret
        exact ⟨by simp, YK6.out.below⟩
    · go_enter Tryd.func5, Tryd.ntmps5
      go_wp2
      go_ret
      exact ⟨rfl, Below.refl _ _⟩
  · go_enter Tryd.func5, Tryd.ntmps5
    go_wp2
    go_ret
    exact ⟨rfl, Below.refl _ _⟩

namespace pkone
set_option maxRecDepth 100000 in
theorem lifted (os : Os) (started : os.Started) (H : Type) (enc : TypeId × Value → H) :
    ReturnsInHanded {} Tryd.checked os 5 .any (fun w args => (Rows.fnPacketOneSpec.pre enc Tryd.prog Tryd.f5 [] false w args ∧ laidMetH Tryd.prog Rows.fnPacketOneRow.laid w) ∧ sizedMet enc Tryd.prog Tryd.f5 (OpenSpec.ofChange Rows.fnPacketOneSpec) false w args)
      (Rows.fnPacketOneSpec.post enc Tryd.prog Tryd.f5 false true false false) := by
  refine returnsInHanded_of_change_and (C := Tryd.checked) (X := fun w _ => laidMetH Tryd.prog Rows.fnPacketOneRow.laid w) (fun _ _ _ hh h => h.of_heap hh) own started (by kernel_rfl) Tryd.func5
    (ChangeSpec.witness_shaped (enc := enc) (C := Tryd.checked) (os := os) (X := fun w _ => laidMetH Tryd.prog Rows.fnPacketOneRow.laid w) false (World.doorLaid Tryd.prog 101 os) #[.slice none 0 0, .slice none 0 0] 8 rfl (World.shaped_of_RefB (by kernel_rfl) (by kernel_rfl)) (by kernel_rfl) (by kernel_rfl) (by kernel_rfl) (door_met5 os _)) ?_
  intro W base args ds gs before hval0 hW _ _ hL _
  have hval : ∀ (j : Nat) t v, Tryd.f5.params[j]? = some t → args[j]? = some v → Value.okWide Tryd.prog W .any base t v := hval0
  have hW' := hW
  obtain ⟨p, q, hA0, hV, rfl, hfz, hnd⟩ := hW
  have hA : DataW.TrodAll enc Tryd.prog W 0 (fun _ => true) true Tryd.f5.params.toList args.toList ds p := hA0
  rw [Tryd.params5 ] at hA hval
  obtain ⟨g0, g1, rfl⟩ := vars2 hV
  obtain ⟨v0, vs0, d0, ds0, p0, q0, hargs, rfl, rfl, h0, r0⟩ := trodAll_cons hA
  obtain ⟨v1, vs1, d1, ds1, p1, q1, rfl, rfl, rfl, h1, r1⟩ := trodAll_cons r0
  obtain ⟨rfl, rfl, rfl⟩ := trodAll_nil r1
  obtain rfl : args = #[v0, v1] := by cases args; simp_all
  obtain ⟨a0, len0, cap0, rfl⟩ := okWide_slice Tryd.underlying22 (hval 0 22 v0 rfl rfl)
  have k0 := h0
  have lt0 : ∀ x ∈ p0, x.block < W.heap.size := by obtain ⟨m, hm⟩ := k0; exact DataW.trod_lt m _ _ _ hm
  obtain ⟨z0, w0, e0, f0⟩ := bytes_of_trod h0
  obtain ⟨a1, len1, cap1, rfl⟩ := okWide_slice Tryd.underlying22 (hval 1 22 v1 rfl rfl)
  have k1 := h1
  have lt1 : ∀ x ∈ p1, x.block < W.heap.size := by obtain ⟨m, hm⟩ := k1; exact DataW.trod_lt m _ _ _ hm
  obtain ⟨z1, w1, e1, f1⟩ := bytes_of_trod h1
  clear hA0 hval0
  refine (walk_pkone W (tabs_of_laid5 hL) a0 len0 cap0 z0 w0 e0 f0 a1 len1 cap1 z1 w1 e1 f1).mono fun e W' ⟨he, bel⟩ => ?_
  subst he
  exact ⟨_, rfl, _, _, _, [], _, _, hW', trodAll_mk1 (shut_bool Tryd.underlying4 _), (trodAll_cons_mk (Below.trod laidOut (by kernel_rfl) (of_decide_eq_true (by kernel_rfl)) k0 bel lt0) (trodAll_cons_mk (Below.trod laidOut (by kernel_rfl) (of_decide_eq_true (by kernel_rfl)) k1 bel lt1) trodAll_mk0)), Below.trodVars laidOut bel (by kernel_rfl) hV, bel.frame _, fun h => by cases h⟩
end pkone

theorem fnPacketOne_row : Rows.FnPacketOneSaid :=
  OpenClaim.holds_of_wide 5 Tryd.f5 rfl rfl rfl rfl rfl rfl rfl ⟨rfl, rfl, rfl, rfl, rfl⟩ rfl rfl rfl rfl rfl (by kernel_rfl) Tryd.func5 (by kernel_rfl)
    (of_decide_eq_true (by kernel_rfl)) (by unfold Func.isWrapper; first | (rw [if_pos (by decide +kernel)]; kernel_rfl) | (rw [if_neg (by decide +kernel)]; exact ⟨rfl, rfl⟩))
    (fun os started H enc _ => pkone.lifted os started H enc)

theorem fnPacketOne_card : Rows.FnPacketOneCardSaid :=
  Claim7.holds_tied_plain_at .later [] Rows.fnPacketOneCard.laidKinds true Rows.fnPacketOneCard.stood.harness true
    fnPacketOne_row (fun _ h => by cases h) (by kernel_rfl) (fun _ h => by cases h) fnPacketOne_row_tie rfl ⟨rfl, rfl⟩ (by kernel_rfl) rfl
    (fun g fn hg hfn => by
      obtain rfl : g = 5 := Option.some.inj ((show Tryd.prog.funcNamed Rows.fnPacketOneRow.func = some 5 by kernel_rfl).symm.trans hg) |>.symm
      obtain rfl : fn = Tryd.f5 := (Option.some.inj (Tryd.func5.symm.trans hfn)).symm
      refine ⟨by kernel_rfl, fun j t ht => ?_⟩
      have h3 : ∀ t ∈ Tryd.f5.params.toList, Tryd.prog.wantsStandIn t = false := of_decide_eq_true (by kernel_rfl)
      exact h3 t (Array.mem_toList_iff.2 (Array.mem_of_getElem? ht)))
    (by kernel_rfl)
#print axioms fnPacketOne_card
end Go.Proofs.YtjbllfnfnkghgaaDoor
