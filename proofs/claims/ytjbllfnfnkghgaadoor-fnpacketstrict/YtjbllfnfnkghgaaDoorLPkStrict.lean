/- FnPacketStrict: a text that is read is the text of what was read, whatever is drawn. -/
import Derived.Test.YtjbllfnfnkghgaaDoorPkF4
import Derived.Test.YtjbllfnfnkghgaaDoorPkSR
import Derived.Test.YtjbllfnfnkghgaaDoorPkDR
set_option linter.unusedVariables false
set_option linter.unusedSimpArgs false
namespace Go.Proofs.YtjbllfnfnkghgaaDoor
open Go.RowKit Go.ChangeShapes Go.WideShapes Go.ChangeAt

set_option maxRecDepth 100000 in
set_option maxHeartbeats 4000000 in
theorem walk_pkstrict (w : World) (aE : Addr) (hL : Libs w aE) (a0 : Option Addr) (len0 cap0 : Nat) (z0 : List Int) (h : Bytes w a0 len0 z0) (e0 : len0 ≤ cap0) (f0 : cap0 ≤ maxLen) :
    Calls Tryd.prog 4 #[.slice a0 len0 cap0] w fun e w' => e = .returned (.bool true) ∧ Below w.heap.size w w' := by
  have H := Lib.hid h
  have HL := Lib.hid hL
  clear h hL
  by_cases hs : (len0 : Int) ≤ 1048576
  · go_enter Tryd.func4, Tryd.ntmps4
    go_wp2_with fail
    refine (drawPkRead_any a0 len0 _ z0 _ H.out e0 f0).mono ?_
    rintro e w1 ⟨l, rfl, hk⟩
    have YK1 := Lib.hid hk
    clear hk
    go_wp2_with fail
    refine (specRead_any l _).mono ?_
    rintro e w2 (⟨hno, rfl, hk⟩ | ⟨s, k, f, t, m, u, v, hy, rfl, hk⟩)
    · have HRD := Lib.hid (fun W hW => read_none (aE := aE) (W := W) hW hno)
      have YK := Lib.hid (YK1.out.trans hk)
      clear hk YK1 hno
      go_wp2_with fail
      refine (HRD.out _ (HL.out.keeps (YK.out.alloc _))).mono ?_
      rintro e w3 ⟨rfl, hk⟩
      have hKK := (YK.out.alloc _).trans hk
      have ha := (Box.new w2 _ rfl 24 #[.int .i64 0, .int .i64 0, .int .i64 0, .int .i64 0, .int .i64 0, .int .i64 0, .int .i64 0]).keeps hk (fun h => h)
      clear hk YK
      have Ya := Lib.hid ha
      have za := ha.lt
      clear ha
      have YK := Lib.hid hKK
      clear hKK
      have ac0 := Ya.out.cell 0
      have ac1 := Ya.out.cell 1
      have ac2 := Ya.out.cell 2
      have ac3 := Ya.out.cell 3
      have ac4 := Ya.out.cell 4
      have ac5 := Ya.out.cell 5
      have ac6 := Ya.out.cell 6
      simp at ac0 ac1 ac2 ac3 ac4 ac5 ac6
      go_wp2
      go_ret
      exact ⟨rfl, (YK.out.alloc _).below⟩
    · have HRD := Lib.hid (fun W hW => read_same (aE := aE) (W := W) hW hy)
      have HIM := Lib.hid (fun W hW => (show Calls Tryd.prog 16 #[.agg #[.int .i64 s, .int .i64 k, .int .i64 f, .int .i64 t, .int .i64 m, .int .i64 u, .int .i64 v]] W (fun e w' => e = .returned (.bool true) ∧ Keeps noBlk W w') from by rw [← hy.1]; exact implPk_any s k f t m u v W hW))
      have HIA := Lib.hid (fun W hW => (show Calls Tryd.prog 13 #[.agg #[.int .i64 s, .int .i64 k, .int .i64 f, .int .i64 t, .int .i64 m, .int .i64 u, .int .i64 v]] W (RetTxt W l) from by rw [← hy.2, ← pkT_yes hy.1]; exact implText_any s k f t m u v W hW))
      have YK := Lib.hid (YK1.out.trans hk)
      clear hk YK1 hy
      go_wp2_with fail
      refine (HRD.out _ (HL.out.keeps (YK.out.alloc _))).mono ?_
      rintro e w3 ⟨rfl, hk⟩
      have hKK := (YK.out.alloc _).trans hk
      have ha := (Box.new w2 _ rfl 24 #[.int .i64 s, .int .i64 k, .int .i64 f, .int .i64 t, .int .i64 m, .int .i64 u, .int .i64 v]).keeps hk (fun h => h)
      clear hk YK
      have Ya := Lib.hid ha
      have za := ha.lt
      clear ha
      have YK := Lib.hid hKK
      clear hKK
      have ac0 := Ya.out.cell 0
      have ac1 := Ya.out.cell 1
      have ac2 := Ya.out.cell 2
      have ac3 := Ya.out.cell 3
      have ac4 := Ya.out.cell 4
      have ac5 := Ya.out.cell 5
      have ac6 := Ya.out.cell 6
      simp at ac0 ac1 ac2 ac3 ac4 ac5 ac6
      go_wp2_with fail
      refine (HIM.out _ (HL.out.keeps (YK.out.alloc _)).1).mono ?_
      rintro e w4 ⟨rfl, hk⟩
      clear ac0 ac1 ac2 ac3 ac4 ac5 ac6
      have ha := (Ya.out.alloc _).keeps hk (fun h => h)
      have hKK := (YK.out.alloc _).trans hk
      have hb := (Box.new w3 _ rfl 24 #[.int .i64 s, .int .i64 k, .int .i64 f, .int .i64 t, .int .i64 m, .int .i64 u, .int .i64 v]).keeps hk (fun h => h)
      clear hk YK Ya
      have Ya := Lib.hid ha
      have za := ha.lt
      clear ha
      have Yb := Lib.hid hb
      have zb := hb.lt
      clear hb
      have YK := Lib.hid hKK
      clear hKK
      have ac0 := Ya.out.cell 0
      have ac1 := Ya.out.cell 1
      have ac2 := Ya.out.cell 2
      have ac3 := Ya.out.cell 3
      have ac4 := Ya.out.cell 4
      have ac5 := Ya.out.cell 5
      have ac6 := Ya.out.cell 6
      simp at ac0 ac1 ac2 ac3 ac4 ac5 ac6
      have bc0 := Yb.out.cell 0
      have bc1 := Yb.out.cell 1
      have bc2 := Yb.out.cell 2
      have bc3 := Yb.out.cell 3
      have bc4 := Yb.out.cell 4
      have bc5 := Yb.out.cell 5
      have bc6 := Yb.out.cell 6
      simp at bc0 bc1 bc2 bc3 bc4 bc5 bc6
      go_wp2_with fail
      refine (HIA.out _ (HL.out.keeps YK.out).1).mono ?_
      rintro e w5 ⟨rfl, hk⟩
      clear ac0 ac1 ac2 ac3 ac4 ac5 ac6
      clear bc0 bc1 bc2 bc3 bc4 bc5 bc6
      have ha := (Ya.out).keeps hk (fun h => h)
      have hb := (Yb.out).keeps hk (fun h => h)
      have hKK := (YK.out).trans hk
      clear hk YK Ya Yb
      have Ya := Lib.hid ha
      have za := ha.lt
      clear ha
      have Yb := Lib.hid hb
      have zb := hb.lt
      clear hb
      have YK := Lib.hid hKK
      clear hKK
      have ac0 := Ya.out.cell 0
      have ac1 := Ya.out.cell 1
      have ac2 := Ya.out.cell 2
      have ac3 := Ya.out.cell 3
      have ac4 := Ya.out.cell 4
      have ac5 := Ya.out.cell 5
      have ac6 := Ya.out.cell 6
      simp at ac0 ac1 ac2 ac3 ac4 ac5 ac6
      have bc0 := Yb.out.cell 0
      have bc1 := Yb.out.cell 1
      have bc2 := Yb.out.cell 2
      have bc3 := Yb.out.cell 3
      have bc4 := Yb.out.cell 4
      have bc5 := Yb.out.cell 5
      have bc6 := Yb.out.cell 6
      simp at bc0 bc1 bc2 bc3 bc4 bc5 bc6
      go_wp2
      go_ret
      exact ⟨by simp, YK.out.below⟩
  · go_enter Tryd.func4, Tryd.ntmps4
    go_wp2
    go_ret
    exact ⟨rfl, Below.refl _ _⟩

namespace pkstrict
set_option maxRecDepth 100000 in
theorem lifted (os : Os) (started : os.Started) (H : Type) (enc : TypeId × Value → H) :
    ReturnsInHanded {} Tryd.checked os 4 .any (fun w args => (Rows.fnPacketStrictSpec.pre enc Tryd.prog Tryd.f4 [] false w args ∧ laidMetH Tryd.prog Rows.fnPacketStrictRow.laid w) ∧ sizedMet enc Tryd.prog Tryd.f4 (OpenSpec.ofChange Rows.fnPacketStrictSpec) false w args)
      (Rows.fnPacketStrictSpec.post enc Tryd.prog Tryd.f4 false true false false) := by
  refine handed_and_shaped (C := Tryd.checked) (X := fun w _ => laidMetH Tryd.prog Rows.fnPacketStrictRow.laid w) (fun _ _ _ hh h => h.of_heap hh) own started (by kernel_rfl) Tryd.func4
    (ChangeSpec.witness_shaped (enc := enc) (C := Tryd.checked) (os := os) (X := fun w _ => laidMetH Tryd.prog Rows.fnPacketStrictRow.laid w) false (seatWorld os) #[.slice none 0 0] 8 rfl (World.shaped_of_RefB (by kernel_rfl) (by kernel_rfl)) (by kernel_rfl) (by kernel_rfl) (by kernel_rfl) (door_met10 os _)) ?_
  intro W base args ds gs before hval0 hW hL hsh
  have hval : ∀ (j : Nat) t v, Tryd.f4.params[j]? = some t → args[j]? = some v → Value.okWide Tryd.prog W .any base t v := hval0
  have hW' := hW
  obtain ⟨p, q, hA0, hV, rfl, hfz, hnd⟩ := hW
  have hA : DataW.TrodAll enc Tryd.prog W 0 (fun _ => true) true Tryd.f4.params.toList args.toList ds p := hA0
  rw [Tryd.params4 ] at hA hval
  obtain ⟨g0, g1, g2, rfl⟩ := vars3 hV
  obtain ⟨pv0, qv0, hv0, hs0, rfl⟩ := split_vars hV
  obtain ⟨pv1, pv2, hv1, hv2, rfl⟩ := split_vars hs0
  obtain ⟨aE, hLib, hvE⟩ := libs_var hL hsh
  obtain ⟨v0, d0, rfl, rfl, h0⟩ := trodAll_one hA
  obtain ⟨a0, len0, cap0, rfl⟩ := okWide_slice Tryd.underlying22 (hval 0 22 v0 rfl rfl)
  have k0 := h0
  have lt0 : ∀ x ∈ p, x.block < W.heap.size := by obtain ⟨m, hm⟩ := k0; exact DataW.trod_lt m _ _ _ hm
  obtain ⟨z0, w0, e0, f0⟩ := bytes_of_trod h0
  clear hA0 hval0
  refine (walk_pkstrict W aE hLib a0 len0 cap0 z0 w0 e0 f0).mono fun e W' ⟨he, bel⟩ => ?_
  subst he
  exact ⟨_, rfl, _, _, _, [], _, _, hW', trodAll_mk1 (shut_bool Tryd.underlying4 _), (trodAll_mk1 (Below.trod laidOut (by kernel_rfl) (of_decide_eq_true (by kernel_rfl)) k0 bel lt0)), join_vars (keep_iface (g := 0) (by kernel_rfl) (by kernel_rfl) Tryd.underlying48 hvE trivial (var_keeps hvE (Below.keeps bel _)) hv0) (join_vars (Below.trodVars laidOut bel (by kernel_rfl) hv1) (Below.trodVars laidOut bel (by kernel_rfl) hv2)), bel.frame _, fun h => by cases h⟩
end pkstrict

theorem fnPacketStrict_row : Rows.FnPacketStrictSaid :=
  OpenClaim.holds_of_wide 4 Tryd.f4 rfl rfl rfl rfl rfl rfl rfl ⟨rfl, rfl, rfl, rfl, rfl⟩ rfl rfl rfl rfl rfl (by kernel_rfl) Tryd.func4 (by kernel_rfl)
    (of_decide_eq_true (by kernel_rfl)) (by unfold Func.isWrapper; first | (rw [if_pos (by decide +kernel)]; kernel_rfl) | (rw [if_neg (by decide +kernel)]; exact ⟨rfl, rfl⟩))
    (fun os started H enc _ => pkstrict.lifted os started H enc)

theorem fnPacketStrict_card : Rows.FnPacketStrictCardSaid :=
  Claim7.holds_tied_plain_at .later [] Rows.fnPacketStrictCard.laidKinds true Rows.fnPacketStrictCard.stood.harness true
    fnPacketStrict_row (fun _ h => by cases h) (by kernel_rfl) (fun _ h => by cases h) fnPacketStrict_row_tie rfl ⟨rfl, rfl⟩ (by kernel_rfl) rfl
    (fun g fn hg hfn => by
      obtain rfl : g = 4 := Option.some.inj ((show Tryd.prog.funcNamed Rows.fnPacketStrictRow.func = some 4 by kernel_rfl).symm.trans hg) |>.symm
      obtain rfl : fn = Tryd.f4 := (Option.some.inj (Tryd.func4.symm.trans hfn)).symm
      refine ⟨by kernel_rfl, fun j t ht => ?_⟩
      have h3 : ∀ t ∈ Tryd.f4.params.toList, Tryd.prog.wantsStandIn t = false := of_decide_eq_true (by kernel_rfl)
      exact h3 t (Array.mem_toList_iff.2 (Array.mem_of_getElem? ht)))
    (by kernel_rfl)
#print axioms fnPacketStrict_card
end Go.Proofs.YtjbllfnfnkghgaaDoor
