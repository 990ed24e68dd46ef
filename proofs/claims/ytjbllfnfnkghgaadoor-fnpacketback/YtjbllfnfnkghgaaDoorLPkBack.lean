/- FnPacketBack: a packet is read back from its text, whatever is drawn. -/
import Derived.Test.YtjbllfnfnkghgaaDoorPkF3
import Derived.Test.YtjbllfnfnkghgaaDoorPkST
import Derived.Test.YtjbllfnfnkghgaaDoorPkDraw2
import Derived.Test.YtjbllfnfnkghgaaDoorPkF4
set_option linter.unusedVariables false
set_option linter.unusedSimpArgs false
namespace Go.Proofs.YtjbllfnfnkghgaaDoor
open Go.RowKit Go.ChangeShapes Go.WideShapes Go.ChangeAt

set_option maxRecDepth 100000 in
set_option maxHeartbeats 4000000 in
theorem walk_pkback (w : World) (aE : Addr) (hL : Libs w aE) (a0 : Option Addr) (len0 cap0 : Nat) (z0 : List Int) (h : Bytes w a0 len0 z0) (e0 : len0 ≤ cap0) (f0 : cap0 ≤ maxLen) :
    Calls Tryd.prog 3 #[.slice a0 len0 cap0] w fun e w' => e = .returned (.bool true) ∧ Below w.heap.size w w' := by
  have H := Lib.hid h
  have HL := Lib.hid hL
  clear h hL
  by_cases hs : (len0 : Int) ≤ 1048576
  · go_enter Tryd.func3, Tryd.ntmps3
    go_wp2_with fail
    refine (drawPkText_any a0 len0 _ z0 _ H.out e0 f0).mono ?_
    rintro e w1 ⟨s, k, f, t, m, u, v, rfl, hk⟩
    have YK := Lib.hid hk
    clear hk
    obtain ⟨o, ho⟩ : ∃ o, pkT s k f t m u v = o := ⟨_, rfl⟩
    have HIA := Lib.hid (fun W hW => (show Calls Tryd.prog 13 #[.agg #[.int .i64 s, .int .i64 k, .int .i64 f, .int .i64 t, .int .i64 m, .int .i64 u, .int .i64 v]] W (RetTxt W o) from by rw [← ho]; exact implText_any s k f t m u v W hW))
    have HSA := Lib.hid (fun W => (show Calls Tryd.prog 14 #[.agg #[.int .i64 s, .int .i64 k, .int .i64 f, .int .i64 t, .int .i64 m, .int .i64 u, .int .i64 v]] W (RetTxt W o) from by rw [← ho]; exact specText_any s k f t m u v W))
    have HO := Lib.hid ho
    clear ho
    go_wp2_with fail
    refine (HIA.out _ ((HL.out.keeps (YK.out.alloc _)).1)).mono ?_
    rintro e w2 ⟨rfl, hk⟩
    have hKK := (YK.out.alloc _).trans hk
    have hp := (Box.new w1 _ rfl 24 #[.int .i64 s, .int .i64 k, .int .i64 f, .int .i64 t, .int .i64 m, .int .i64 u, .int .i64 v]).keeps hk (fun h => h)
    clear hk YK
    have Yp := Lib.hid hp
    have zp := hp.lt
    clear hp
    have YK := Lib.hid hKK
    clear hKK
    have pc0 := Yp.out.cell 0
    have pc1 := Yp.out.cell 1
    have pc2 := Yp.out.cell 2
    have pc3 := Yp.out.cell 3
    have pc4 := Yp.out.cell 4
    have pc5 := Yp.out.cell 5
    have pc6 := Yp.out.cell 6
    simp at pc0 pc1 pc2 pc3 pc4 pc5 pc6
    go_wp2_with fail
    refine (HSA.out _).mono ?_
    rintro e w3 ⟨rfl, hk⟩
    clear pc0 pc1 pc2 pc3 pc4 pc5 pc6
    have hp := (Yp.out).keeps hk (fun h => h)
    have hKK := (YK.out).trans hk
    clear hk YK Yp
    have Yp := Lib.hid hp
    have zp := hp.lt
    clear hp
    have YK := Lib.hid hKK
    clear hKK
    have pc0 := Yp.out.cell 0
    have pc1 := Yp.out.cell 1
    have pc2 := Yp.out.cell 2
    have pc3 := Yp.out.cell 3
    have pc4 := Yp.out.cell 4
    have pc5 := Yp.out.cell 5
    have pc6 := Yp.out.cell 6
    simp at pc0 pc1 pc2 pc3 pc4 pc5 pc6
    rcases Bool.eq_false_or_eq_true (pkB s k f t m u v) with ha | ha
    · have e1' := HO.out
      rw [pkT_yes ha] at e1'
      have n1 : o ≠ [] := by rw [← e1']; exact txt_ne _ _ _ _ _ _ _ ha
      have i1 : o.isEmpty = false := by simpa using n1
      have HRp : Hid (Reads o s k f t m u v) := Lib.hid ⟨ha, e1'⟩
      have HRD := Lib.hid (fun W hW => read_same (aE := aE) (W := W) hW HRp.out)
      have HIM := Lib.hid (fun W hW => (show Calls Tryd.prog 16 #[.agg #[.int .i64 s, .int .i64 k, .int .i64 f, .int .i64 t, .int .i64 m, .int .i64 u, .int .i64 v]] W (fun e w' => e = .returned (.bool true) ∧ Keeps noBlk W w') from by rw [← ha]; exact implPk_any s k f t m u v W hW))
      clear ha e1' n1 HO HIA
      go_wp2_with fail
      refine (HRD.out _ (HL.out.keeps YK.out)).mono ?_
      rintro e w4 ⟨rfl, hk⟩
      clear pc0 pc1 pc2 pc3 pc4 pc5 pc6
      have hp := (Yp.out).keeps hk (fun h => h)
      have hKK := (YK.out).trans hk
      clear hk YK Yp
      have Yp := Lib.hid hp
      have zp := hp.lt
      clear hp
      have YK := Lib.hid hKK
      clear hKK
      have pc0 := Yp.out.cell 0
      have pc1 := Yp.out.cell 1
      have pc2 := Yp.out.cell 2
      have pc3 := Yp.out.cell 3
      have pc4 := Yp.out.cell 4
      have pc5 := Yp.out.cell 5
      have pc6 := Yp.out.cell 6
      simp at pc0 pc1 pc2 pc3 pc4 pc5 pc6
      go_wp2_with fail
      refine (HIM.out _ (HL.out.keeps (YK.out.alloc _)).1).mono ?_
      rintro e w5 ⟨rfl, hk⟩
      clear pc0 pc1 pc2 pc3 pc4 pc5 pc6
      have hp := (Yp.out.alloc _).keeps hk (fun h => h)
      have hKK := (YK.out.alloc _).trans hk
      have hx := (Box.new w4 _ rfl 24 #[.int .i64 s, .int .i64 k, .int .i64 f, .int .i64 t, .int .i64 m, .int .i64 u, .int .i64 v]).keeps hk (fun h => h)
      clear hk YK Yp
      have Yp := Lib.hid hp
      have zp := hp.lt
      clear hp
      have Yx := Lib.hid hx
      have zx := hx.lt
      clear hx
      have YK := Lib.hid hKK
      clear hKK
      have pc0 := Yp.out.cell 0
      have pc1 := Yp.out.cell 1
      have pc2 := Yp.out.cell 2
      have pc3 := Yp.out.cell 3
      have pc4 := Yp.out.cell 4
      have pc5 := Yp.out.cell 5
      have pc6 := Yp.out.cell 6
      simp at pc0 pc1 pc2 pc3 pc4 pc5 pc6
      have xc0 := Yx.out.cell 0
      have xc1 := Yx.out.cell 1
      have xc2 := Yx.out.cell 2
      have xc3 := Yx.out.cell 3
      have xc4 := Yx.out.cell 4
      have xc5 := Yx.out.cell 5
      have xc6 := Yx.out.cell 6
      simp at xc0 xc1 xc2 xc3 xc4 xc5 xc6
      go_wp2
      go_ret
      exact ⟨rfl, YK.out.below⟩
    · have e1' := HO.out
      rw [pkT_no ha] at e1'
      subst e1'
      clear ha HO
      go_wp2_with fail
      refine (HSA.out _).mono ?_
      rintro e w4 ⟨rfl, hk⟩
      clear pc0 pc1 pc2 pc3 pc4 pc5 pc6
      have hp := (Yp.out).keeps hk (fun h => h)
      have hKK := (YK.out).trans hk
      clear hk YK Yp
      have Yp := Lib.hid hp
      have zp := hp.lt
      clear hp
      have YK := Lib.hid hKK
      clear hKK
      have pc0 := Yp.out.cell 0
      have pc1 := Yp.out.cell 1
      have pc2 := Yp.out.cell 2
      have pc3 := Yp.out.cell 3
      have pc4 := Yp.out.cell 4
      have pc5 := Yp.out.cell 5
      have pc6 := Yp.out.cell 6
      simp at pc0 pc1 pc2 pc3 pc4 pc5 pc6
      go_wp2
      go_ret
      exact ⟨by simp, YK.out.below⟩
  · go_enter Tryd.func3, Tryd.ntmps3
    go_wp2
    go_ret
    exact ⟨rfl, Below.refl _ _⟩

namespace pkback
set_option maxRecDepth 100000 in
theorem lifted (os : Os) (started : os.Started) (H : Type) (enc : TypeId × Value → H) :
    ReturnsInHanded {} Tryd.checked os 3 .any (fun w args => (Rows.fnPacketBackSpec.pre enc Tryd.prog Tryd.f3 [] false w args ∧ laidMetH Tryd.prog Rows.fnPacketBackRow.laid w) ∧ sizedMet enc Tryd.prog Tryd.f3 (OpenSpec.ofChange Rows.fnPacketBackSpec) false w args)
      (Rows.fnPacketBackSpec.post enc Tryd.prog Tryd.f3 false true false false) := by
  refine handed_and_shaped (C := Tryd.checked) (X := fun w _ => laidMetH Tryd.prog Rows.fnPacketBackRow.laid w) (fun _ _ _ hh h => h.of_heap hh) own started (by kernel_rfl) Tryd.func3
    (ChangeSpec.witness_shaped (enc := enc) (C := Tryd.checked) (os := os) (X := fun w _ => laidMetH Tryd.prog Rows.fnPacketBackRow.laid w) false (seatWorld os) #[.slice none 0 0] 8 rfl (World.shaped_of_RefB (by kernel_rfl) (by kernel_rfl)) (by kernel_rfl) (by kernel_rfl) (by kernel_rfl) (door_met10 os _)) ?_
  intro W base args ds gs before hval0 hW hL hsh
  have hval : ∀ (j : Nat) t v, Tryd.f3.params[j]? = some t → args[j]? = some v → Value.okWide Tryd.prog W .any base t v := hval0
  have hW' := hW
  obtain ⟨p, q, hA0, hV, rfl, hfz, hnd⟩ := hW
  have hA : DataW.TrodAll enc Tryd.prog W 0 (fun _ => true) true Tryd.f3.params.toList args.toList ds p := hA0
  rw [Tryd.params3 ] at hA hval
  obtain ⟨g0, g1, g2, rfl⟩ := vars3 hV
  obtain ⟨pv0, qv0, hv0, hs0, rfl⟩ := split_vars hV
  obtain ⟨pv1, pv2, hv1, hv2, rfl⟩ := split_vars hs0
  obtain ⟨aE, hLib, hvE⟩ := libs_var hL hsh
  obtain ⟨v0, d0, rfl, rfl, h0⟩ := trodAll_one hA
  obtain ⟨a0, len0, cap0, rfl⟩ := okWide_slice Tryd.underlying22 (hval 0 22 v0 rfl rfl)
  have k0 := h0
  have lt0 : ∀ x ∈ p, x.block < W.heap.size := by obtain ⟨m, hm⟩ := k0; exact DataW.trod_lt m _ _ _ hm
  obtain ⟨z0, w0, e0, f0⟩ := bytes_of_trod h0
  clear hA0 hval0
  refine (walk_pkback W aE hLib a0 len0 cap0 z0 w0 e0 f0).mono fun e W' ⟨he, bel⟩ => ?_
  subst he
  exact ⟨_, rfl, _, _, _, [], _, _, hW', trodAll_mk1 (shut_bool Tryd.underlying4 _), (trodAll_mk1 (Below.trod laidOut (by kernel_rfl) (of_decide_eq_true (by kernel_rfl)) k0 bel lt0)), join_vars (Below.trodVars laidOut bel (by kernel_rfl) hv0) (join_vars (Below.trodVars laidOut bel (by kernel_rfl) hv1) (keep_iface (g := 0) (by kernel_rfl) (by kernel_rfl) Tryd.underlying48 hvE trivial (var_keeps hvE (Below.keeps bel _)) hv2)), bel.frame _, fun h => by cases h⟩
end pkback

theorem fnPacketBack_row : Rows.FnPacketBackSaid :=
  OpenClaim.holds_of_wide 3 Tryd.f3 rfl rfl rfl rfl rfl rfl rfl ⟨rfl, rfl, rfl, rfl, rfl⟩ rfl rfl rfl rfl rfl (by kernel_rfl) Tryd.func3 (by kernel_rfl)
    (of_decide_eq_true (by kernel_rfl)) (by unfold Func.isWrapper; first | (rw [if_pos (by decide +kernel)]; kernel_rfl) | (rw [if_neg (by decide +kernel)]; exact ⟨rfl, rfl⟩))
    (fun os started H enc _ => pkback.lifted os started H enc)

theorem fnPacketBack_card : Rows.FnPacketBackCardSaid :=
  Claim7.holds_tied_plain_at .later [] Rows.fnPacketBackCard.laidKinds true Rows.fnPacketBackCard.stood.harness true
    fnPacketBack_row (fun _ h => by cases h) (by kernel_rfl) (fun _ h => by cases h) fnPacketBack_row_tie rfl ⟨rfl, rfl⟩ (by kernel_rfl) rfl
    (fun g fn hg hfn => by
      obtain rfl : g = 3 := Option.some.inj ((show Tryd.prog.funcNamed Rows.fnPacketBackRow.func = some 3 by kernel_rfl).symm.trans hg) |>.symm
      obtain rfl : fn = Tryd.f3 := (Option.some.inj (Tryd.func3.symm.trans hfn)).symm
      refine ⟨by kernel_rfl, fun j t ht => ?_⟩
      have h3 : ∀ t ∈ Tryd.f3.params.toList, Tryd.prog.wantsStandIn t = false := of_decide_eq_true (by kernel_rfl)
      exact h3 t (Array.mem_toList_iff.2 (Array.mem_of_getElem? ht)))
    (by kernel_rfl)
#print axioms fnPacketBack_card
end Go.Proofs.YtjbllfnfnkghgaaDoor
