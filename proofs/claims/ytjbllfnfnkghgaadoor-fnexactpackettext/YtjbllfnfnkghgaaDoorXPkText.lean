/- FnExactPacketText: PacketText answers as the model, for every packet; the tables read as the program's text lays them. -/
import Derived.Test.YtjbllfnfnkghgaaDoorPkF
import Derived.Test.YtjbllfnfnkghgaaDoorPkST
import Derived.Test.YtjbllfnfnkghgaaDoorPkTo
set_option linter.unusedVariables false
set_option linter.unusedSimpArgs false
namespace Go.Proofs.YtjbllfnfnkghgaaDoor
open Go.RowKit Go.ChangeShapes Go.WideShapes Go.ChangeAt

set_option maxHeartbeats 1000000 in
theorem walk_xpktext (s k f t m u v : Int) (w : World) (ht : Tabs w) :
    Calls Tryd.prog 10 #[.agg #[.int .i64 s, .int .i64 k, .int .i64 f, .int .i64 t, .int .i64 m, .int .i64 u, .int .i64 v]] w fun e w' => e = .returned (.bool true) ∧ Below w.heap.size w w' := by
  have HT := Lib.hid ht
  clear ht
  obtain ⟨o, ho⟩ : ∃ o, pkT s k f t m u v = o := ⟨_, rfl⟩
  have HSP := Lib.hid (fun W => (show Calls Tryd.prog 14 #[.agg #[.int .i64 s, .int .i64 k, .int .i64 f, .int .i64 t, .int .i64 m, .int .i64 u, .int .i64 v]] W (RetTxt W o) from by rw [← ho]; exact specText_any s k f t m u v W))
  have HIM := Lib.hid (fun W hW => (show Calls Tryd.prog 13 #[.agg #[.int .i64 s, .int .i64 k, .int .i64 f, .int .i64 t, .int .i64 m, .int .i64 u, .int .i64 v]] W (RetTxt W o) from by rw [← ho]; exact implText_any s k f t m u v W hW))
  clear ho
  go_enter Tryd.func10, Tryd.ntmps10
  go_wp2_with fail
  refine (toPk_any s k f t m u v _).mono ?_
  rintro e w1 ⟨rfl, hk1⟩
  have hb1 := (Box.new w _ rfl 33 #[.int .i64 s, .int .i64 k, .int .i64 f, .int .i64 t, .int .i64 m, .int .i64 u, .int .i64 v]).keeps hk1 (fun h => h)
  have hK1 := ((Keeps.refl noBlk w).alloc (.cells #[.int .i64 s, .int .i64 k, .int .i64 f, .int .i64 t, .int .i64 m, .int .i64 u, .int .i64 v] 33)).trans hk1
  have HB1 := Lib.hid hb1
  have HK1 := Lib.hid hK1
  clear hb1 hK1 hk1
  go_wp2_with fail
  refine (HSP.out _).mono ?_
  rintro e w2 ⟨rfl, hk2⟩
  have hb2 := HB1.out.keeps hk2 (fun h => h)
  have HB2 := Lib.hid hb2
  have HK2 := Lib.hid (HK1.out.trans hk2)
  have c0 := hb2.cell 0
  have c1 := hb2.cell 1
  have c2 := hb2.cell 2
  have c3 := hb2.cell 3
  have c4 := hb2.cell 4
  have c5 := hb2.cell 5
  have c6 := hb2.cell 6
  simp at c0 c1 c2 c3 c4 c5 c6
  clear hb2 hk2 HB1 HK1
  go_wp2_with fail
  refine (toPk_any s k f t m u v _).mono ?_
  rintro e w3 ⟨rfl, hk3⟩
  have HK3 := Lib.hid (HK2.out.trans hk3)
  clear hk3 HK2 c0 c1 c2 c3 c4 c5 c6
  go_wp2_with fail
  refine (HIM.out _ (HT.out.keeps HK3.out)).mono ?_
  rintro e w4 ⟨rfl, hk4⟩
  have HK4 := Lib.hid (HK3.out.trans hk4)
  clear hk4
  go_wp2
  go_ret
  exact ⟨rfl, HK4.out.below⟩

namespace xpktext
set_option maxRecDepth 100000 in
theorem lifted (os : Os) (started : os.Started) (H : Type) (enc : TypeId × Value → H) :
    ReturnsInHanded {} Tryd.checked os 10 .any (fun w args => (Rows.fnExactPacketTextSpec.pre enc Tryd.prog Tryd.f10 [] false w args ∧ laidMetH Tryd.prog Rows.fnExactPacketTextRow.laid w) ∧ sizedMet enc Tryd.prog Tryd.f10 (OpenSpec.ofChange Rows.fnExactPacketTextSpec) false w args)
      (Rows.fnExactPacketTextSpec.post enc Tryd.prog Tryd.f10 false true false false) := by
  refine returnsInHanded_of_change_and (C := Tryd.checked) (X := fun w _ => laidMetH Tryd.prog Rows.fnExactPacketTextRow.laid w) (fun _ _ _ hh h => h.of_heap hh) own started (by kernel_rfl) Tryd.func10
    (ChangeSpec.witness_shaped (enc := enc) (C := Tryd.checked) (os := os) (X := fun w _ => laidMetH Tryd.prog Rows.fnExactPacketTextRow.laid w) false (World.doorLaid Tryd.prog 101 os) #[.agg #[.int .i64 1, .int .i64 1, .int .i64 1, .int .i64 1, .int .i64 1, .int .i64 1, .int .i64 1]] 8 rfl (World.shaped_of_RefB (by kernel_rfl) (by kernel_rfl)) (by kernel_rfl) (by kernel_rfl) (by kernel_rfl) (door_met5 os _)) ?_
  intro W base args ds gs before hval0 hW _ _ hL _
  have hval : ∀ (j : Nat) t v, Tryd.f10.params[j]? = some t → args[j]? = some v → Value.okWide Tryd.prog W .any base t v := hval0
  have hW' := hW
  obtain ⟨p, q, hA0, hV, rfl, hfz, hnd⟩ := hW
  have hA : DataW.TrodAll enc Tryd.prog W 0 (fun _ => true) true Tryd.f10.params.toList args.toList ds p := hA0
  rw [Tryd.params10 ] at hA hval
  obtain ⟨g0, g1, rfl⟩ := vars2 hV
  obtain ⟨v0, d0, rfl, rfl, h0⟩ := trodAll_one hA
  have k0 := h0
  have lt0 : ∀ x ∈ p, x.block < W.heap.size := by obtain ⟨m, hm⟩ := k0; exact DataW.trod_lt m _ _ _ hm
  obtain ⟨s, k, f, t, m, u, v, rfl, i0, i1, i2, i3, i4, i5, i6⟩ := pk_of_trod (hval 0 33 v0 rfl rfl) h0
  clear hA0 hval0
  refine (walk_xpktext s k f t m u v W (tabs_of_laid5 hL)).mono fun e W' ⟨he, bel⟩ => ?_
  subst he
  exact ⟨_, rfl, _, _, _, [], _, _, hW', trodAll_mk1 (shut_bool Tryd.underlying4 _), (trodAll_mk1 (Below.trod laidOut (by kernel_rfl) (of_decide_eq_true (by kernel_rfl)) k0 bel lt0)), Below.trodVars laidOut bel (by kernel_rfl) hV, bel.frame _, fun h => by cases h⟩
end xpktext

theorem fnExactPacketText_row : Rows.FnExactPacketTextSaid :=
  OpenClaim.holds_of_wide 10 Tryd.f10 rfl rfl rfl rfl rfl rfl rfl ⟨rfl, rfl, rfl, rfl, rfl⟩ rfl rfl rfl rfl rfl (by kernel_rfl) Tryd.func10 (by kernel_rfl)
    (of_decide_eq_true (by kernel_rfl)) (by unfold Func.isWrapper; first | (rw [if_pos (by decide +kernel)]; kernel_rfl) | (rw [if_neg (by decide +kernel)]; exact ⟨rfl, rfl⟩))
    (fun os started H enc _ => xpktext.lifted os started H enc)

theorem fnExactPacketText_card : Rows.FnExactPacketTextCardSaid :=
  Claim7.holds_tied_plain_at .later [] Rows.fnExactPacketTextCard.laidKinds true Rows.fnExactPacketTextCard.stood.harness true
    fnExactPacketText_row (fun _ h => by cases h) (by kernel_rfl) (fun _ h => by cases h) fnExactPacketText_row_tie rfl ⟨rfl, rfl⟩ (by kernel_rfl) rfl
    (fun g fn hg hfn => by
      obtain rfl : g = 10 := Option.some.inj ((show Tryd.prog.funcNamed Rows.fnExactPacketTextRow.func = some 10 by kernel_rfl).symm.trans hg) |>.symm
      obtain rfl : fn = Tryd.f10 := (Option.some.inj (Tryd.func10.symm.trans hfn)).symm
      refine ⟨by kernel_rfl, fun j t ht => ?_⟩
      have h3 : ∀ t ∈ Tryd.f10.params.toList, Tryd.prog.wantsStandIn t = false := of_decide_eq_true (by kernel_rfl)
      exact h3 t (Array.mem_toList_iff.2 (Array.mem_of_getElem? ht)))
    (by kernel_rfl)
#print axioms fnExactPacketText_card
end Go.Proofs.YtjbllfnfnkghgaaDoor
