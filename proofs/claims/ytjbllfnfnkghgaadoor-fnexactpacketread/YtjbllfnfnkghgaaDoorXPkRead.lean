/- FnExactPacketRead: PacketRead answers as the model, for every text; the variables read as the program's text lays them. -/
import Derived.Test.YtjbllfnfnkghgaaDoorPkF4
import Derived.Test.YtjbllfnfnkghgaaDoorPkSR
import Derived.ChangeMaps5
set_option linter.unusedVariables false
set_option linter.unusedSimpArgs false
namespace Go.Proofs.YtjbllfnfnkghgaaDoor
open Go.RowKit Go.ChangeShapes Go.WideShapes Go.ChangeAt

set_option maxRecDepth 100000 in
set_option maxHeartbeats 1000000 in
theorem eqPk_yes (s k f t m u v : Int) (w : World) : Calls Tryd.prog 22 #[.agg #[.int .i64 s, .int .i64 k, .int .i64 f, .int .i64 t, .int .i64 m, .int .i64 u, .int .i64 v], .agg #[.int .i64 s, .int .i64 k, .int .i64 f, .int .i64 t, .int .i64 m, .int .i64 u, .int .i64 v]] w fun e w' => e = .returned (.bool true) ∧ Keeps noBlk w w' := by
  go_enter Tryd.func22, Tryd.ntmps22
  go_wp2
  go_ret
  exact ⟨rfl, ((Keeps.refl _ _).alloc _).alloc _⟩

set_option maxRecDepth 100000 in
set_option maxHeartbeats 2000000 in
theorem walk_xpkread (l : List UInt8) (w : World) (aE : Addr) (hL : Libs w aE) :
    Calls Tryd.prog 11 #[.string ⟨l.toArray⟩] w fun e w' => e = .returned (.bool true) ∧ Below w.heap.size w w' := by
  have HL := Lib.hid hL
  clear hL
  by_cases hs : (l.length : Int) ≤ 1048576
  · have HSP := Lib.hid (fun W => specRead_any l W)
    go_enter Tryd.func11, Tryd.ntmps11
    go_wp2_with fail
    refine (HSP.out _).mono ?_
    rintro e w1 (⟨hno, rfl, hk⟩ | ⟨s, k, f, t, m, u, v, hy, rfl, hk⟩)
    · have HIM := Lib.hid (fun W hW => read_none (aE := aE) (W := W) hW hno)
      clear hno
      have YK := Lib.hid hk
      clear hk HSP
      go_wp2_with fail
      refine (HIM.out _ (HL.out.keeps (YK.out.alloc _))).mono ?_
      rintro e w2 ⟨rfl, hk⟩
      have hKK := (YK.out.alloc _).trans hk
      have ha := (Box.new w1 _ rfl 24 #[.int .i64 0, .int .i64 0, .int .i64 0, .int .i64 0, .int .i64 0, .int .i64 0, .int .i64 0]).keeps hk (fun h => h)
      clear hk YK
      have Ya := Lib.hid ha
      have za := ha.lt
      clear ha
      have YK := Lib.hid hKK
      clear hKK
      have ac0 := Ya.out.cell 0
      have ac1 := Ya.out.cell 1
      have ac2 := Ya.out.cell 2
      have ac3 := Ya.out.cell 3
      have ac4 := Ya.out.cell 4
      have ac5 := Ya.out.cell 5
      have ac6 := Ya.out.cell 6
      simp at ac0 ac1 ac2 ac3 ac4 ac5 ac6
      go_wp2_with fail
      refine (eqPk_yes 0 0 0 0 0 0 0 _).mono ?_
      rintro e w3 ⟨rfl, hk⟩
      clear ac0 ac1 ac2 ac3 ac4 ac5 ac6
      have ha := (Ya.out.alloc _).keeps hk (fun h => h)
      have hKK := (YK.out.alloc _).trans hk
      have hb := (Box.new w2 _ rfl 24 #[.int .i64 0, .int .i64 0, .int .i64 0, .int .i64 0, .int .i64 0, .int .i64 0, .int .i64 0]).keeps hk (fun h => h)
      clear hk YK Ya
      have Ya := Lib.hid ha
      have za := ha.lt
      clear ha
      have Yb := Lib.hid hb
      have zb := hb.lt
      clear hb
      have YK := Lib.hid hKK
      clear hKK
      have ac0 := Ya.out.cell 0
      have ac1 := Ya.out.cell 1
      have ac2 := Ya.out.cell 2
      have ac3 := Ya.out.cell 3
      have ac4 := Ya.out.cell 4
      have ac5 := Ya.out.cell 5
      have ac6 := Ya.out.cell 6
      simp at ac0 ac1 ac2 ac3 ac4 ac5 ac6
      have bc0 := Yb.out.cell 0
      have bc1 := Yb.out.cell 1
      have bc2 := Yb.out.cell 2
      have bc3 := Yb.out.cell 3
      have bc4 := Yb.out.cell 4
      have bc5 := Yb.out.cell 5
      have bc6 := Yb.out.cell 6
      simp at bc0 bc1 bc2 bc3 bc4 bc5 bc6
      go_wp2
      go_ret
      exact ⟨rfl, YK.out.below⟩
    · have HIM := Lib.hid (fun W hW => read_same (aE := aE) (W := W) hW hy)
      clear hy
      have YK := Lib.hid hk
      clear hk HSP
      go_wp2_with fail
      refine (HIM.out _ (HL.out.keeps (YK.out.alloc _))).mono ?_
      rintro e w2 ⟨rfl, hk⟩
      have hKK := (YK.out.alloc _).trans hk
      have ha := (Box.new w1 _ rfl 24 #[.int .i64 s, .int .i64 k, .int .i64 f, .int .i64 t, .int .i64 m, .int .i64 u, .int .i64 v]).keeps hk (fun h => h)
      clear hk YK
      have Ya := Lib.hid ha
      have za := ha.lt
      clear ha
      have YK := Lib.hid hKK
      clear hKK
      have ac0 := Ya.out.cell 0
      have ac1 := Ya.out.cell 1
      have ac2 := Ya.out.cell 2
      have ac3 := Ya.out.cell 3
      have ac4 := Ya.out.cell 4
      have ac5 := Ya.out.cell 5
      have ac6 := Ya.out.cell 6
      simp at ac0 ac1 ac2 ac3 ac4 ac5 ac6
      go_wp2_with fail
      refine (eqPk_yes s k f t m u v _).mono ?_
      rintro e w3 ⟨rfl, hk⟩
      clear ac0 ac1 ac2 ac3 ac4 ac5 ac6
      have ha := (Ya.out.alloc _).keeps hk (fun h => h)
      have hKK := (YK.out.alloc _).trans hk
      have hb := (Box.new w2 _ rfl 24 #[.int .i64 s, .int .i64 k, .int .i64 f, .int .i64 t, .int .i64 m, .int .i64 u, .int .i64 v]).keeps hk (fun h => h)
      clear hk YK Ya
      have Ya := Lib.hid ha
      have za := ha.lt
      clear ha
      have Yb := Lib.hid hb
      have zb := hb.lt
      clear hb
      have YK := Lib.hid hKK
      clear hKK
      have ac0 := Ya.out.cell 0
      have ac1 := Ya.out.cell 1
      have ac2 := Ya.out.cell 2
      have ac3 := Ya.out.cell 3
      have ac4 := Ya.out.cell 4
      have ac5 := Ya.out.cell 5
      have ac6 := Ya.out.cell 6
      simp at ac0 ac1 ac2 ac3 ac4 ac5 ac6
      have bc0 := Yb.out.cell 0
      have bc1 := Yb.out.cell 1
      have bc2 := Yb.out.cell 2
      have bc3 := Yb.out.cell 3
      have bc4 := Yb.out.cell 4
      have bc5 := Yb.out.cell 5
      have bc6 := Yb.out.cell 6
      simp at bc0 bc1 bc2 bc3 bc4 bc5 bc6
      go_wp2
      go_ret
      exact ⟨rfl, YK.out.below⟩
  · go_enter Tryd.func11, Tryd.ntmps11
    go_wp2
    go_ret
    exact ⟨rfl, Below.refl _ _⟩

namespace xpkread
set_option maxRecDepth 100000 in
theorem lifted (os : Os) (started : os.Started) (H : Type) (enc : TypeId × Value → H) :
    ReturnsInHanded {} Tryd.checked os 11 .any (fun w args => (Rows.fnExactPacketReadSpec.pre enc Tryd.prog Tryd.f11 [] false w args ∧ laidMetH Tryd.prog Rows.fnExactPacketReadRow.laid w) ∧ sizedMet enc Tryd.prog Tryd.f11 (OpenSpec.ofChange Rows.fnExactPacketReadSpec) false w args)
      (Rows.fnExactPacketReadSpec.post enc Tryd.prog Tryd.f11 false true false false) := by
  refine handed_and_shaped (C := Tryd.checked) (X := fun w _ => laidMetH Tryd.prog Rows.fnExactPacketReadRow.laid w) (fun _ _ _ hh h => h.of_heap hh) own started (by kernel_rfl) Tryd.func11
    (ChangeSpec.witness_shaped (enc := enc) (C := Tryd.checked) (os := os) (X := fun w _ => laidMetH Tryd.prog Rows.fnExactPacketReadRow.laid w) false (seatWorld os) #[.string ⟨#[]⟩] 8 rfl (World.shaped_of_RefB (by kernel_rfl) (by kernel_rfl)) (by kernel_rfl) (by kernel_rfl) (by kernel_rfl) (door_met10 os _)) ?_
  intro W base args ds gs before hval0 hW hL hsh
  have hval : ∀ (j : Nat) t v, Tryd.f11.params[j]? = some t → args[j]? = some v → Value.okWide Tryd.prog W .any base t v := hval0
  have hW' := hW
  obtain ⟨p, q, hA0, hV, rfl, hfz, hnd⟩ := hW
  have hA : DataW.TrodAll enc Tryd.prog W 0 (fun _ => true) true Tryd.f11.params.toList args.toList ds p := hA0
  rw [Tryd.params11 ] at hA hval
  obtain ⟨g0, g1, g2, rfl⟩ := vars3 hV
  obtain ⟨pv0, qv0, hv0, hs0, rfl⟩ := split_vars hV
  obtain ⟨pv1, pv2, hv1, hv2, rfl⟩ := split_vars hs0
  obtain ⟨aE, hLib, hvE⟩ := libs_var hL hsh
  obtain ⟨v0, d0, rfl, rfl, h0⟩ := trodAll_one hA
  have k0 := h0
  have lt0 : ∀ x ∈ p, x.block < W.heap.size := by obtain ⟨m, hm⟩ := k0; exact DataW.trod_lt m _ _ _ hm
  obtain ⟨s, rfl, -, -, ws⟩ := Go.ChangeMaps.open_string Tryd.underlying9 (hval 0 9 v0 rfl rfl) h0
  obtain ⟨l, rfl⟩ : ∃ l : List UInt8, s = ⟨l.toArray⟩ := ⟨s.data.toList, rfl⟩
  clear hA0 hval0
  refine (walk_xpkread l W aE hLib).mono fun e W' ⟨he, bel⟩ => ?_
  subst he
  exact ⟨_, rfl, _, _, _, [], _, _, hW', trodAll_mk1 (shut_bool Tryd.underlying4 _), (trodAll_mk1 (Below.trod laidOut (by kernel_rfl) (of_decide_eq_true (by kernel_rfl)) k0 bel lt0)), join_vars (keep_iface (g := 0) (by kernel_rfl) (by kernel_rfl) Tryd.underlying48 hvE trivial (var_keeps hvE (Below.keeps bel _)) hv0) (join_vars (Below.trodVars laidOut bel (by kernel_rfl) hv1) (Below.trodVars laidOut bel (by kernel_rfl) hv2)), bel.frame _, fun h => by cases h⟩
end xpkread

theorem fnExactPacketRead_row : Rows.FnExactPacketReadSaid :=
  OpenClaim.holds_of_wide 11 Tryd.f11 rfl rfl rfl rfl rfl rfl rfl ⟨rfl, rfl, rfl, rfl, rfl⟩ rfl rfl rfl rfl rfl (by kernel_rfl) Tryd.func11 (by kernel_rfl)
    (of_decide_eq_true (by kernel_rfl)) (by unfold Func.isWrapper; first | (rw [if_pos (by decide +kernel)]; kernel_rfl) | (rw [if_neg (by decide +kernel)]; exact ⟨rfl, rfl⟩))
    (fun os started H enc _ => xpkread.lifted os started H enc)

theorem fnExactPacketRead_card : Rows.FnExactPacketReadCardSaid :=
  Claim7.holds_tied_plain_at .later [] Rows.fnExactPacketReadCard.laidKinds true Rows.fnExactPacketReadCard.stood.harness true
    fnExactPacketRead_row (fun _ h => by cases h) (by kernel_rfl) (fun _ h => by cases h) fnExactPacketRead_row_tie rfl ⟨rfl, rfl⟩ (by kernel_rfl) rfl
    (fun g fn hg hfn => by
      obtain rfl : g = 11 := Option.some.inj ((show Tryd.prog.funcNamed Rows.fnExactPacketReadRow.func = some 11 by kernel_rfl).symm.trans hg) |>.symm
      obtain rfl : fn = Tryd.f11 := (Option.some.inj (Tryd.func11.symm.trans hfn)).symm
      refine ⟨by kernel_rfl, fun j t ht => ?_⟩
      have h3 : ∀ t ∈ Tryd.f11.params.toList, Tryd.prog.wantsStandIn t = false := of_decide_eq_true (by kernel_rfl)
      exact h3 t (Array.mem_toList_iff.2 (Array.mem_of_getElem? ht)))
    (by kernel_rfl)
#print axioms fnExactPacketRead_card
end Go.Proofs.YtjbllfnfnkghgaaDoor
