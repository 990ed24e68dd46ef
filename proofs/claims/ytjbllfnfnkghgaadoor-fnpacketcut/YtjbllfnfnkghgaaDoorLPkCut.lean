/- FnPacketCut: what is cut is another packet, or none, whatever is drawn. -/
import Derived.Test.YtjbllfnfnkghgaaDoorPkF3
import Derived.Test.YtjbllfnfnkghgaaDoorPkST
import Derived.Test.YtjbllfnfnkghgaaDoorPkDraw2
import Derived.Test.YtjbllfnfnkghgaaDoorPkF4
import Derived.Test.YtjbllfnfnkghgaaDoorPkTh3
set_option linter.unusedVariables false
set_option linter.unusedSimpArgs false
namespace Go.Proofs.YtjbllfnfnkghgaaDoor
open Go.RowKit Go.ChangeShapes Go.WideShapes Go.ChangeAt

set_option maxRecDepth 100000 in
set_option maxHeartbeats 4000000 in
theorem walk_pkcut (w : World) (aE : Addr) (hL : Libs w aE) (a0 : Option Addr) (len0 cap0 : Nat) (z0 : List Int) (h : Bytes w a0 len0 z0) (e0 : len0 ≤ cap0) (f0 : cap0 ≤ maxLen) :
    Calls Tryd.prog 7 #[.slice a0 len0 cap0] w fun e w' => e = .returned (.bool true) ∧ Below w.heap.size w w' := by
  have H := Lib.hid h
  have HL := Lib.hid hL
  clear h hL
  by_cases hs : (len0 : Int) ≤ 1048576
  · go_enter Tryd.func7, Tryd.ntmps7
    go_wp2_with fail
    refine (drawPkText_any a0 len0 _ z0 _ H.out e0 f0).mono ?_
    rintro e w1 ⟨s, k, f, t, m, u, v, rfl, hk⟩
    have YK := Lib.hid hk
    clear hk
    obtain ⟨o, ho⟩ : ∃ o, pkT s k f t m u v = o := ⟨_, rfl⟩
    have HIA := Lib.hid (fun W hW => (show Calls Tryd.prog 13 #[.agg #[.int .i64 s, .int .i64 k, .int .i64 f, .int .i64 t, .int .i64 m, .int .i64 u, .int .i64 v]] W (RetTxt W o) from by rw [← ho]; exact implText_any s k f t m u v W hW))
    have HSA := Lib.hid (fun W => (show Calls Tryd.prog 14 #[.agg #[.int .i64 s, .int .i64 k, .int .i64 f, .int .i64 t, .int .i64 m, .int .i64 u, .int .i64 v]] W (RetTxt W o) from by rw [← ho]; exact specText_any s k f t m u v W))
    have HO := Lib.hid ho
    clear ho
    go_wp2_with fail
    refine (HIA.out _ ((HL.out.keeps (YK.out.alloc _)).1)).mono ?_
    rintro e w2 ⟨rfl, hk⟩
    have hKK := (YK.out.alloc _).trans hk
    have hp := (Box.new w1 _ rfl 24 #[.int .i64 s, .int .i64 k, .int .i64 f, .int .i64 t, .int .i64 m, .int .i64 u, .int .i64 v]).keeps hk (fun h => h)
    clear hk YK
    have Yp := Lib.hid hp
    have zp := hp.lt
    clear hp
    have YK := Lib.hid hKK
    clear hKK
    have pc0 := Yp.out.cell 0
    have pc1 := Yp.out.cell 1
    have pc2 := Yp.out.cell 2
    have pc3 := Yp.out.cell 3
    have pc4 := Yp.out.cell 4
    have pc5 := Yp.out.cell 5
    have pc6 := Yp.out.cell 6
    simp at pc0 pc1 pc2 pc3 pc4 pc5 pc6
    go_wp2_with fail
    refine (HSA.out _).mono ?_
    rintro e w3 ⟨rfl, hk⟩
    clear pc0 pc1 pc2 pc3 pc4 pc5 pc6
    have hp := (Yp.out).keeps hk (fun h => h)
    have hKK := (YK.out).trans hk
    clear hk YK Yp
    have Yp := Lib.hid hp
    have zp := hp.lt
    clear hp
    have YK := Lib.hid hKK
    clear hKK
    have pc0 := Yp.out.cell 0
    have pc1 := Yp.out.cell 1
    have pc2 := Yp.out.cell 2
    have pc3 := Yp.out.cell 3
    have pc4 := Yp.out.cell 4
    have pc5 := Yp.out.cell 5
    have pc6 := Yp.out.cell 6
    simp at pc0 pc1 pc2 pc3 pc4 pc5 pc6
    rcases Bool.eq_false_or_eq_true (pkB s k f t m u v) with ha | ha
    · have e1' := HO.out
      rw [pkT_yes ha] at e1'
      have n1 : o ≠ [] := by rw [← e1']; exact txt_ne _ _ _ _ _ _ _ ha
      have i1 : o.isEmpty = false := by simpa using n1
      have HRp : Hid (Reads o s k f t m u v) := Lib.hid ⟨ha, e1'⟩
      obtain ⟨t1, ht1⟩ : ∃ t, o.take (o.length - 1) = t := ⟨_, rfl⟩
      obtain ⟨t2, ht2⟩ : ∃ t, o ++ [32] = t := ⟨_, rfl⟩
      obtain ⟨t3, ht3⟩ : ∃ t, 48 :: o = t := ⟨_, rfl⟩
      have hl := txt_len24 _ _ _ _ _ _ _ ha
      rw [e1'] at hl
      have hp : 0 < o.length := List.length_pos_iff.2 n1
      have HN1 := Lib.hid (cut_other ha e1' n1 ht1)
      have HR1 := Lib.hid (fun W hW => implRead_any t1 aE W hW)
      have HR2 := Lib.hid (fun W hW => read_none (aE := aE) (W := W) hW (cut_blank ha e1' ht2))
      have HR3 := Lib.hid (fun W hW => read_none (aE := aE) (W := W) hW (cut_nought ha e1' ht3))
      have c2 : (⟨o.toArray⟩ : ByteArray) ++ ⟨#[32]⟩ = ⟨t2.toArray⟩ := by rw [← ht2]; exact ByteArray.mk_append_mk _ _
      have c3 : (⟨#[48]⟩ : ByteArray) ++ ⟨o.toArray⟩ = ⟨t3.toArray⟩ := by rw [← ht3]; exact ByteArray.mk_append_mk [48] _
      have m2 : ¬ 9223372036854775807 < o.length + 1 := by omega
      have m3 : ¬ 9223372036854775807 < 1 + o.length := by omega
      have c1 : (⟨o.toArray⟩ : ByteArray).extract 0 (o.length - 1) = ⟨t1.toArray⟩ := by
        have h9 := Lib.extract_from_zero ⟨o.toArray⟩ (o.length - 1)
        apply ByteArray.ext
        apply Array.toList_inj.1
        rw [h9]
        exact ht1
      clear ha e1' n1 HO HIA ht1 ht2 ht3
      go_wp2_with fail
      refine (HR1.out _ (HL.out.keeps YK.out)).mono ?_
      rintro e w4 (⟨hno, rfl, hk⟩ | ⟨s', k', f', t', m', u', v', hy, rfl, hk⟩)
      · clear hno HN1
        clear pc0 pc1 pc2 pc3 pc4 pc5 pc6
        have hp := (Yp.out).keeps hk (fun h => h)
        have hKK := (YK.out).trans hk
        clear hk YK Yp
        have Yp := Lib.hid hp
        have zp := hp.lt
        clear hp
        have YK := Lib.hid hKK
        clear hKK
        have pc0 := Yp.out.cell 0
        have pc1 := Yp.out.cell 1
        have pc2 := Yp.out.cell 2
        have pc3 := Yp.out.cell 3
        have pc4 := Yp.out.cell 4
        have pc5 := Yp.out.cell 5
        have pc6 := Yp.out.cell 6
        simp at pc0 pc1 pc2 pc3 pc4 pc5 pc6
        go_wp2_with fail
        refine (HR2.out _ (HL.out.keeps (YK.out.alloc _))).mono ?_
        rintro e w5 ⟨rfl, hk⟩
        clear pc0 pc1 pc2 pc3 pc4 pc5 pc6
        have hp := (Yp.out.alloc _).keeps hk (fun h => h)
        have hKK := (YK.out.alloc _).trans hk
        have hx := (Box.new w4 _ rfl 24 #[.int .i64 0, .int .i64 0, .int .i64 0, .int .i64 0, .int .i64 0, .int .i64 0, .int .i64 0]).keeps hk (fun h => h)
        clear hk YK Yp
        have Yp := Lib.hid hp
        have zp := hp.lt
        clear hp
        have Yx := Lib.hid hx
        have zx := hx.lt
        clear hx
        have YK := Lib.hid hKK
        clear hKK
        have pc0 := Yp.out.cell 0
        have pc1 := Yp.out.cell 1
        have pc2 := Yp.out.cell 2
        have pc3 := Yp.out.cell 3
        have pc4 := Yp.out.cell 4
        have pc5 := Yp.out.cell 5
        have pc6 := Yp.out.cell 6
        simp at pc0 pc1 pc2 pc3 pc4 pc5 pc6
        have xc0 := Yx.out.cell 0
        have xc1 := Yx.out.cell 1
        have xc2 := Yx.out.cell 2
        have xc3 := Yx.out.cell 3
        have xc4 := Yx.out.cell 4
        have xc5 := Yx.out.cell 5
        have xc6 := Yx.out.cell 6
        simp at xc0 xc1 xc2 xc3 xc4 xc5 xc6
        go_wp2_with fail
        refine (HR3.out _ (HL.out.keeps (YK.out.alloc _))).mono ?_
        rintro e w6 ⟨rfl, hk⟩
        clear pc0 pc1 pc2 pc3 pc4 pc5 pc6
        clear xc0 xc1 xc2 xc3 xc4 xc5 xc6
        have hp := (Yp.out.alloc _).keeps hk (fun h => h)
        have hx := (Yx.out.alloc _).keeps hk (fun h => h)
        have hKK := (YK.out.alloc _).trans hk
        have hxb := (Box.new w5 _ rfl 24 #[.int .i64 0, .int .i64 0, .int .i64 0, .int .i64 0, .int .i64 0, .int .i64 0, .int .i64 0]).keeps hk (fun h => h)
        clear hk YK Yp Yx
        have Yp := Lib.hid hp
        have zp := hp.lt
        clear hp
        have Yx := Lib.hid hx
        have zx := hx.lt
        clear hx
        have Yxb := Lib.hid hxb
        have zxb := hxb.lt
        clear hxb
        have YK := Lib.hid hKK
        clear hKK
        have pc0 := Yp.out.cell 0
        have pc1 := Yp.out.cell 1
        have pc2 := Yp.out.cell 2
        have pc3 := Yp.out.cell 3
        have pc4 := Yp.out.cell 4
        have pc5 := Yp.out.cell 5
        have pc6 := Yp.out.cell 6
        simp at pc0 pc1 pc2 pc3 pc4 pc5 pc6
        have xc0 := Yx.out.cell 0
        have xc1 := Yx.out.cell 1
        have xc2 := Yx.out.cell 2
        have xc3 := Yx.out.cell 3
        have xc4 := Yx.out.cell 4
        have xc5 := Yx.out.cell 5
        have xc6 := Yx.out.cell 6
        simp at xc0 xc1 xc2 xc3 xc4 xc5 xc6
        have xbc0 := Yxb.out.cell 0
        have xbc1 := Yxb.out.cell 1
        have xbc2 := Yxb.out.cell 2
        have xbc3 := Yxb.out.cell 3
        have xbc4 := Yxb.out.cell 4
        have xbc5 := Yxb.out.cell 5
        have xbc6 := Yxb.out.cell 6
        simp at xbc0 xbc1 xbc2 xbc3 xbc4 xbc5 xbc6
        have YK := Lib.hid (YK.out.alloc (.cells #[.int .i64 0, .int .i64 0, .int .i64 0, .int .i64 0, .int .i64 0, .int .i64 0, .int .i64 0] 24))
        go_wp2
        go_ret
        exact ⟨rfl, YK.out.below⟩
      · have HNE := Lib.hid (HN1.out _ _ _ _ _ _ _ hy)
        clear hy HN1
        clear pc0 pc1 pc2 pc3 pc4 pc5 pc6
        have hp := (Yp.out).keeps hk (fun h => h)
        have hKK := (YK.out).trans hk
        clear hk YK Yp
        have Yp := Lib.hid hp
        have zp := hp.lt
        clear hp
        have YK := Lib.hid hKK
        clear hKK
        have pc0 := Yp.out.cell 0
        have pc1 := Yp.out.cell 1
        have pc2 := Yp.out.cell 2
        have pc3 := Yp.out.cell 3
        have pc4 := Yp.out.cell 4
        have pc5 := Yp.out.cell 5
        have pc6 := Yp.out.cell 6
        simp at pc0 pc1 pc2 pc3 pc4 pc5 pc6
        go_wp2_with fail
        refine (HR2.out _ (HL.out.keeps (YK.out.alloc _))).mono ?_
        rintro e w5 ⟨rfl, hk⟩
        clear pc0 pc1 pc2 pc3 pc4 pc5 pc6
        have hp := (Yp.out.alloc _).keeps hk (fun h => h)
        have hKK := (YK.out.alloc _).trans hk
        have hx := (Box.new w4 _ rfl 24 #[.int .i64 s', .int .i64 k', .int .i64 f', .int .i64 t', .int .i64 m', .int .i64 u', .int .i64 v']).keeps hk (fun h => h)
        clear hk YK Yp
        have Yp := Lib.hid hp
        have zp := hp.lt
        clear hp
        have Yx := Lib.hid hx
        have zx := hx.lt
        clear hx
        have YK := Lib.hid hKK
        clear hKK
        have pc0 := Yp.out.cell 0
        have pc1 := Yp.out.cell 1
        have pc2 := Yp.out.cell 2
        have pc3 := Yp.out.cell 3
        have pc4 := Yp.out.cell 4
        have pc5 := Yp.out.cell 5
        have pc6 := Yp.out.cell 6
        simp at pc0 pc1 pc2 pc3 pc4 pc5 pc6
        have xc0 := Yx.out.cell 0
        have xc1 := Yx.out.cell 1
        have xc2 := Yx.out.cell 2
        have xc3 := Yx.out.cell 3
        have xc4 := Yx.out.cell 4
        have xc5 := Yx.out.cell 5
        have xc6 := Yx.out.cell 6
        simp at xc0 xc1 xc2 xc3 xc4 xc5 xc6
        go_wp2_with fail
        refine (HR3.out _ (HL.out.keeps (YK.out.alloc _))).mono ?_
        rintro e w6 ⟨rfl, hk⟩
        clear pc0 pc1 pc2 pc3 pc4 pc5 pc6
        clear xc0 xc1 xc2 xc3 xc4 xc5 xc6
        have hp := (Yp.out.alloc _).keeps hk (fun h => h)
        have hx := (Yx.out.alloc _).keeps hk (fun h => h)
        have hKK := (YK.out.alloc _).trans hk
        have hxb := (Box.new w5 _ rfl 24 #[.int .i64 0, .int .i64 0, .int .i64 0, .int .i64 0, .int .i64 0, .int .i64 0, .int .i64 0]).keeps hk (fun h => h)
        clear hk YK Yp Yx
        have Yp := Lib.hid hp
        have zp := hp.lt
        clear hp
        have Yx := Lib.hid hx
        have zx := hx.lt
        clear hx
        have Yxb := Lib.hid hxb
        have zxb := hxb.lt
        clear hxb
        have YK := Lib.hid hKK
        clear hKK
        have pc0 := Yp.out.cell 0
        have pc1 := Yp.out.cell 1
        have pc2 := Yp.out.cell 2
        have pc3 := Yp.out.cell 3
        have pc4 := Yp.out.cell 4
        have pc5 := Yp.out.cell 5
        have pc6 := Yp.out.cell 6
        simp at pc0 pc1 pc2 pc3 pc4 pc5 pc6
        have xc0 := Yx.out.cell 0
        have xc1 := Yx.out.cell 1
        have xc2 := Yx.out.cell 2
        have xc3 := Yx.out.cell 3
        have xc4 := Yx.out.cell 4
        have xc5 := Yx.out.cell 5
        have xc6 := Yx.out.cell 6
        simp at xc0 xc1 xc2 xc3 xc4 xc5 xc6
        have xbc0 := Yxb.out.cell 0
        have xbc1 := Yxb.out.cell 1
        have xbc2 := Yxb.out.cell 2
        have xbc3 := Yxb.out.cell 3
        have xbc4 := Yxb.out.cell 4
        have xbc5 := Yxb.out.cell 5
        have xbc6 := Yxb.out.cell 6
        simp at xbc0 xbc1 xbc2 xbc3 xbc4 xbc5 xbc6
        have YK := Lib.hid (YK.out.alloc (.cells #[.int .i64 0, .int .i64 0, .int .i64 0, .int .i64 0, .int .i64 0, .int .i64 0, .int .i64 0] 24))
        go_wp2
        all_goals first | (go_ret; exact ⟨rfl, YK.out.below⟩) | exact absurd ⟨(by first | assumption | (symm; assumption) | rfl), (by first | assumption | (symm; assumption) | rfl), (by first | assumption | (symm; assumption) | rfl), (by first | assumption | (symm; assumption) | rfl), (by first | assumption | (symm; assumption) | rfl), (by first | assumption | (symm; assumption) | rfl), (by first | assumption | (symm; assumption) | rfl)⟩ HNE.out
    · have e1' := HO.out
      rw [pkT_no ha] at e1'
      subst e1'
      clear ha HO
      go_wp2_with fail
      refine (HSA.out _).mono ?_
      rintro e w4 ⟨rfl, hk⟩
      clear pc0 pc1 pc2 pc3 pc4 pc5 pc6
      have hp := (Yp.out).keeps hk (fun h => h)
      have hKK := (YK.out).trans hk
      clear hk YK Yp
      have Yp := Lib.hid hp
      have zp := hp.lt
      clear hp
      have YK := Lib.hid hKK
      clear hKK
      have pc0 := Yp.out.cell 0
      have pc1 := Yp.out.cell 1
      have pc2 := Yp.out.cell 2
      have pc3 := Yp.out.cell 3
      have pc4 := Yp.out.cell 4
      have pc5 := Yp.out.cell 5
      have pc6 := Yp.out.cell 6
      simp at pc0 pc1 pc2 pc3 pc4 pc5 pc6
      go_wp2
      go_ret
      exact ⟨by simp, YK.out.below⟩
  · go_enter Tryd.func7, Tryd.ntmps7
    go_wp2
    go_ret
    exact ⟨rfl, Below.refl _ _⟩

namespace pkcut
set_option maxRecDepth 100000 in
theorem lifted (os : Os) (started : os.Started) (H : Type) (enc : TypeId × Value → H) :
    ReturnsInHanded {} Tryd.checked os 7 .any (fun w args => (Rows.fnPacketCutSpec.pre enc Tryd.prog Tryd.f7 [] false w args ∧ laidMetH Tryd.prog Rows.fnPacketCutRow.laid w) ∧ sizedMet enc Tryd.prog Tryd.f7 (OpenSpec.ofChange Rows.fnPacketCutSpec) false w args)
      (Rows.fnPacketCutSpec.post enc Tryd.prog Tryd.f7 false true false false) := by
  refine handed_and_shaped (C := Tryd.checked) (X := fun w _ => laidMetH Tryd.prog Rows.fnPacketCutRow.laid w) (fun _ _ _ hh h => h.of_heap hh) own started (by kernel_rfl) Tryd.func7
    (ChangeSpec.witness_shaped (enc := enc) (C := Tryd.checked) (os := os) (X := fun w _ => laidMetH Tryd.prog Rows.fnPacketCutRow.laid w) false (seatWorld os) #[.slice none 0 0] 8 rfl (World.shaped_of_RefB (by kernel_rfl) (by kernel_rfl)) (by kernel_rfl) (by kernel_rfl) (by kernel_rfl) (door_met10 os _)) ?_
  intro W base args ds gs before hval0 hW hL hsh
  have hval : ∀ (j : Nat) t v, Tryd.f7.params[j]? = some t → args[j]? = some v → Value.okWide Tryd.prog W .any base t v := hval0
  have hW' := hW
  obtain ⟨p, q, hA0, hV, rfl, hfz, hnd⟩ := hW
  have hA : DataW.TrodAll enc Tryd.prog W 0 (fun _ => true) true Tryd.f7.params.toList args.toList ds p := hA0
  rw [Tryd.params7 ] at hA hval
  obtain ⟨g0, g1, g2, rfl⟩ := vars3 hV
  obtain ⟨pv0, qv0, hv0, hs0, rfl⟩ := split_vars hV
  obtain ⟨pv1, pv2, hv1, hv2, rfl⟩ := split_vars hs0
  obtain ⟨aE, hLib, hvE⟩ := libs_var hL hsh
  obtain ⟨v0, d0, rfl, rfl, h0⟩ := trodAll_one hA
  obtain ⟨a0, len0, cap0, rfl⟩ := okWide_slice Tryd.underlying22 (hval 0 22 v0 rfl rfl)
  have k0 := h0
  have lt0 : ∀ x ∈ p, x.block < W.heap.size := by obtain ⟨m, hm⟩ := k0; exact DataW.trod_lt m _ _ _ hm
  obtain ⟨z0, w0, e0, f0⟩ := bytes_of_trod h0
  clear hA0 hval0
  refine (walk_pkcut W aE hLib a0 len0 cap0 z0 w0 e0 f0).mono fun e W' ⟨he, bel⟩ => ?_
  subst he
  exact ⟨_, rfl, _, _, _, [], _, _, hW', trodAll_mk1 (shut_bool Tryd.underlying4 _), (trodAll_mk1 (Below.trod laidOut (by kernel_rfl) (of_decide_eq_true (by kernel_rfl)) k0 bel lt0)), join_vars (Below.trodVars laidOut bel (by kernel_rfl) hv0) (join_vars (Below.trodVars laidOut bel (by kernel_rfl) hv1) (keep_iface (g := 0) (by kernel_rfl) (by kernel_rfl) Tryd.underlying48 hvE trivial (var_keeps hvE (Below.keeps bel _)) hv2)), bel.frame _, fun h => by cases h⟩
end pkcut

theorem fnPacketCut_row : Rows.FnPacketCutSaid :=
  OpenClaim.holds_of_wide 7 Tryd.f7 rfl rfl rfl rfl rfl rfl rfl ⟨rfl, rfl, rfl, rfl, rfl⟩ rfl rfl rfl rfl rfl (by kernel_rfl) Tryd.func7 (by kernel_rfl)
    (of_decide_eq_true (by kernel_rfl)) (by unfold Func.isWrapper; first | (rw [if_pos (by decide +kernel)]; kernel_rfl) | (rw [if_neg (by decide +kernel)]; exact ⟨rfl, rfl⟩))
    (fun os started H enc _ => pkcut.lifted os started H enc)

theorem fnPacketCut_card : Rows.FnPacketCutCardSaid :=
  Claim7.holds_tied_plain_at .later [] Rows.fnPacketCutCard.laidKinds true Rows.fnPacketCutCard.stood.harness true
    fnPacketCut_row (fun _ h => by cases h) (by kernel_rfl) (fun _ h => by cases h) fnPacketCut_row_tie rfl ⟨rfl, rfl⟩ (by kernel_rfl) rfl
    (fun g fn hg hfn => by
      obtain rfl : g = 7 := Option.some.inj ((show Tryd.prog.funcNamed Rows.fnPacketCutRow.func = some 7 by kernel_rfl).symm.trans hg) |>.symm
      obtain rfl : fn = Tryd.f7 := (Option.some.inj (Tryd.func7.symm.trans hfn)).symm
      refine ⟨by kernel_rfl, fun j t ht => ?_⟩
      have h3 : ∀ t ∈ Tryd.f7.params.toList, Tryd.prog.wantsStandIn t = false := of_decide_eq_true (by kernel_rfl)
      exact h3 t (Array.mem_toList_iff.2 (Array.mem_of_getElem? ht)))
    (by kernel_rfl)
#print axioms fnPacketCut_card
end Go.Proofs.YtjbllfnfnkghgaaDoor
