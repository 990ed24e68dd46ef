/- FnExactStateNew: for every start the law returns true. No condition. -/
import Derived.Test.YtedmkbiamjpdaaaRows
import Derived.Test.YtedmkbiamjpdaaaSNew
import Derived.Test.YtedmkbiamjpdaaaSEq
import Derived.WalkKit
import Derived.ProofKit
import Derived.OpenShut
import Derived.ChangeOld
set_option linter.unusedVariables false
set_option linter.unusedSimpArgs false
namespace Go.Proofs.Ytedmkbiamjpdaaa
open Go.RowKit Go.ChangeShapes Go.WideShapes Go.ChangeAt

set_option maxHeartbeats 1000000 in
theorem walk_xstnew (w : World) : Calls Try.prog 3 #[] w fun e w' => e = .returned (.bool true) ∧ Below w.heap.size w w' := by
  have HAT := Lib.hid (fun W lo B1 B2 B3 B4 (h : StOwn W lo newS B1 B2 B3 B4) => h.at_ (by decide) (by decide) (by decide) (by decide))
  have hs0 : (stN newS : Int) = 8 := by decide
  have HMK := Lib.hid (fun B1 B2 B3 B4 d1 d2 d3 d4 lo W (h : StOwn W lo newS B1 B2 B3 B4) => markState_any newS B1 B2 B3 B4 d1 d2 d3 d4 lo 1 W h (by decide) (by rw [hs0]; decide))
  have HHD := Lib.hid (fun B1 B2 B3 B4 d1 d2 d3 d4 lo W (h : StOwn W lo (stMark newS 1) B1 B2 B3 B4) => heldState_any newS B1 B2 B3 B4 d1 d2 d3 d4 1 W (h.at_ (by decide) (by decide) (by decide) (by decide)) (by decide) (by rw [hs0]; decide))
  unfold RetStMark at HMK
  rw [hs0] at HHD HMK
  clear hs0
  have HSP := Lib.hid (fun W => specNewS_any W)
  have HIM := Lib.hid (fun W => implNewS_any W)
  unfold stV at HMK HHD
  go_enter Try.func3, Try.ntmps3
  go_wp2_with fail
  refine (HSP.out _).mono ?_
  rintro e w1 ⟨A1, A2, A3, A4, a1, a2, a3, a4, rfl, ho1, hk1⟩
  unfold stV
  have HB1 := Lib.hid (Box.new w1 _ rfl 26 #[.int .i64 newS.way, .int .i64 newS.ver, .int .i64 newS.want, .slice A1 newS.sent.length a1, .slice A2 newS.live.length a2, .slice A3 newS.back.length a3, .slice A4 newS.got.length a4])
  have HO1 := Lib.hid (ho1.kept ((Keeps.refl noBlk w1).alloc (.cells #[.int .i64 newS.way, .int .i64 newS.ver, .int .i64 newS.want, .slice A1 newS.sent.length a1, .slice A2 newS.live.length a2, .slice A3 newS.back.length a3, .slice A4 newS.got.length a4] 26)))
  have HK1 := Lib.hid (hk1.alloc (.cells #[.int .i64 newS.way, .int .i64 newS.ver, .int .i64 newS.want, .slice A1 newS.sent.length a1, .slice A2 newS.live.length a2, .slice A3 newS.back.length a3, .slice A4 newS.got.length a4] 26))
  have h1 := hk1.size
  have h1' : w1.heap.size < (w1.alloc (.cells #[.int .i64 newS.way, .int .i64 newS.ver, .int .i64 newS.want, .slice A1 newS.sent.length a1, .slice A2 newS.live.length a2, .slice A3 newS.back.length a3, .slice A4 newS.got.length a4] 26)).heap.size := by simp
  clear ho1 hk1
  go_wp2_with fail
  refine (HIM.out _).mono ?_
  rintro e w2 ⟨B1, B2, B3, B4, b1, b2, b3, b4, rfl, ho2, hk2⟩
  unfold stV
  have HLT := Lib.hid (fun b (h : stBlk newS B1 B2 B3 B4 b) => And.intro (Nat.lt_of_lt_of_le h1' (ho2.ge h)) (ho2.lt h))
  have HB2 := Lib.hid (Box.new w2 _ rfl 26 #[.int .i64 newS.way, .int .i64 newS.ver, .int .i64 newS.want, .slice B1 newS.sent.length b1, .slice B2 newS.live.length b2, .slice B3 newS.back.length b3, .slice B4 newS.got.length b4])
  have hka := (Keeps.refl noBlk w2).alloc (.cells #[.int .i64 newS.way, .int .i64 newS.ver, .int .i64 newS.want, .slice B1 newS.sent.length b1, .slice B2 newS.live.length b2, .slice B3 newS.back.length b3, .slice B4 newS.got.length b4] 26)
  have HO2 := Lib.hid (ho2.kept hka)
  have HOA2 := Lib.hid (HO1.out.kept (hk2.trans hka))
  have HBA2 := Lib.hid (HB1.out.keeps (hk2.trans hka) fun h => h)
  have HK2 := Lib.hid (HK1.out.trans (hk2.trans hka))
  have h2 := hk2.size
  have h12 := HK1.out.size
  clear ho2 hk2 hka
  have hb := HBA2.out
  have hg := HB2.out
  have a0 := hb.cell 0
  have a1 := hb.cell 1
  have a2 := hb.cell 2
  have a3 := hb.cell 3
  have a4 := hb.cell 4
  have a5 := hb.cell 5
  have a6 := hb.cell 6
  simp at a0 a1 a2 a3 a4 a5 a6
  have g0 := hg.cell 0
  have g1 := hg.cell 1
  have g2 := hg.cell 2
  have g3 := hg.cell 3
  have g4 := hg.cell 4
  have g5 := hg.cell 5
  have g6 := hg.cell 6
  simp at g0 g1 g2 g3 g4 g5 g6
  clear hb hg
  go_wp2_with fail
  refine (eqState_same newS B1 B2 B3 B4 A1 A2 A3 A4 _ _ _ _ _ _ _ _ _ (HAT.out _ _ _ _ _ _ HO2.out) (HAT.out _ _ _ _ _ _ HOA2.out)).mono ?_
  rintro e w3 ⟨rfl, hk3⟩
  have HO3 := Lib.hid (HO2.out.kept hk3)
  have HOA3 := Lib.hid (HOA2.out.kept hk3)
  have HBA3 := Lib.hid (HBA2.out.keeps hk3 fun h => h)
  have HB3 := Lib.hid (HB2.out.keeps hk3 fun h => h)
  have HK3 := Lib.hid (HK2.out.trans hk3)
  clear hk3 a0 a1 a2 a3 a4 a5 a6 g0 g1 g2 g3 g4 g5 g6
  have hg := HB3.out
  have g0 := hg.cell 0
  have g1 := hg.cell 1
  have g2 := hg.cell 2
  have g3 := hg.cell 3
  have g4 := hg.cell 4
  have g5 := hg.cell 5
  have g6 := hg.cell 6
  simp at g0 g1 g2 g3 g4 g5 g6
  clear hg
  go_wp2_with fail
  refine (HMK.out B1 B2 B3 B4 _ _ _ _ _ _ HO3.out).mono ?_
  rintro e w4 ⟨rfl, ho4, hk4⟩
  have hnA : ∀ b, b < w1.heap.size + 1 → ¬ stBlk newS B1 B2 B3 B4 b := fun b hb h => by have := (HLT.out b h).1; omega
  have hnB : ¬ stBlk newS B1 B2 B3 B4 w2.heap.size := fun h => by have := (HLT.out _ h).2; omega
  have HO4 := Lib.hid ho4
  have HOA4 := Lib.hid (HOA3.out.keeps hk4 fun b h => hnA b (by have := HO1.out.lt h; simp at this; omega))
  have HBA4 := Lib.hid (HBA3.out.keeps hk4 (hnA _ (by omega)))
  have HB4 := Lib.hid (HB3.out.keeps hk4 hnB)
  have HK4 := Lib.hid (HK3.out.then hk4 fun i hi h => (hnA i (by omega) h).elim)
  clear ho4 hk4 g0 g1 g2 g3 g4 g5 g6
  have hg := HB4.out
  have g0 := hg.cell 0
  have g1 := hg.cell 1
  have g2 := hg.cell 2
  have g3 := hg.cell 3
  have g4 := hg.cell 4
  have g5 := hg.cell 5
  have g6 := hg.cell 6
  simp at g0 g1 g2 g3 g4 g5 g6
  clear hg
  go_wp2_with fail
  refine (HHD.out B1 B2 B3 B4 _ _ _ _ _ _ HO4.out).mono ?_
  rintro e w5 ⟨rfl, hk5⟩
  have HO5 := Lib.hid (HO4.out.kept hk5)
  have HOA5 := Lib.hid (HOA4.out.kept hk5)
  have HBA5 := Lib.hid (HBA4.out.keeps hk5 fun h => h)
  have HB5 := Lib.hid (HB4.out.keeps hk5 fun h => h)
  have HK5 := Lib.hid (HK4.out.trans hk5)
  clear hk5 g0 g1 g2 g3 g4 g5 g6
  go_wp2_with fail
  refine (HIM.out _).mono ?_
  rintro e w6 ⟨C1, C2, C3, C4, d1, d2, d3, d4, rfl, ho6, hk6⟩
  unfold stV
  have hka := (Keeps.refl noBlk w6).alloc (.cells #[.int .i64 newS.way, .int .i64 newS.ver, .int .i64 newS.want, .slice C1 newS.sent.length d1, .slice C2 newS.live.length d2, .slice C3 newS.back.length d3, .slice C4 newS.got.length d4] 26)
  have HBC := Lib.hid (Box.new w6 _ rfl 26 #[.int .i64 newS.way, .int .i64 newS.ver, .int .i64 newS.want, .slice C1 newS.sent.length d1, .slice C2 newS.live.length d2, .slice C3 newS.back.length d3, .slice C4 newS.got.length d4])
  have HC6 := Lib.hid (ho6.kept hka)
  have hk6' := hk6.trans hka
  have HO6 := Lib.hid (HO5.out.kept hk6')
  have HOA6 := Lib.hid (HOA5.out.kept hk6')
  have HBA6 := Lib.hid (HBA5.out.keeps hk6' fun h => h)
  have HB6 := Lib.hid (HB5.out.keeps hk6' fun h => h)
  have HK6 := Lib.hid (HK5.out.trans hk6')
  clear ho6 hk6 hka hk6'
  have hb := HBA6.out
  have hg := HBC.out
  have a0 := hb.cell 0
  have a1 := hb.cell 1
  have a2 := hb.cell 2
  have a3 := hb.cell 3
  have a4 := hb.cell 4
  have a5 := hb.cell 5
  have a6 := hb.cell 6
  simp at a0 a1 a2 a3 a4 a5 a6
  have g0 := hg.cell 0
  have g1 := hg.cell 1
  have g2 := hg.cell 2
  have g3 := hg.cell 3
  have g4 := hg.cell 4
  have g5 := hg.cell 5
  have g6 := hg.cell 6
  simp at g0 g1 g2 g3 g4 g5 g6
  clear hb hg
  go_wp2_with fail
  refine (eqState_same newS C1 C2 C3 C4 A1 A2 A3 A4 _ _ _ _ _ _ _ _ _ (HAT.out _ _ _ _ _ _ HC6.out) (HAT.out _ _ _ _ _ _ HOA6.out)).mono ?_
  rintro e w7 ⟨rfl, hk7⟩
  have HO7 := Lib.hid (HO6.out.kept hk7)
  have HB7 := Lib.hid (HB6.out.keeps hk7 fun h => h)
  have HK7 := Lib.hid (HK6.out.trans hk7)
  clear hk7 a0 a1 a2 a3 a4 a5 a6 g0 g1 g2 g3 g4 g5 g6
  have hg := HB7.out
  have g0 := hg.cell 0
  have g1 := hg.cell 1
  have g2 := hg.cell 2
  have g3 := hg.cell 3
  have g4 := hg.cell 4
  have g5 := hg.cell 5
  have g6 := hg.cell 6
  simp at g0 g1 g2 g3 g4 g5 g6
  clear hg
  go_wp2_with fail
  refine (HHD.out B1 B2 B3 B4 _ _ _ _ _ _ HO7.out).mono ?_
  rintro e w8 ⟨rfl, hk8⟩
  have HK8 := Lib.hid (HK7.out.trans hk8)
  clear hk8
  go_wp2
  go_ret
  exact ⟨rfl, HK8.out.below⟩

namespace XStNew
theorem own : ownKnob Try.prog.godebug = none := by kernel_rfl

set_option maxRecDepth 100000 in
theorem lifted (os : Os) (started : os.Started) (H : Type) (enc : TypeId × Value → H) :
    ReturnsInHanded {} Try.checked os 3 .any (Rows.fnExactStateNewSpec.pre6 enc Try.prog Try.f3 Rows.fnExactStateNewRow.domain false) (Rows.fnExactStateNewSpec.post enc Try.prog Try.f3 false true false false) := by
  refine returnsInHanded_of_change (C := Try.checked) own started (by kernel_rfl) Try.func3
    (ChangeSpec.witness6 (enc := enc) (C := Try.checked) false ⟨#[], #[], []⟩ 8 (by kernel_rfl) (by kernel_rfl) (by kernel_rfl) (by kernel_rfl)) ?_
  intro W base args ds gs before hval0 hW hcnd _
  have hval : ∀ (j : Nat) t v, Try.f3.params[j]? = some t → args[j]? = some v → Value.okWide Try.prog W .any base t v := hval0
  have hW' := hW
  obtain ⟨p, q, hA0, hV, rfl, hfz, hnd⟩ := hW
  have hA : DataW.TrodAll enc Try.prog W 0 (fun _ => true) true Try.f3.params.toList args.toList ds p := hA0
  rw [Try.params3] at hA hval
  obtain ⟨rfl, rfl, rfl⟩ := trodAll_none hA
  obtain ⟨rfl, rfl⟩ := trodVars_none hV
  clear hA0 hval0
  simp only [List.append_nil] at hW'
  refine (walk_xstnew W).mono fun e W' ⟨he, bel⟩ => ?_
  subst he
  exact ⟨_, rfl, _, _, _, [], [], [], hW', trodAll_mk1 (shut_bool Try.underlying4 _), trodAll_mk0, rfl, bel.frame _, fun h => by cases h⟩

theorem over : Rows.fnExactStateNewRow.holds Try.pinned (OpenSpec.ofChange Rows.fnExactStateNewSpec) :=
  OpenClaim.holds_of_wide 3 Try.f3 rfl rfl rfl rfl rfl rfl rfl ⟨rfl, rfl, rfl, rfl, rfl⟩ rfl rfl rfl rfl rfl (by kernel_rfl) Try.func3 (by kernel_rfl)
    (of_decide_eq_true (by kernel_rfl)) (by unfold Func.isWrapper; first | (rw [if_pos (by decide +kernel)]; kernel_rfl) | (rw [if_neg (by decide +kernel)]; exact ⟨rfl, rfl⟩))
    (fun os started H enc _ => lifted os started H enc)
end XStNew

theorem fnExactStateNew_holds : Rows.FnExactStateNewSaid := XStNew.over
#print axioms fnExactStateNew_holds
end Go.Proofs.Ytedmkbiamjpdaaa
