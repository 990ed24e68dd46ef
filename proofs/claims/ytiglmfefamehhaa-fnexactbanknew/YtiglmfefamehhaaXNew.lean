/- FnExactBankNew: for every start the law returns true. No condition. -/
import Derived.Test.YtiglmfefamehhaaRows
import Derived.Test.YtiglmfefamehhaaNew
import Derived.WalkKit
import Derived.ProofKit
import Derived.OpenShut
import Derived.ChangeOld
namespace Go.Proofs.Ytiglmfefamehhaa
open Go.RowKit Go.ChangeShapes Go.WideShapes Go.ChangeAt

set_option maxHeartbeats 1000000 in
theorem walk_exactNew (w : World) : Calls Try.prog 12 #[] w fun e w' => e = .returned (.bool true) ∧ Below w.heap.size w w' := by
  go_enter Try.func12, Try.ntmps12
  go_wp2_with fail
  refine (specNew_any _).mono ?_
  rintro e w1 ⟨v, rfl, ⟨A1, n1, c1, A2, n2, c2, rfl, hr1, hr2, hd, -, -, -, -⟩, hk1⟩
  obtain rfl : 3 = n1 := hr1.1.1
  obtain rfl : 3 = n2 := hr2.1.1
  have HR1 := Lib.hid hr1
  have HR2 := Lib.hid hr2
  have HK1 := Lib.hid hk1
  clear hr1 hr2 hk1 hd
  go_wp2_with fail
  refine (implNew_any _).mono ?_
  rintro e w2 ⟨v, rfl, ⟨B1, n1, d1, B2, n2, d2, rfl, hs1, hs2, hd, -, -, -, -⟩, hk2⟩
  obtain rfl : 3 = n1 := hs1.1.1
  obtain rfl : 3 = n2 := hs2.1.1
  have hb1 : Box w2 w1.heap.size 25 #[.slice A1 3 c1, .slice A2 3 c2, .int .i64 newL.locked] := (Box.new w1 _ rfl _ _).keeps hk2 fun h => h
  have c0 := hb1.cell 0
  have c1' := hb1.cell 1
  have c2' := hb1.cell 2
  simp at c0 c1' c2'
  have hz : w1.heap.size < w2.heap.size := hb1.lt
  have HB := Lib.hid hb1
  have HS1 := Lib.hid hs1
  have HS2 := Lib.hid hs2
  have HK2 := Lib.hid hk2
  have HD := Lib.hid hd
  clear hs1 hs2 hk2 hd hb1
  go_wp2_with fail
  have noS : ∀ {A : Option Addr} {n : Nat} (b : Nat), blk A n b → ¬ noBlk b := fun _ _ h => h
  refine (eqBank_yes B1 B2 A1 A2 3 3 _ _ _ _ _ [10, 10, 10] [0, 0, 0] _ (HS1.out.alloc _).ints (((HR1.out.alloc _).keeps HK2.out noS).alloc _).ints
    (HS2.out.alloc _).ints (((HR2.out.alloc _).keeps HK2.out noS).alloc _).ints (by decide) (by decide)).mono ?_
  rintro e w3 ⟨rfl, hk3⟩
  have hb1 := ((HB.out.alloc _).keeps hk3 fun h => h)
  have hb2 := (Box.new w2 _ rfl _ _).keeps hk3 fun h => h
  have c0 := hb2.cell 0
  have c1' := hb2.cell 1
  have c2' := hb2.cell 2
  simp at c0 c1' c2'
  have HB1 := Lib.hid hb1
  have HB2 := Lib.hid hb2
  have HK3 := Lib.hid hk3
  clear hb1 hb2 hk3
  go_wp2_with fail
  refine (markBank_any B1 B2 3 3 _ _ _ _ 1 [10, 10, 10] [0, 0, 0] _ ((HS1.out.alloc _).keeps HK3.out noS) ((HS2.out.alloc _).keeps HK3.out noS) HD.out (by omega) (by omega)).mono ?_
  rintro e w4 ⟨rfl, hm1, hm2, hk4⟩
  have hnA : ∀ b, b < w1.heap.size + 1 → ¬ (blk B1 3 b ∨ blk B2 3 b) := by
    rintro b hb (h | h)
    · have := HS1.out.ge h; simp at this; omega
    · have := HS2.out.ge h; simp at this; omega
  have hnB : ¬ (blk B1 3 w2.heap.size ∨ blk B2 3 w2.heap.size) := by
    rintro (h | h)
    · have := HS1.out.lt h; omega
    · have := HS2.out.lt h; omega
  have hb1 := HB1.out.keeps hk4 (hnA _ (by omega))
  have hb2 := HB2.out.keeps hk4 hnB
  have c0 := hb2.cell 0
  have c1' := hb2.cell 1
  have c2' := hb2.cell 2
  simp at c0 c1' c2'
  clear HB1 HB2
  have HB1 := Lib.hid hb1
  have HB2 := Lib.hid hb2
  have HK4 := Lib.hid hk4
  have HM1 := Lib.hid hm1
  have HM2 := Lib.hid hm2
  have HNA := Lib.hid hnA
  have HNB := Lib.hid hnB
  clear hb1 hb2 hk4 hm1 hm2 hnA hnB
  go_wp2_with fail
  refine (heldBank_any B1 B2 3 3 _ _ _ 1 _ HM1.out.ints HM2.out.ints (by omega) (by omega)).mono ?_
  rintro e w5 ⟨rfl, hk5⟩
  have hb1 := HB1.out.keeps hk5 fun h => h
  have hb2 := HB2.out.keeps hk5 fun h => h
  clear HB1 HB2
  have HB1 := Lib.hid hb1
  have HB2 := Lib.hid hb2
  have HK5 := Lib.hid hk5
  clear hb1 hb2 hk5
  go_wp2_with fail
  refine (implNew_any _).mono ?_
  rintro e w6 ⟨v, rfl, ⟨C1, n1, e1, C2, n2, e2, rfl, ht1, ht2, -, -, -, -, -⟩, hk6⟩
  obtain rfl : 3 = n1 := ht1.1.1
  obtain rfl : 3 = n2 := ht2.1.1
  have hb1 := HB1.out.keeps hk6 fun h => h
  have hb2 := HB2.out.keeps hk6 fun h => h
  have c0 := hb1.cell 0
  have c1' := hb1.cell 1
  have c2' := hb1.cell 2
  simp at c0 c1' c2'
  have hz1 := hb1.lt
  have hz2 := hb2.lt
  clear HB1 HB2
  have HB1 := Lib.hid hb1
  have HB2 := Lib.hid hb2
  have HK6 := Lib.hid hk6
  have HT1 := Lib.hid ht1
  have HT2 := Lib.hid ht2
  clear hb1 hb2 hk6 ht1 ht2
  have hnA1 : ∀ b, blk A1 3 b → ¬ (blk B1 3 b ∨ blk B2 3 b) := fun b h => HNA.out b (by have := HR1.out.lt h; omega)
  have hnA2 : ∀ b, blk A2 3 b → ¬ (blk B1 3 b ∨ blk B2 3 b) := fun b h => HNA.out b (by have := HR2.out.lt h; omega)
  have ha1 : Ints w6 A1 3 [10, 10, 10] := (((((((HR1.out.alloc _).keeps HK2.out noS).alloc _).keeps HK3.out noS).keeps HK4.out hnA1).keeps HK5.out noS).keeps HK6.out noS).ints
  have ha2 : Ints w6 A2 3 [0, 0, 0] := (((((((HR2.out.alloc _).keeps HK2.out noS).alloc _).keeps HK3.out noS).keeps HK4.out hnA2).keeps HK5.out noS).keeps HK6.out noS).ints
  have HA1 := Lib.hid ha1
  have HA2 := Lib.hid ha2
  clear ha1 ha2 hnA1 hnA2
  go_wp2_with fail
  refine (eqBank_yes C1 C2 A1 A2 3 3 _ _ _ _ _ [10, 10, 10] [0, 0, 0] _ (HT1.out.alloc _).ints (HA1.out.alloc _) (HT2.out.alloc _).ints (HA2.out.alloc _) (by decide) (by decide)).mono ?_
  rintro e w7 ⟨rfl, hk7⟩
  have hb2 := (HB2.out.alloc _).keeps hk7 fun h => h
  have c0 := hb2.cell 0
  have c1' := hb2.cell 1
  have c2' := hb2.cell 2
  simp at c0 c1' c2'
  have HK7 := Lib.hid hk7
  clear hb2 hk7
  go_wp2_with fail
  refine (heldBank_any B1 B2 3 3 _ _ _ 1 _ ((((HM1.out.keeps HK5.out noS).keeps HK6.out noS).alloc _).keeps HK7.out noS).ints
    ((((HM2.out.keeps HK5.out noS).keeps HK6.out noS).alloc _).keeps HK7.out noS).ints (by omega) (by omega)).mono ?_
  rintro e w8 ⟨rfl, hk8⟩
  have HK8 := Lib.hid hk8
  clear hk8
  go_wp2
  go_ret
  refine ⟨rfl, Keeps.below ?_⟩
  have k2 := ((((HK1.out.alloc _).trans HK2.out).alloc _).trans HK3.out).then HK4.out fun i hi h => (HNA.out i (by have := HK1.out.size; omega) h).elim
  exact ((((k2.trans HK5.out).trans HK6.out).alloc _).trans HK7.out).trans HK8.out

namespace XNew
theorem own : ownKnob Try.prog.godebug = none := by kernel_rfl

set_option maxRecDepth 100000 in
theorem lifted (os : Os) (started : os.Started) (H : Type) (enc : TypeId × Value → H) :
    ReturnsInHanded {} Try.checked os 12 .any (Rows.fnExactBankNewSpec.pre6 enc Try.prog Try.f12 Rows.fnExactBankNewRow.domain false) (Rows.fnExactBankNewSpec.post enc Try.prog Try.f12 false true false false) := by
  refine returnsInHanded_of_change (C := Try.checked) own started (by kernel_rfl) Try.func12
    (ChangeSpec.witness6 (enc := enc) (C := Try.checked) false ⟨#[], #[], []⟩ 8 (by kernel_rfl) (by kernel_rfl) (by kernel_rfl) (by kernel_rfl)) ?_
  intro W base args ds gs before hval0 hW hcnd _
  have hval : ∀ (j : Nat) t v, Try.f12.params[j]? = some t → args[j]? = some v → Value.okWide Try.prog W .any base t v := hval0
  have hW' := hW
  obtain ⟨p, q, hA0, hV, rfl, hfz, hnd⟩ := hW
  have hA : DataW.TrodAll enc Try.prog W 0 (fun _ => true) true Try.f12.params.toList args.toList ds p := hA0
  rw [Try.params12] at hA hval
  obtain ⟨rfl, rfl, rfl⟩ := trodAll_none hA
  obtain ⟨rfl, rfl⟩ := trodVars_none hV
  clear hA0 hval0
  simp only [List.append_nil] at hW'
  refine (walk_exactNew W).mono fun e W' ⟨he, bel⟩ => ?_
  subst he
  exact ⟨_, rfl, _, _, _, [], [], [], hW', trodAll_mk1 (shut_bool Try.underlying4 _), trodAll_mk0, rfl, bel.frame _, fun h => by cases h⟩

theorem over : Rows.fnExactBankNewRow.holds Try.pinned (OpenSpec.ofChange Rows.fnExactBankNewSpec) :=
  OpenClaim.holds_of_wide 12 Try.f12 rfl rfl rfl rfl rfl rfl rfl ⟨rfl, rfl, rfl, rfl, rfl⟩ rfl rfl rfl rfl rfl (by kernel_rfl) Try.func12 (by kernel_rfl)
    (of_decide_eq_true (by kernel_rfl)) (by unfold Func.isWrapper; first | (rw [if_pos (by decide +kernel)]; kernel_rfl) | (rw [if_neg (by decide +kernel)]; exact ⟨rfl, rfl⟩))
    (fun os started H enc _ => lifted os started H enc)
end XNew

theorem fnExactBankNew_holds : Rows.FnExactBankNewSaid := XNew.over
#print axioms fnExactBankNew_holds
end Go.Proofs.Ytiglmfefamehhaa
