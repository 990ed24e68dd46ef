/- FnExactBankOk: for every bank the law returns true and the bank reads as it did. No condition. -/
import Derived.Test.YtiglmfefamehhaaRows
import Derived.Test.YtiglmfefamehhaaBOk
import Derived.Test.YtiglmfefamehhaaTo
import Derived.Deep.RegionHeld3
import Derived.Test.YtiglmfefamehhaaFrame
namespace Go.Proofs.Ytiglmfefamehhaa
open Go.RowKit Go.ChangeShapes Go.WideShapes Go.ChangeAt

set_option maxHeartbeats 1000000 in
theorem walk_exactOk (A1 A2 : Option Addr) (n1 n2 c1 c2 : Nat) (L : Int) (xs ys : List Int) (w : World) (ha1 : Ints w A1 n1 xs) (ha2 : Ints w A2 n2 ys)
    (h1 : n1 ≤ maxLen) (h2 : n2 ≤ maxLen) (hL : L ≤ 9223372036854775807) :
    Calls Try.prog 13 #[.agg #[.slice A1 n1 c1, .slice A2 n2 c2, .int .i64 L]] w fun e w' => e = .returned (.bool true) ∧ Below w.heap.size w w' := by
  have HA1 := Lib.hid ha1
  have HA2 := Lib.hid ha2
  clear ha1 ha2
  by_cases hs : (n1 : Int) + n2 ≤ 1048576
  · have noS : ∀ {A : Option Addr} {n : Nat} (b : Nat), blk A n b → ¬ noBlk b := fun _ _ h => h
    have hl1 : xs.length = n1 := HA1.out.1
    have hl2 : ys.length = n2 := HA2.out.1
    have m1 : xs.length ≤ maxLen := by rw [hl1]; exact h1
    have m2 : ys.length ≤ maxLen := by rw [hl2]; exact h2
    clear hl1 hl2
    go_enter Try.func13, Try.ntmps13
    go_wp2_with fail
    refine (szBank_yes A1 A2 n1 n2 _ _ L 1048576 _ hs (by omega)).mono ?_
    rintro e w1 ⟨rfl, hk1⟩
    have hb := (Box.new w _ rfl 45 #[.slice A1 n1 c1, .slice A2 n2 c2, .int .i64 L]).keeps hk1 fun h => h
    have a0 := hb.cell 0
    have a1 := hb.cell 1
    have a2 := hb.cell 2
    simp at a0 a1 a2
    have hneg : ¬ (1048576 - (n1 : Int) - (n2 : Int)) < 0 := by omega
    have HB := Lib.hid hb
    have HK1 := Lib.hid hk1
    clear hb hk1
    go_wp2_with fail
    refine (toBank_any A1 A2 n1 n2 _ _ L xs ys _ ((HA1.out.alloc _).keeps HK1.out noS) ((HA2.out.alloc _).keeps HK1.out noS) (by omega) (by omega)).mono ?_
    rintro e w2 ⟨B1, B2, rfl, hr1, hr2, -, hk2⟩
    have hb := HB.out.keeps hk2 fun h => h
    clear HB
    have HB := Lib.hid hb
    have HR1 := Lib.hid hr1
    have HR2 := Lib.hid hr2
    have HK2 := Lib.hid hk2
    clear hb hr1 hr2 hk2 a0 a1 a2
    go_wp2_with fail
    refine (specOk_any B1 B2 _ _ _ _ L xs ys _ HR1.out.ints HR2.out.ints m1 m2 hL).mono ?_
    rintro e w3 ⟨rfl, hk3⟩
    have hb := HB.out.keeps hk3 fun h => h
    have a0 := hb.cell 0
    have a1 := hb.cell 1
    have a2 := hb.cell 2
    simp at a0 a1 a2
    have HK3 := Lib.hid hk3
    clear HB
    have HB := Lib.hid hb
    clear hb hk3
    go_wp2_with fail
    refine (toBank_any A1 A2 n1 n2 _ _ L xs ys _ ((((HA1.out.alloc _).keeps HK1.out noS).keeps HK2.out noS).keeps HK3.out noS) ((((HA2.out.alloc _).keeps HK1.out noS).keeps HK2.out noS).keeps HK3.out noS) (by omega) (by omega)).mono ?_
    rintro e w4 ⟨C1, C2, rfl, hs1, hs2, -, hk4⟩
    have hb := HB.out.keeps hk4 fun h => h
    clear HB
    have HB := Lib.hid hb
    have hz := hb.lt
    have HS1 := Lib.hid hs1
    have HS2 := Lib.hid hs2
    have HK4 := Lib.hid hk4
    clear hb hs1 hs2 hk4 a0 a1 a2
    go_wp2_with fail
    refine (implOk_any C1 C2 _ _ _ _ L xs ys _ (HS1.out.alloc _).ints (HS2.out.alloc _).ints m1 m2).mono ?_
    rintro e w5 ⟨rfl, hk5⟩
    have hb := (HB.out.alloc (.cells #[.slice C1 xs.length xs.length, .slice C2 ys.length ys.length, .int .i64 L] 25)).keeps hk5 fun h => h
    have hx := (Box.new w4 _ rfl 25 #[.slice C1 xs.length xs.length, .slice C2 ys.length ys.length, .int .i64 L]).keeps hk5 fun h => h
    have a0 := hb.cell 0
    have a1 := hb.cell 1
    have a2 := hb.cell 2
    have x0 := hx.cell 0
    have x1 := hx.cell 1
    have x2 := hx.cell 2
    simp at a0 a1 a2 x0 x1 x2
    have hzx := hx.lt
    have hza := hb.lt
    have HX := Lib.hid hx
    have HK5 := Lib.hid hk5
    clear hb hx hk5
    go_wp2_with fail
    have hi1 : Ints w5 A1 n1 xs := ((((((HA1.out.alloc _).keeps HK1.out noS).keeps HK2.out noS).keeps HK3.out noS).keeps HK4.out noS).alloc _).keeps HK5.out noS
    have hi2 : Ints w5 A2 n2 ys := ((((((HA2.out.alloc _).keeps HK1.out noS).keeps HK2.out noS).keeps HK3.out noS).keeps HK4.out noS).alloc _).keeps HK5.out noS
    have HI1 := Lib.hid hi1
    have HI2 := Lib.hid hi2
    clear hi1 hi2
    go_region_held3 (fun w' => w'.cell? ⟨w4.heap.size, 0, none⟩ = some (.slice C1 xs.length xs.length) ∧ w'.cell? ⟨w4.heap.size, 1, none⟩ = some (.slice C2 ys.length ys.length) ∧ w'.cell? ⟨w4.heap.size, 2, none⟩ = some (.int .i64 L) ∧ w'.cell? ⟨w.heap.size, 0, none⟩ = some (.slice A1 n1 c1) ∧ w'.cell? ⟨w.heap.size, 1, none⟩ = some (.slice A2 n2 c2) ∧ w'.cell? ⟨w.heap.size, 2, none⟩ = some (.int .i64 L))
      (first | go_keep | (go_split_ands; refine ⟨?_, ?_, ?_, ?_, ?_, ?_⟩ <;> (first | (rw [hk7.cell (Nat.lt_of_lt_of_le hzx hk6.size) (fun h => h)]; assumption) | (rw [hk7.cell (Nat.lt_of_lt_of_le hza hk6.size) (fun h => h)]; assumption) | (rw [hk6.cell hzx (fun h => h)]; assumption) | (rw [hk6.cell hza (fun h => h)]; assumption))))
      (first | (go_at_call 39; refine (toBank_any A1 A2 n1 n2 _ _ L xs ys _ (HI1.out.drewN 1) (HI2.out.drewN 1) (by omega) (by omega)).mono ?_; rintro e w6 ⟨D1, D2, rfl, ht1, ht2, -, hk6⟩) | (go_at_call 35; refine (eqBank_yes C1 C2 D1 D2 _ _ _ _ _ _ L xs ys _ ((((HS1.out.alloc _).keeps HK5.out noS).drewN 1).keeps hk6 noS).ints ht1.ints ((((HS2.out.alloc _).keeps HK5.out noS).drewN 1).keeps hk6 noS).ints ht2.ints m1 m2).mono ?_; rintro e w7 ⟨rfl, hk7⟩))
    have HK6 := Lib.hid hk6
    have HK7 := Lib.hid hk7
    clear hk6 hk7
    go_wp2
    go_ret
    refine ⟨rfl, Keeps.below ?_⟩
    have k5 := ((((((Keeps.refl noBlk w).alloc _).trans HK1.out).trans HK2.out).trans HK3.out).trans HK4.out).alloc (.cells #[.slice C1 xs.length xs.length, .slice C2 ys.length ys.length, .int .i64 L] 25)
    exact (((k5.trans HK5.out).drewN 1).trans HK6.out).trans HK7.out
  · go_enter Try.func13, Try.ntmps13
    go_wp2_with fail
    refine (szBank_no A1 A2 n1 n2 _ _ L 1048576 _ (by omega) (by omega) (by omega) h1 h2).mono ?_
    rintro e w1 ⟨rfl, hk1⟩
    go_wp2
    go_ret
    exact ⟨rfl, (((Keeps.refl _ _).alloc _).trans hk1).below⟩

namespace XOk
set_option maxRecDepth 100000 in
theorem lifted (os : Os) (started : os.Started) (H : Type) (enc : TypeId × Value → H) :
    ReturnsInHanded {} Try.checked os 13 .any (Rows.fnExactBankOkSpec.pre6 enc Try.prog Try.f13 Rows.fnExactBankOkRow.domain false) (Rows.fnExactBankOkSpec.post enc Try.prog Try.f13 false true false false) := by
  refine returnsInHanded_of_change (C := Try.checked) own started (by kernel_rfl) Try.func13
    (ChangeSpec.witness6 (enc := enc) (C := Try.checked) false ⟨#[], #[.agg #[.slice none 0 0, .slice none 0 0, .int .i64 0]], []⟩ 8 (by kernel_rfl) (by kernel_rfl) (by kernel_rfl) (by kernel_rfl)) ?_
  intro W base args ds gs before hval0 hW hcnd _
  have hval : ∀ (j : Nat) t v, Try.f13.params[j]? = some t → args[j]? = some v → Value.okWide Try.prog W .any base t v := hval0
  have hW' := hW
  obtain ⟨p, q, hA0, hV, rfl, hfz, hnd⟩ := hW
  have hA : DataW.TrodAll enc Try.prog W 0 (fun _ => true) true Try.f13.params.toList args.toList ds p := hA0
  rw [Try.params13] at hA hval
  obtain ⟨v0, vs0, d0, ds0, p0, q0, hargs, rfl, rfl, h0, r0⟩ := trodAll_cons hA
  obtain ⟨rfl, rfl, rfl⟩ := trodAll_nil r0
  obtain rfl : args = #[v0] := by cases args; simp_all
  obtain ⟨rfl, rfl⟩ := trodVars_none hV
  have k0 := h0
  have lt0 : ∀ x ∈ p0, x.block < W.heap.size := by obtain ⟨m, hm⟩ := k0; exact DataW.trod_lt m _ _ _ hm
  obtain ⟨A1, n1, c1, A2, n2, c2, L, xs, ys, rfl, i1, i2, m1, m2, wL⟩ := bank_of_trod (hval 0 45 v0 rfl rfl) h0
  clear hA0 hval0
  refine (walk_exactOk A1 A2 n1 n2 c1 c2 L xs ys W i1 i2 m1 m2 (wf_i64 wL).2).mono fun e W' ⟨he, bel⟩ => ?_
  subst he
  exact ⟨_, rfl, _, _, _, [], _, [], hW', trodAll_mk1 (shut_bool Try.underlying4 _), (trodAll_cons_mk (Below.trod laidOut (by kernel_rfl) (of_decide_eq_true (by kernel_rfl)) k0 bel lt0) trodAll_mk0), rfl, bel.frame _, fun h => by cases h⟩

theorem over : Rows.fnExactBankOkRow.holds Try.pinned (OpenSpec.ofChange Rows.fnExactBankOkSpec) :=
  OpenClaim.holds_of_wide 13 Try.f13 rfl rfl rfl rfl rfl rfl rfl ⟨rfl, rfl, rfl, rfl, rfl⟩ rfl rfl rfl rfl rfl (by kernel_rfl) Try.func13 (by kernel_rfl)
    (of_decide_eq_true (by kernel_rfl)) (by unfold Func.isWrapper; first | (rw [if_pos (by decide +kernel)]; kernel_rfl) | (rw [if_neg (by decide +kernel)]; exact ⟨rfl, rfl⟩))
    (fun os started H enc _ => lifted os started H enc)
end XOk

theorem fnExactBankOk_holds : Rows.FnExactBankOkSaid := XOk.over
#print axioms fnExactBankOk_holds
end Go.Proofs.Ytiglmfefamehhaa
