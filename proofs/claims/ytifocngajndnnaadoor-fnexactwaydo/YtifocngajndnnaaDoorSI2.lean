/- impl.StateOk answers stB. -/
import Derived.Test.YtifocngajndnnaaDoorSI
set_option linter.unusedVariables false
set_option linter.unusedSimpArgs false
namespace Go.Proofs.YtifocngajndnnaaDoor
open Go.RowKit

set_option maxHeartbeats 1000000 in
theorem wayOk_any (way ver want : Int) (V1 V2 V3 V4 : Value) (w : World) :
    Calls Tryd.prog 73 #[.agg #[.int .i64 way, .int .i64 ver, .int .i64 want, V1, V2, V3, V4]] w fun e w' => e = .returned (.bool (decide (WayOk way ver want))) ∧ Keeps noBlk w w' := by
  have HF : Hid (¬ WayOk way ver want → decide (WayOk way ver want) = false) := Lib.hid fun h => by simpa using h
  have HT : Hid (WayOk way ver want → decide (WayOk way ver want) = true) := Lib.hid fun h => by simpa using h
  generalize decide (WayOk way ver want) = o at HF HT
  by_cases v1 : ver < 1
  · have HB := Lib.hid (HF.out (fun h => by have := h.1; omega))
    go_enter Tryd.func73, Tryd.ntmps73
    go_wp2
    go_ret
    exact ⟨by simp [HB.out], (Keeps.refl _ _).alloc _⟩
  · by_cases v2 : 9 < ver
    · have HB := Lib.hid (HF.out (fun h => by have := h.1; omega))
      go_enter Tryd.func73, Tryd.ntmps73
      go_wp2
      go_ret
      exact ⟨by simp [HB.out], (Keeps.refl _ _).alloc _⟩
    · have HV : Hid (1 ≤ ver ∧ ver ≤ 9) := Lib.hid (by omega)
      by_cases w0 : way = 0
      · subst w0
        by_cases hw : want = 0
        · subst hw
          have HG := Lib.hid (HT.out ⟨HV.out, by omega, fun h => by omega, fun _ => rfl⟩)
          go_enter Tryd.func73, Tryd.ntmps73
          go_wp2
          go_ret
          exact ⟨by simp [HG.out], (Keeps.refl _ _).alloc _⟩
        · have hwd : (want == 0) = false := by simpa using hw
          have HB := Lib.hid (HF.out (fun h => hw (h.2.2.2 (by omega))))
          clear hw
          go_enter Tryd.func73, Tryd.ntmps73
          go_wp2
          go_ret
          exact ⟨by simp [HB.out], (Keeps.refl _ _).alloc _⟩
      by_cases w1 : way = 1
      · subst w1
        by_cases hw : want = 0
        · subst hw
          have HG := Lib.hid (HT.out ⟨HV.out, by omega, fun h => by omega, fun _ => rfl⟩)
          go_enter Tryd.func73, Tryd.ntmps73
          go_wp2
          go_ret
          exact ⟨by simp [HG.out], (Keeps.refl _ _).alloc _⟩
        · have hwd : (want == 0) = false := by simpa using hw
          have HB := Lib.hid (HF.out (fun h => hw (h.2.2.2 (by omega))))
          clear hw
          go_enter Tryd.func73, Tryd.ntmps73
          go_wp2
          go_ret
          exact ⟨by simp [HB.out], (Keeps.refl _ _).alloc _⟩
      by_cases w2 : way = 2
      · subst w2
        by_cases hw : want = 0
        · subst hw
          have HG := Lib.hid (HT.out ⟨HV.out, by omega, fun h => by omega, fun _ => rfl⟩)
          go_enter Tryd.func73, Tryd.ntmps73
          go_wp2
          go_ret
          exact ⟨by simp [HG.out], (Keeps.refl _ _).alloc _⟩
        · have hwd : (want == 0) = false := by simpa using hw
          have HB := Lib.hid (HF.out (fun h => hw (h.2.2.2 (by omega))))
          clear hw
          go_enter Tryd.func73, Tryd.ntmps73
          go_wp2
          go_ret
          exact ⟨by simp [HB.out], (Keeps.refl _ _).alloc _⟩
      by_cases w3 : way = 3
      · subst w3
        by_cases hw : want = 0
        · subst hw
          have HG := Lib.hid (HT.out ⟨HV.out, by omega, fun h => by omega, fun _ => rfl⟩)
          go_enter Tryd.func73, Tryd.ntmps73
          go_wp2
          go_ret
          exact ⟨by simp [HG.out], (Keeps.refl _ _).alloc _⟩
        · have hwd : (want == 0) = false := by simpa using hw
          have HB := Lib.hid (HF.out (fun h => hw (h.2.2.2 (by omega))))
          clear hw
          go_enter Tryd.func73, Tryd.ntmps73
          go_wp2
          go_ret
          exact ⟨by simp [HB.out], (Keeps.refl _ _).alloc _⟩
      by_cases w4 : way = 4
      · subst w4
        clear w0 w1 w2 w3
        by_cases hw : want = ver + 1
        · by_cases h9 : want ≤ 9
          · have hwd : (want == ver + 1) = true := by simpa using hw
            have HG := Lib.hid (HT.out ⟨HV.out, by omega, fun _ => ⟨hw, h9⟩, fun h => absurd rfl h⟩)
            clear hw
            go_enter Tryd.func73, Tryd.ntmps73
            go_wp2
            go_ret
            exact ⟨by simp [HG.out], (Keeps.refl _ _).alloc _⟩
          · have hwd : (want == ver + 1) = true := by simpa using hw
            have HB := Lib.hid (HF.out (fun h => h9 (h.2.2.1 rfl).2))
            clear hw
            go_enter Tryd.func73, Tryd.ntmps73
            go_wp2
            go_ret
            exact ⟨by simp [HB.out], (Keeps.refl _ _).alloc _⟩
        · have hwd : (want == ver + 1) = false := by simpa using hw
          have HB := Lib.hid (HF.out (fun h => hw (h.2.2.1 rfl).1))
          clear hw
          go_enter Tryd.func73, Tryd.ntmps73
          go_wp2
          go_ret
          exact ⟨by simp [HB.out], (Keeps.refl _ _).alloc _⟩
      · have HB := Lib.hid (HF.out (fun h => by have := h.2.1; omega))
        have d0 : (way == 0) = false := by simpa using w0
        have d1 : (way == 1) = false := by simpa using w1
        have d2 : (way == 2) = false := by simpa using w2
        have d3 : (way == 3) = false := by simpa using w3
        have d4 : (way == 4) = false := by simpa using w4
        clear w0 w1 w2 w3 w4
        go_enter Tryd.func73, Tryd.ntmps73
        go_wp2
        go_ret
        exact ⟨by simp [HB.out], (Keeps.refl _ _).alloc _⟩

/-- The value of a state. -/
def stV (x : StL) (A1 A2 A3 A4 : Option Addr) (c1 c2 c3 c4 : Nat) : Value :=
  .agg #[.int .i64 x.way, .int .i64 x.ver, .int .i64 x.want, .slice A1 x.sent.length c1, .slice A2 x.live.length c2, .slice A3 x.back.length c3, .slice A4 x.got.length c4]

theorem stB_no1 {x : StL} (h : decide (WayOk x.way x.ver x.want) = false) : stB x = false := by
  simp only [decide_eq_false_iff_not] at h
  simp only [stB, decide_eq_false_iff_not]
  exact fun k => h k.1
theorem stB_no2 {x : StL} (h : decide (SentOk x.ver x.sent) = false) : stB x = false := by
  simp only [decide_eq_false_iff_not] at h
  simp only [stB, decide_eq_false_iff_not]
  exact fun k => h k.2.1
theorem stB_no3 {x : StL} (h : decide (FateOk x.sent.length x.live x.back) = false) : stB x = false := by
  simp only [decide_eq_false_iff_not] at h
  simp only [stB, decide_eq_false_iff_not]
  exact fun k => h k.2.2.1
theorem stB_4 {x : StL} (h1 : decide (WayOk x.way x.ver x.want) = true) (h2 : decide (SentOk x.ver x.sent) = true) (h3 : decide (FateOk x.sent.length x.live x.back) = true) : stB x = decide (GotOk x.got) := by
  simp only [decide_eq_true_eq] at h1 h2 h3
  simp only [stB, decide_eq_decide]
  exact ⟨fun h => h.2.2.2, fun h => ⟨h1, h2, h3, h⟩⟩

set_option maxHeartbeats 1000000 in
theorem implSt_any (x : StL) (A1 A2 A3 A4 : Option Addr) (c1 c2 c3 c4 : Nat) (w : World) (hx : StAt w x A1 A2 A3 A4) (ht : Tabs w) :
    Calls Tryd.prog 42 #[stV x A1 A2 A3 A4 c1 c2 c3 c4] w fun e w' => e = .returned (.bool (stB x)) ∧ Keeps noBlk w w' := by
  have HX := Lib.hid hx
  have HT := Lib.hid ht
  clear hx ht
  have HW := Lib.hid (fun V1 V2 V3 V4 W => wayOk_any x.way x.ver x.want V1 V2 V3 V4 W)
  have HN1 := Lib.hid (@stB_no1 x)
  have HN2 := Lib.hid (@stB_no2 x)
  have HN3 := Lib.hid (@stB_no3 x)
  have HN4 := Lib.hid (@stB_4 x)
  have HS := Lib.hid (fun W hW hT => sentOk_any A1 x.sent.length c1 x.sent x.ver W hW HX.out.2.1 hT)
  have HFt := Lib.hid (fun G W h2 h3 => fatesOk_any x.way x.ver x.want A1 A2 A3 G x.sent.length x.live.length x.back.length c1 c2 c3 x.live x.back W h2 h3 HX.out.2.1 HX.out.2.2.1 HX.out.2.2.2.1)
  have HG := Lib.hid (fun W hW => gotOk_any A4 x.got.length c4 x.got W hW HX.out.2.2.2.2)
  generalize decide (WayOk x.way x.ver x.want) = o1 at HW HN1 HN4
  generalize decide (SentOk x.ver x.sent) = o2 at HS HN2 HN4
  generalize decide (FateOk x.sent.length x.live x.back) = o3 at HFt HN3 HN4
  generalize decide (GotOk x.got) = o4 at HG HN4
  generalize stB x = o at HN1 HN2 HN3 HN4
  have hb0 := Lib.hid (Box.new w _ rfl 31 #[.int .i64 x.way, .int .i64 x.ver, .int .i64 x.want, .slice A1 x.sent.length c1, .slice A2 x.live.length c2, .slice A3 x.back.length c3, .slice A4 x.got.length c4])
  unfold stV
  go_enter Tryd.func42, Tryd.ntmps42
  go_wp2_with fail
  refine (HW.out _ _ _ _ _).mono ?_
  rintro e w1 ⟨rfl, hk1⟩
  have HB1 := hb0.out.keeps hk1 (fun h => h)
  have HK1 := Lib.hid (((Keeps.refl noBlk w).alloc (.cells #[.int .i64 x.way, .int .i64 x.ver, .int .i64 x.want, .slice A1 x.sent.length c1, .slice A2 x.live.length c2, .slice A3 x.back.length c3, .slice A4 x.got.length c4] 31)).trans hk1)
  clear hk1
  have a0 := HB1.cell 0
  have a1 := HB1.cell 1
  have a2 := HB1.cell 2
  have a3 := HB1.cell 3
  have a4 := HB1.cell 4
  have a5 := HB1.cell 5
  have a6 := HB1.cell 6
  simp at a0 a1 a2 a3 a4 a5 a6
  have HB1 := Lib.hid HB1
  cases o1 with
  | false =>
    have HE := Lib.hid (HN1.out rfl)
    go_wp2
    go_ret
    exact ⟨by simp [HE.out], HK1.out⟩
  | true =>
    go_wp2_with fail
    refine (HS.out _ (HX.out.kept HK1.out).1.1 (HT.out.keeps HK1.out)).mono ?_
    rintro e w2 ⟨rfl, hk2⟩
    have HB2 := HB1.out.keeps hk2 (fun h => h)
    have HK2 := Lib.hid (HK1.out.trans hk2)
    clear hk2 a0 a1 a2 a3 a4 a5 a6
    have a0 := HB2.cell 0
    have a1 := HB2.cell 1
    have a2 := HB2.cell 2
    have a3 := HB2.cell 3
    have a4 := HB2.cell 4
    have a5 := HB2.cell 5
    have a6 := HB2.cell 6
    simp at a0 a1 a2 a3 a4 a5 a6
    have HB2 := Lib.hid HB2
    cases o2 with
    | false =>
      have HE := Lib.hid (HN2.out rfl)
      go_wp2
      go_ret
      exact ⟨by simp [HE.out], HK2.out⟩
    | true =>
      go_wp2_with fail
      refine (HFt.out _ _ (HX.out.kept HK2.out).1.2.1 (HX.out.kept HK2.out).1.2.2.1).mono ?_
      rintro e w3 ⟨rfl, hk3⟩
      have HB3 := HB2.out.keeps hk3 (fun h => h)
      have HK3 := Lib.hid (HK2.out.trans hk3)
      clear hk3 a0 a1 a2 a3 a4 a5 a6
      have a6 := HB3.cell 6
      simp at a6
      clear HB3
      cases o3 with
      | false =>
        have HE := Lib.hid (HN3.out rfl)
        go_wp2
        go_ret
        exact ⟨by simp [HE.out], HK3.out⟩
      | true =>
        have HE := Lib.hid (HN4.out (by simp) (by simp) (by simp))
        go_wp2_with fail
        refine (HG.out _ (HX.out.kept HK3.out).1.2.2.2).mono ?_
        rintro e w4 ⟨rfl, hk4⟩
        have HK4 := Lib.hid (HK3.out.qt hk4)
        clear hk4
        go_wp2
        go_ret
        exact ⟨by simp [HE.out], HK4.out⟩
end Go.Proofs.YtifocngajndnnaaDoor
