/- szStateS, szChain of the laws. toStateS, toChain of the laws: a chain anew, of the call's own. -/
import Derived.Test.YtcnbephpadmboaaGreatDoorUCxM
import Derived.Test.YtcnbephpadmboaaGreatDoorUOk
set_option linter.unusedVariables false
set_option linter.unusedSimpArgs false
/-! CxS -/
namespace Go.Proofs.YtcnbephpadmboaaGreatDoor
open Go.RowKit

def stTot (x : StL) : Int := (x.sent.length : Int) + x.live.length + x.back.length + x.got.length
/-- How much the first k states hold. -/
def paTot (l : List StM) : Nat → Int
  | 0 => 0
  | k + 1 => paTot l k + stTot (l.getD k stm0).x
theorem stTot_nn (x : StL) : 0 ≤ stTot x := by unfold stTot; omega
theorem paTot_nn (l : List StM) (k : Nat) : 0 ≤ paTot l k := by
  induction k with
  | zero => exact Int.le_refl _
  | succ k ih => have := stTot_nn (l.getD k stm0).x; simp only [paTot]; omega
theorem paTot_mono (l : List StM) {j k : Nat} (h : j ≤ k) : paTot l j ≤ paTot l k := by
  induction h with
  | refl => exact Int.le_refl _
  | @step m _ ih => have := stTot_nn (l.getD m stm0).x; simp only [paTot]; omega
def pastTot (l : List StM) : Int := (l.length : Int) + paTot l l.length
def chTot (c : ChM) : Int := (c.bk.b.own.length : Int) + c.bk.b.notes.length + stTot c.st.x + pastTot c.past + c.knows.length
def szR (left t : Int) : Int := if t ≤ left then left - t else -1

theorem szSt_yes (s : StM) (left : Int) (w : World) (hn : stTot s.x ≤ left) (hl : left ≤ 1048576) :
    Calls Tryz.prog 8 #[s.val, .int .i64 left] w fun e w' => e = .returned (.int .i64 (left - stTot s.x)) ∧ Keeps noBlk w w' := by
  refine (szState_yes s.x.way s.x.ver s.x.want s.A1 s.A2 s.A3 s.A4 _ _ _ _ s.c1 s.c2 s.c3 s.c4 left w (by unfold stTot at hn; omega) hl).mono ?_
  rintro e w' ⟨rfl, hk⟩
  exact ⟨by unfold stTot; congr 2; omega, hk⟩
theorem szSt_no (s : StM) (left : Int) (w : World) (hn : left < stTot s.x) (h0 : 0 ≤ left) (hl : left ≤ 1048576) (hs : s.At w) :
    Calls Tryz.prog 8 #[s.val, .int .i64 left] w fun e w' => e = .returned (.int .i64 (-1)) ∧ Keeps noBlk w w' :=
  szState_no s.x.way s.x.ver s.x.want s.A1 s.A2 s.A3 s.A4 _ _ _ _ s.c1 s.c2 s.c3 s.c4 left w (by unfold stTot at hn; omega) h0 hl hs.2.1 hs.2.2.1 hs.2.2.2.1 hs.2.2.2.2

set_option maxRecDepth 100000 in
set_option maxHeartbeats 2000000 in
theorem szStateS_any (A : Option Addr) (c : Nat) (ps : List StM) (left : Int) (w : World) (ha : Pas w A ps.length ps) (hpa : ∀ s ∈ ps, s.At w) (hn : ps.length ≤ maxLen) (h0 : 0 ≤ left) (hl : left ≤ 1048576) :
    Calls Tryz.prog 26 #[.slice A ps.length c, .int .i64 left] w fun e w' => e = .returned (.int .i64 (szR left (pastTot ps))) ∧ Keeps noBlk w w' := by
  unfold maxLen at hn
  have HA := Lib.hid ha
  have HP := Lib.hid hpa
  have HM := Lib.hid (fun k (h : k ≤ ps.length) => paTot_mono ps h)
  have HN := Lib.hid (paTot_nn ps)
  clear ha hpa
  by_cases hb : left - (ps.length : Int) < 0
  · have e : Hid (szR left (pastTot ps) = -1) := Lib.hid (by unfold szR pastTot; rw [if_neg (by have := HN.out ps.length; omega)])
    go_enter Tryz.func26, Tryz.ntmps26
    go_wp2
    go_ret
    exact ⟨(by rw [e.out]; first | done | rfl), Keeps.refl _ _⟩
  · go_enter Tryz.func26, Tryz.ntmps26
    go_wp2
    go_loopw [1, 5] (fun l i wr => ∃ k : Nat, k ≤ ps.length ∧ i = .int .i64 k ∧ l = .int .i64 (left - ps.length - paTot ps k) ∧ 0 ≤ left - ps.length - paTot ps k ∧ Keeps noBlk w wr) (fun _ i _ => ps.length - (intOf i).toNat)
    case atStart => exact ⟨0, Nat.zero_le _, rfl, by simp [paTot], by simp only [paTot]; omega, Keeps.refl _ _⟩
    case round =>
      obtain ⟨k, hk, rfl, rfl, hge, hkp⟩ := hrel
      have HK := Lib.hid hkp
      clear hkp
      by_cases hlt : k < ps.length
      · obtain ⟨b1, o1, rfl, _, q0, q1, q2, q3, q4, q5, q6⟩ := (HA.out.kept HK.out).at_ hlt
        have H1 := Lib.hid ((HP.out _ (getD_mem' stm0 hlt)).kept HK.out)
        have hst : Hid (paTot ps (k + 1) = paTot ps k + stTot (ps.getD k stm0).x) := Lib.hid rfl
        have hle := HM.out (k + 1) (by omega)
        rw [hst.out] at hle
        have hp0 := HN.out k
        have HLE := Lib.hid hle
        generalize ps.getD k stm0 = p at q0 q1 q2 q3 q4 q5 q6 H1 hst HLE
        clear hle
        generalize hL : left - (ps.length : Int) - paTot ps k = L at hge
        have hLm : L ≤ 1048576 := by omega
        have HL := Lib.hid hL
        clear hL
        by_cases hf : stTot p.x ≤ L
        · have F := Lib.hid (fun W => szSt_yes p L W hf hLm)
          have hneg : ¬ L - stTot p.x < 0 := by omega
          unfold StM.val at F
          go_wp2_with fail
          refine (F.out _).mono ?_
          rintro e w1 ⟨rfl, hk1⟩
          have HK1 := Lib.hid (HK.out.trans hk1)
          clear hk1
          go_wp2
          go_roundw
          case rel => exact ⟨k + 1, by omega, by go_num, by rw [hst.out, ← HL.out]; congr 1; omega, by rw [hst.out]; have := HL.out; omega, HK1.out⟩
          case measure => simp [intOf]; omega
        · have F := Lib.hid (fun W (hk : Keeps noBlk wr W) => szSt_no p L W (by omega) hge hLm (H1.out.kept hk))
          have e9 : Hid (szR left (pastTot ps) = -1) := Lib.hid (by unfold szR pastTot; rw [if_neg (by have := HLE.out; have := HL.out; omega)])
          unfold StM.val at F
          go_wp2_with fail
          refine (F.out _ (by first | exact Keeps.refl _ _ | exact (Keeps.refl _ _).drewN _ | exact (Keeps.refl _ _).drew)).mono ?_
          rintro e w1 ⟨rfl, hk1⟩
          have HK1 := Lib.hid (HK.out.trans hk1)
          clear hk1
          go_wp2
          go_ret
          exact ⟨(by rw [e9.out]; first | done | rfl), HK1.out⟩
      · obtain he : k = ps.length := by omega
        have e9 : Hid (szR left (pastTot ps) = left - ps.length - paTot ps k) := Lib.hid (by unfold szR pastTot; rw [he] at hge ⊢; rw [if_pos (by omega)]; omega)
        clear he
        go_wp2
        go_ret
        exact ⟨(by rw [e9.out]; first | done | rfl), HK.out⟩

theorem szIntS_yes' (A : Option Addr) (n c : Nat) (left : Int) (w : World) (hn : (n : Int) ≤ left) (hl : left ≤ 1048576) :
    Calls Tryz.prog 27 #[.slice A n c, .int .i64 left] w fun e w' => e = .returned (.int .i64 (left - n)) ∧ w = w' := by
  have h0 : ¬ left - (n : Int) < 0 := by omega
  go_enter Tryz.func27, Tryz.ntmps27
  go_wp2
  go_ret
  exact ⟨rfl, rfl⟩
theorem szIntS_no' (A : Option Addr) (n c : Nat) (left : Int) (w : World) (hn : left < (n : Int)) (h0 : 0 ≤ left) (hm : n ≤ maxLen) :
    Calls Tryz.prog 27 #[.slice A n c, .int .i64 left] w fun e w' => e = .returned (.int .i64 (-1)) ∧ w = w' := by
  unfold maxLen at hm
  have h1 : left - (n : Int) < 0 := by omega
  go_enter Tryz.func27, Tryz.ntmps27
  go_wp2
  go_ret
  exact ⟨rfl, rfl⟩
set_option maxRecDepth 100000 in
set_option maxHeartbeats 4000000 in
theorem szChain_any (c : ChM) (w : World) (ha : ChAt w c) :
    Calls Tryz.prog 7 #[c.val, .int .i64 1048576] w fun e w' => e = .returned (.int .i64 (szR 1048576 (chTot c))) ∧ Keeps noBlk w w' := by
  have HA := Lib.hid ha
  clear ha
  have z1 : 0 ≤ stTot c.st.x := stTot_nn _
  have z2 : 0 ≤ pastTot c.past := by unfold pastTot; have := paTot_nn c.past c.past.length; omega
  have N1 := Lib.hid (fun (h : 1048576 < (c.bk.b.own.length : Int) + c.bk.b.notes.length) W => szBank_no c.bk.A1 c.bk.A2 _ _ c.bk.c1 c.bk.c2 c.bk.b.locked 1048576 W h (by omega) (by omega) HA.out.m1 HA.out.m2)
  have F1 := Lib.hid (fun (h : (c.bk.b.own.length : Int) + c.bk.b.notes.length ≤ 1048576) W => szBank_yes c.bk.A1 c.bk.A2 _ _ c.bk.c1 c.bk.c2 c.bk.b.locked 1048576 W h (by omega))
  generalize hL1 : (1048576 : Int) - c.bk.b.own.length - c.bk.b.notes.length = L1 at F1
  have N2 := Lib.hid (fun (h0 : 0 ≤ L1) (h : L1 < stTot c.st.x) W (hk : Keeps noBlk w W) => szSt_no c.st L1 W h h0 (by omega) (HA.out.st.kept hk))
  have F2 := Lib.hid (fun (h : stTot c.st.x ≤ L1) W => szSt_yes c.st L1 W h (by omega))
  generalize hL2 : L1 - stTot c.st.x = L2 at F2
  have F3 := Lib.hid (fun (h : 0 ≤ L2) W (hk : Keeps noBlk w W) => szStateS_any c.pA c.pc c.past L2 W (HA.out.row.kept hk) (fun s hs => (HA.out.past s hs).kept hk) HA.out.m3 h (by omega))
  have N3 := Lib.hid (fun (h0 : 0 ≤ L2) (h : L2 < pastTot c.past) W (hk : Keeps noBlk w W) => (show szR L2 (pastTot c.past) = -1 by unfold szR; rw [if_neg (by omega)]) ▸ F3.out h0 W hk)
  have G3 := Lib.hid (fun (h0 : 0 ≤ L2) (h : pastTot c.past ≤ L2) W (hk : Keeps noBlk w W) => (show szR L2 (pastTot c.past) = L2 - pastTot c.past by unfold szR; rw [if_pos h]) ▸ F3.out h0 W hk)
  clear F3
  have F3 := G3
  clear G3
  generalize hL3 : L2 - pastTot c.past = L3 at F3
  have N4 := Lib.hid (fun (h0 : 0 ≤ L3) (h : L3 < (c.knows.length : Int)) W => szIntS_no' c.kA _ c.kc L3 W h h0 HA.out.m4)
  have F4 := Lib.hid (fun (h : (c.knows.length : Int) ≤ L3) W => szIntS_yes' c.kA _ c.kc L3 W h (by omega))
  have ht : chTot c = 1048576 - L3 + c.knows.length := by unfold chTot; omega
  have hz : Hid (szR 1048576 (chTot c) = if (c.knows.length : Int) ≤ L3 then L3 - c.knows.length else -1) := Lib.hid (by rw [ht]; unfold szR; split <;> split <;> omega)
  clear ht
  generalize szR 1048576 (chTot c) = R at hz
  generalize stTot c.st.x = t2 at *
  generalize pastTot c.past = t3 at *
  clear HA
  obtain ⟨id, ⟨⟨own, notes, lk⟩, a1, a2, e1, e2⟩, ⟨x, A1, A2, A3, A4, c1, c2, c3, c4⟩, past, pA, pc, knows, kA, kc⟩ := c
  dsimp only [StM.val] at *
  unfold ChM.val
  dsimp only
  have HBa := Lib.hid (Box.new w _ rfl 31 #[.int .i64 id, .slice a1 own.length e1, .slice a2 notes.length e2, .int .i64 lk, .int .i64 x.way, .int .i64 x.ver, .int .i64 x.want, .slice A1 x.sent.length c1, .slice A2 x.live.length c2, .slice A3 x.back.length c3, .slice A4 x.got.length c4, .slice pA past.length pc, .slice kA knows.length kc])
  have HK := Lib.hid ((Keeps.refl noBlk w).alloc (.cells #[.int .i64 id, .slice a1 own.length e1, .slice a2 notes.length e2, .int .i64 lk, .int .i64 x.way, .int .i64 x.ver, .int .i64 x.want, .slice A1 x.sent.length c1, .slice A2 x.live.length c2, .slice A3 x.back.length c3, .slice A4 x.got.length c4, .slice pA past.length pc, .slice kA knows.length kc] 31))
  by_cases k1 : (own.length : Int) + notes.length ≤ 1048576
  case neg =>
    have N1 := Lib.hid (N1.out (by omega))
    have hR : Hid (R = -1) := Lib.hid (by rw [hz.out, if_neg (by omega)])
    clear F1 N2 F2 N3 F3 N4 F4 hL1 hL2 hL3 hz
    go_enter Tryz.func7, Tryz.ntmps7
    go_wp2_with fail
    refine (N1.out _).mono ?_
    rintro e w1 ⟨rfl, hk1⟩
    have ha := HBa.out.keeps hk1 (fun h => h)
    clear HBa
    have HBa := Lib.hid ha
    clear ha
    have hr := HK.out.trans hk1
    clear HK
    have HK := Lib.hid hr
    clear hr
    have sz1 := hk1.size
    (try simp at sz1)
    clear hk1
    go_wp2
    go_ret
    exact ⟨(by rw [hR.out]; first | done | rfl), HK.out⟩
  have F1 := Lib.hid (F1.out k1)
  have g1 : ¬ L1 < 0 := by omega
  by_cases k2 : t2 ≤ L1
  case neg =>
    have N2 := Lib.hid (N2.out (by omega) (by omega))
    have hR : Hid (R = -1) := Lib.hid (by rw [hz.out, if_neg (by omega)])
    clear N1 F2 N3 F3 N4 F4 hL1 hL2 hL3 hz
    go_enter Tryz.func7, Tryz.ntmps7
    go_wp2_with fail
    refine (F1.out _).mono ?_
    rintro e w1 ⟨rfl, hk1⟩
    have ha := HBa.out.keeps hk1 (fun h => h)
    clear HBa
    have HBa := Lib.hid ha
    clear ha
    have hr := HK.out.trans hk1
    clear HK
    have HK := Lib.hid hr
    clear hr
    have sz1 := hk1.size
    (try simp at sz1)
    clear hk1
    have hb := HBa.out
    have a0 := hb.cell 0
    have a1 := hb.cell 1
    have a2 := hb.cell 2
    have a3 := hb.cell 3
    have a4 := hb.cell 4
    have a5 := hb.cell 5
    have a6 := hb.cell 6
    have a7 := hb.cell 7
    have a8 := hb.cell 8
    have a9 := hb.cell 9
    have a10 := hb.cell 10
    have a11 := hb.cell 11
    have a12 := hb.cell 12
    simp at a0 a1 a2 a3 a4 a5 a6 a7 a8 a9 a10 a11 a12
    have za := hb.lt
    clear hb
    go_wp2_with fail
    refine (N2.out _ HK.out).mono ?_
    rintro e w2 ⟨rfl, hk2⟩
    clear a0 a1 a2 a3 a4 a5 a6 a7 a8 a9 a10 a11 a12 za
    have ha := HBa.out.keeps hk2 (fun h => h)
    clear HBa
    have HBa := Lib.hid ha
    clear ha
    have hr := HK.out.trans hk2
    clear HK
    have HK := Lib.hid hr
    clear hr
    have sz2 := hk2.size
    (try simp at sz2)
    clear hk2
    go_wp2
    go_ret
    exact ⟨(by rw [hR.out]; first | done | rfl), HK.out⟩
  have F2 := Lib.hid (F2.out k2)
  have g2 : ¬ L2 < 0 := by omega
  by_cases k3 : t3 ≤ L2
  case neg =>
    have N3 := Lib.hid (N3.out (by omega) (by omega))
    have hR : Hid (R = -1) := Lib.hid (by rw [hz.out, if_neg (by omega)])
    clear N1 N2 F3 N4 F4 hL1 hL2 hL3 hz
    go_enter Tryz.func7, Tryz.ntmps7
    go_wp2_with fail
    refine (F1.out _).mono ?_
    rintro e w1 ⟨rfl, hk1⟩
    have ha := HBa.out.keeps hk1 (fun h => h)
    clear HBa
    have HBa := Lib.hid ha
    clear ha
    have hr := HK.out.trans hk1
    clear HK
    have HK := Lib.hid hr
    clear hr
    have sz1 := hk1.size
    (try simp at sz1)
    clear hk1
    have hb := HBa.out
    have a0 := hb.cell 0
    have a1 := hb.cell 1
    have a2 := hb.cell 2
    have a3 := hb.cell 3
    have a4 := hb.cell 4
    have a5 := hb.cell 5
    have a6 := hb.cell 6
    have a7 := hb.cell 7
    have a8 := hb.cell 8
    have a9 := hb.cell 9
    have a10 := hb.cell 10
    have a11 := hb.cell 11
    have a12 := hb.cell 12
    simp at a0 a1 a2 a3 a4 a5 a6 a7 a8 a9 a10 a11 a12
    have za := hb.lt
    clear hb
    go_wp2_with fail
    refine (F2.out _).mono ?_
    rintro e w2 ⟨rfl, hk2⟩
    clear a0 a1 a2 a3 a4 a5 a6 a7 a8 a9 a10 a11 a12 za
    have ha := HBa.out.keeps hk2 (fun h => h)
    clear HBa
    have HBa := Lib.hid ha
    clear ha
    have hr := HK.out.trans hk2
    clear HK
    have HK := Lib.hid hr
    clear hr
    have sz2 := hk2.size
    (try simp at sz2)
    clear hk2
    have hb := HBa.out
    have a0 := hb.cell 0
    have a1 := hb.cell 1
    have a2 := hb.cell 2
    have a3 := hb.cell 3
    have a4 := hb.cell 4
    have a5 := hb.cell 5
    have a6 := hb.cell 6
    have a7 := hb.cell 7
    have a8 := hb.cell 8
    have a9 := hb.cell 9
    have a10 := hb.cell 10
    have a11 := hb.cell 11
    have a12 := hb.cell 12
    simp at a0 a1 a2 a3 a4 a5 a6 a7 a8 a9 a10 a11 a12
    have za := hb.lt
    clear hb
    go_wp2_with fail
    refine (N3.out _ HK.out).mono ?_
    rintro e w3 ⟨rfl, hk3⟩
    clear a0 a1 a2 a3 a4 a5 a6 a7 a8 a9 a10 a11 a12 za
    have ha := HBa.out.keeps hk3 (fun h => h)
    clear HBa
    have HBa := Lib.hid ha
    clear ha
    have hr := HK.out.trans hk3
    clear HK
    have HK := Lib.hid hr
    clear hr
    have sz3 := hk3.size
    (try simp at sz3)
    clear hk3
    go_wp2
    go_ret
    exact ⟨(by rw [hR.out]; first | done | rfl), HK.out⟩
  have F3 := Lib.hid (F3.out (by omega) k3)
  have g3 : ¬ L3 < 0 := by omega
  by_cases k4 : (knows.length : Int) ≤ L3
  case neg =>
    have N4 := Lib.hid (N4.out (by omega) (by omega))
    have hR : Hid (R = -1) := Lib.hid (by rw [hz.out, if_neg k4])
    clear N1 N2 N3 F4 hL1 hL2 hL3 hz
    go_enter Tryz.func7, Tryz.ntmps7
    go_wp2_with fail
    refine (F1.out _).mono ?_
    rintro e w1 ⟨rfl, hk1⟩
    have ha := HBa.out.keeps hk1 (fun h => h)
    clear HBa
    have HBa := Lib.hid ha
    clear ha
    have hr := HK.out.trans hk1
    clear HK
    have HK := Lib.hid hr
    clear hr
    have sz1 := hk1.size
    (try simp at sz1)
    clear hk1
    have hb := HBa.out
    have a0 := hb.cell 0
    have a1 := hb.cell 1
    have a2 := hb.cell 2
    have a3 := hb.cell 3
    have a4 := hb.cell 4
    have a5 := hb.cell 5
    have a6 := hb.cell 6
    have a7 := hb.cell 7
    have a8 := hb.cell 8
    have a9 := hb.cell 9
    have a10 := hb.cell 10
    have a11 := hb.cell 11
    have a12 := hb.cell 12
    simp at a0 a1 a2 a3 a4 a5 a6 a7 a8 a9 a10 a11 a12
    have za := hb.lt
    clear hb
    go_wp2_with fail
    refine (F2.out _).mono ?_
    rintro e w2 ⟨rfl, hk2⟩
    clear a0 a1 a2 a3 a4 a5 a6 a7 a8 a9 a10 a11 a12 za
    have ha := HBa.out.keeps hk2 (fun h => h)
    clear HBa
    have HBa := Lib.hid ha
    clear ha
    have hr := HK.out.trans hk2
    clear HK
    have HK := Lib.hid hr
    clear hr
    have sz2 := hk2.size
    (try simp at sz2)
    clear hk2
    have hb := HBa.out
    have a0 := hb.cell 0
    have a1 := hb.cell 1
    have a2 := hb.cell 2
    have a3 := hb.cell 3
    have a4 := hb.cell 4
    have a5 := hb.cell 5
    have a6 := hb.cell 6
    have a7 := hb.cell 7
    have a8 := hb.cell 8
    have a9 := hb.cell 9
    have a10 := hb.cell 10
    have a11 := hb.cell 11
    have a12 := hb.cell 12
    simp at a0 a1 a2 a3 a4 a5 a6 a7 a8 a9 a10 a11 a12
    have za := hb.lt
    clear hb
    go_wp2_with fail
    refine (F3.out _ HK.out).mono ?_
    rintro e w3 ⟨rfl, hk3⟩
    clear a0 a1 a2 a3 a4 a5 a6 a7 a8 a9 a10 a11 a12 za
    have ha := HBa.out.keeps hk3 (fun h => h)
    clear HBa
    have HBa := Lib.hid ha
    clear ha
    have hr := HK.out.trans hk3
    clear HK
    have HK := Lib.hid hr
    clear hr
    have sz3 := hk3.size
    (try simp at sz3)
    clear hk3
    have hb := HBa.out
    have a0 := hb.cell 0
    have a1 := hb.cell 1
    have a2 := hb.cell 2
    have a3 := hb.cell 3
    have a4 := hb.cell 4
    have a5 := hb.cell 5
    have a6 := hb.cell 6
    have a7 := hb.cell 7
    have a8 := hb.cell 8
    have a9 := hb.cell 9
    have a10 := hb.cell 10
    have a11 := hb.cell 11
    have a12 := hb.cell 12
    simp at a0 a1 a2 a3 a4 a5 a6 a7 a8 a9 a10 a11 a12
    have za := hb.lt
    clear hb
    go_wp2_with fail
    refine (N4.out _).mono ?_
    rintro e w4 ⟨rfl, rfl⟩
    have hk4 := Keeps.refl noBlk w3
    clear a0 a1 a2 a3 a4 a5 a6 a7 a8 a9 a10 a11 a12 za
    have ha := HBa.out.keeps hk4 (fun h => h)
    clear HBa
    have HBa := Lib.hid ha
    clear ha
    have hr := HK.out.trans hk4
    clear HK
    have HK := Lib.hid hr
    clear hr
    have sz4 := hk4.size
    (try simp at sz4)
    clear hk4
    go_wp2
    go_ret
    exact ⟨(by rw [hR.out]; first | done | rfl), HK.out⟩
  have F4 := Lib.hid (F4.out k4)
  have g4 : ¬ L3 - (knows.length : Int) < 0 := by omega
  have hR : Hid (R = L3 - knows.length) := Lib.hid (by rw [hz.out, if_pos k4])
  clear N1 N2 N3 N4 hL1 hL2 hL3 hz
  go_enter Tryz.func7, Tryz.ntmps7
  go_wp2_with fail
  refine (F1.out _).mono ?_
  rintro e w1 ⟨rfl, hk1⟩
  have ha := HBa.out.keeps hk1 (fun h => h)
  clear HBa
  have HBa := Lib.hid ha
  clear ha
  have hr := HK.out.trans hk1
  clear HK
  have HK := Lib.hid hr
  clear hr
  have sz1 := hk1.size
  (try simp at sz1)
  clear hk1
  have hb := HBa.out
  have a0 := hb.cell 0
  have a1 := hb.cell 1
  have a2 := hb.cell 2
  have a3 := hb.cell 3
  have a4 := hb.cell 4
  have a5 := hb.cell 5
  have a6 := hb.cell 6
  have a7 := hb.cell 7
  have a8 := hb.cell 8
  have a9 := hb.cell 9
  have a10 := hb.cell 10
  have a11 := hb.cell 11
  have a12 := hb.cell 12
  simp at a0 a1 a2 a3 a4 a5 a6 a7 a8 a9 a10 a11 a12
  have za := hb.lt
  clear hb
  go_wp2_with fail
  refine (F2.out _).mono ?_
  rintro e w2 ⟨rfl, hk2⟩
  clear a0 a1 a2 a3 a4 a5 a6 a7 a8 a9 a10 a11 a12 za
  have ha := HBa.out.keeps hk2 (fun h => h)
  clear HBa
  have HBa := Lib.hid ha
  clear ha
  have hr := HK.out.trans hk2
  clear HK
  have HK := Lib.hid hr
  clear hr
  have sz2 := hk2.size
  (try simp at sz2)
  clear hk2
  have hb := HBa.out
  have a0 := hb.cell 0
  have a1 := hb.cell 1
  have a2 := hb.cell 2
  have a3 := hb.cell 3
  have a4 := hb.cell 4
  have a5 := hb.cell 5
  have a6 := hb.cell 6
  have a7 := hb.cell 7
  have a8 := hb.cell 8
  have a9 := hb.cell 9
  have a10 := hb.cell 10
  have a11 := hb.cell 11
  have a12 := hb.cell 12
  simp at a0 a1 a2 a3 a4 a5 a6 a7 a8 a9 a10 a11 a12
  have za := hb.lt
  clear hb
  go_wp2_with fail
  refine (F3.out _ HK.out).mono ?_
  rintro e w3 ⟨rfl, hk3⟩
  clear a0 a1 a2 a3 a4 a5 a6 a7 a8 a9 a10 a11 a12 za
  have ha := HBa.out.keeps hk3 (fun h => h)
  clear HBa
  have HBa := Lib.hid ha
  clear ha
  have hr := HK.out.trans hk3
  clear HK
  have HK := Lib.hid hr
  clear hr
  have sz3 := hk3.size
  (try simp at sz3)
  clear hk3
  have hb := HBa.out
  have a0 := hb.cell 0
  have a1 := hb.cell 1
  have a2 := hb.cell 2
  have a3 := hb.cell 3
  have a4 := hb.cell 4
  have a5 := hb.cell 5
  have a6 := hb.cell 6
  have a7 := hb.cell 7
  have a8 := hb.cell 8
  have a9 := hb.cell 9
  have a10 := hb.cell 10
  have a11 := hb.cell 11
  have a12 := hb.cell 12
  simp at a0 a1 a2 a3 a4 a5 a6 a7 a8 a9 a10 a11 a12
  have za := hb.lt
  clear hb
  go_wp2_with fail
  refine (F4.out _).mono ?_
  rintro e w4 ⟨rfl, rfl⟩
  have hk4 := Keeps.refl noBlk w3
  clear a0 a1 a2 a3 a4 a5 a6 a7 a8 a9 a10 a11 a12 za
  have ha := HBa.out.keeps hk4 (fun h => h)
  clear HBa
  have HBa := Lib.hid ha
  clear ha
  have hr := HK.out.trans hk4
  clear HK
  have HK := Lib.hid hr
  clear hr
  have sz4 := hk4.size
  (try simp at sz4)
  clear hk4
  go_wp2
  go_ret
  exact ⟨(by rw [hR.out]; first | done | rfl), HK.out⟩
end Go.Proofs.YtcnbephpadmboaaGreatDoor

/-! CxT -/
namespace Go.Proofs.YtcnbephpadmboaaGreatDoor
open Go.RowKit

theorem info_st : (Tryz.prog.info? 39).map (fun i => (i.zero, i.size, i.bytes)) = some (some (.agg #[.int .i64 0, .int .i64 0, .int .i64 0, .slice none 0 0, .slice none 0 0, .slice none 0 0, .slice none 0 0]), 7, 120) := by kernel_rfl
def zst : Array Value := #[.int .i64 0, .int .i64 0, .int .i64 0, .slice none 0 0, .slice none 0 0, .slice none 0 0, .slice none 0 0]
theorem run_make_sts (n : Nat) (hn : n ≤ 1048576) (w : World) :
    (Instr.makeSlice 40 (.int .i64 (n : Int)) (.int .i64 (n : Int))).run Tryz.prog w = .ok (.slice (some ⟨w.heap.size, 0, none⟩) n n) (w.alloc (.cells (madeCells zst (n * 7)) 39)) := by
  obtain ⟨i, hi, hzz⟩ := Option.map_eq_some_iff.1 info_st
  simp only [Prod.mk.injEq] at hzz
  obtain ⟨hz, hs, hb⟩ := hzz
  have hr := run_make (P := Tryz.prog) w 40 39 i _ Tryz.underlying40 hi hz .i64 .i64 n n (by omega) (Int.le_refl _) (by rw [hb]; omega) (by omega)
  simp only [Int.toNat_natCast, hs] at hr
  exact hr
theorem made_st (n j : Nat) (hj : j < n) (i : Nat) (c : Value) (hc : stm0.cs[i]? = some c) : (madeCells zst (n * 7))[j * 7 + i]? = some c := by
  have hi : i < 7 := (List.getElem?_eq_some_iff.1 hc).1
  have hm : (j * 7 + i) % 7 = i := by omega
  have hlt : j * 7 + i < n * 7 := by omega
  simp only [madeCells, zst]
  have hr : (Array.range (n * 7))[j * 7 + i]? = some (j * 7 + i) := by simp [hlt]
  rw [Array.getElem?_map, hr]
  simp only [Option.map_some]
  have : (#[Value.int .i64 0, .int .i64 0, .int .i64 0, .slice none 0 0, .slice none 0 0, .slice none 0 0, .slice none 0 0] : Array Value).size = 7 := rfl
  rw [this, hm]
  match i, hi, hc with
  | 0, _, hc => exact hc
  | 1, _, hc => exact hc
  | 2, _, hc => exact hc
  | 3, _, hc => exact hc
  | 4, _, hc => exact hc
  | 5, _, hc => exact hc
  | 6, _, hc => exact hc
theorem SRow.made (w : World) (n : Nat) : SRow (w.alloc (.cells (madeCells zst (n * 7)) 39)) w.heap.size (some ⟨w.heap.size, 0, none⟩) n (List.replicate n stm0) :=
  ⟨⟨by simp, fun _ => ⟨_, _, rfl, by simp, fun j p hp i c hc => by
      rw [List.getElem?_replicate] at hp
      split at hp
      · injection hp with hp
        subst hp
        rw [World.cell?_alloc_new, Nat.zero_add]
        exact made_st n j (by assumption) i c hc
      · cases hp⟩⟩,
    fun _ => ⟨_, _, rfl, Nat.le_refl _, fun j _ => World.frozen?_alloc_new w _ _ _⟩⟩

/-- The call hands back a slice of states of its own, that hold what ps hold; its block has the role 3, the states' blocks 10, 11, .. -/
def RetPast (w : World) (ps : List StM) (e : Ending) (w' : World) : Prop :=
  ∃ A us, e = .returned (.slice A ps.length ps.length) ∧ us.length = ps.length ∧ SRow w' w.heap.size A ps.length us ∧ SameS ps us ∧ Keeps noBlk w w' ∧
    ∀ G : Nat → Nat, ∃ G' : Nat → Nat, (∀ b, b < w.heap.size → G' b = G b) ∧ (∀ b, blk A ps.length b → G' b = 3) ∧ (∀ i, i < ps.length → SOwn G' 10 w' w.heap.size us i)
/-- One more state is laid. -/
theorem sown_step {G : Nat → Nat} {wr w1 w2 : World} {lo base k n : Nat} {us : List StM} {P : Nat → Prop} (s : StM) (h : ∀ i, i < n → P i → SOwn G 10 wr lo us i) (hk : Keeps noBlk wr w1) (hn : s.Own w1 wr.heap.size) (hl : lo ≤ wr.heap.size)
    (hu : us.length = n) (hkn : k < n) (hP : ¬ P k) (h2 : Keeps (fun b => b = base) w1 w2) (hb : base < lo) : ∀ i, i < n → (P i ∨ i = k) → SOwn (up G wr.heap.size (10 + k)) 10 w2 lo (us.set k s) i := by
  intro i hi hPi
  by_cases hik : k = i
  · subst hik
    unfold SOwn
    rw [getD_set_self _ _ (by omega)]
    exact ⟨(hn.less hl).keeps h2 fun b hb' e => by have := hn.ge hb'; omega, fun b hb' => up_new (hn.ge hb')⟩
  · have hold := h i hi (hPi.resolve_right fun e => hik e.symm)
    unfold SOwn at hold ⊢
    rw [getD_set_ne _ _ hik]
    exact ⟨(hold.1.kept hk).keeps h2 fun b hb' e => by have := hold.1.ge hb'; omega, fun b hb' => by rw [up_old (hold.1.lt hb')]; exact hold.2 b hb'⟩
set_option maxRecDepth 100000 in
set_option maxHeartbeats 4000000 in
theorem toStateS_any (A : Option Addr) (c : Nat) (ps : List StM) (w : World) (ha : Pas w A ps.length ps) (hpa : ∀ s ∈ ps, s.At w) (hn : ps.length ≤ 1048576)
    (hm : ∀ s ∈ ps, s.x.sent.length ≤ 1048576 ∧ s.x.live.length ≤ 1048576 ∧ s.x.back.length ≤ 1048576 ∧ s.x.got.length ≤ 1048576) :
    Calls Tryz.prog 36 #[.slice A ps.length c] w (RetPast w ps) := by
  have hmk := run_make_sts ps.length hn
  have HA := Lib.hid ha
  have HP := Lib.hid hpa
  have HM := Lib.hid hm
  clear ha hpa hm
  go_enter Tryz.func36, Tryz.ntmps36
  go_wp2
  go_loopw [4] (fun i wr => ∃ (k : Nat) (us : List StM), k ≤ ps.length ∧ i = .int .i64 k ∧ us.length = ps.length ∧ SRow wr w.heap.size (some ⟨w.heap.size, 0, none⟩) ps.length us ∧ (∀ i, i < k → (ps.getD i stm0).x = (us.getD i stm0).x) ∧ Keeps noBlk w wr ∧ w.heap.size + 1 ≤ wr.heap.size ∧
    ∀ G : Nat → Nat, ∃ G' : Nat → Nat, (∀ b, b < w.heap.size + 1 → G' b = G b) ∧ ∀ i, i < ps.length → i < k → SOwn G' 10 wr (w.heap.size + 1) us i) (fun i _ => ps.length - (intOf i).toNat)
  case atStart => exact ⟨0, List.replicate ps.length stm0, Nat.zero_le _, rfl, by simp, SRow.made w ps.length, fun i h => absurd h (Nat.not_lt_zero _), (Keeps.refl _ _).alloc _, by simp, fun G => ⟨G, fun _ _ => rfl, fun i _ h => absurd h (Nat.not_lt_zero _)⟩⟩
  case round =>
    obtain ⟨k, us, hk, rfl, hul, hr, hsm, hkp, hsz, hG⟩ := hrel
    by_cases hlt : k < ps.length
    · obtain ⟨b2, o2, rfl, _, q0, q1, q2, q3, q4, q5, q6⟩ := (HA.out.kept hkp).at_ hlt
      have hat := (HP.out _ (getD_mem' stm0 hlt)).kept hkp
      have hmm := HM.out _ (getD_mem' stm0 hlt)
      generalize hp : ps.getD k stm0 = p at q0 q1 q2 q3 q4 q5 q6 hat hmm
      obtain ⟨x, A1, A2, A3, A4, c1, c2, c3, c4⟩ := p
      dsimp only [StM.At] at q0 q1 q2 q3 q4 q5 q6 hat hmm
      have HT := Lib.hid (toState_any x A1 A2 A3 A4 c1 c2 c3 c4 wr hat hmm.1 hmm.2.1 hmm.2.2.1 hmm.2.2.2)
      have HPK := Lib.hid hp
      have Hr := Lib.hid hr
      have Hkp := Lib.hid hkp
      have Hsm := Lib.hid hsm
      have HGG := Lib.hid hG
      have Hul := Lib.hid hul
      have HLT := Lib.hid hlt
      clear hr hkp hsm hG hp hat hmm hul
      unfold stV at HT
      go_wp2_with fail
      clear q0 q1 q2 q3 q4 q5 q6
      refine HT.out.mono ?_
      rintro e w1 ⟨B1, B2, B3, B4, rfl, hown, hk1⟩
      unfold stV
      have hr1 := Hr.out.kept hk1
      obtain ⟨b1, o1, e1, _, z0, z1, z2, z3, z4, z5, z6⟩ := hr1.1.at_ hlt
      obtain ⟨b1', o1', e1', _, hf⟩ := hr1.2 (by omega)
      injection e1 with e1
      injection e1 with e1 e2
      subst e1
      subst e2
      injection e1' with e1'
      injection e1' with e1' e2'
      subst e1'
      subst e2'
      have f0 := hf (k * 7) (by omega)
      have f1 := hf (k * 7 + 1) (by omega)
      have f2 := hf (k * 7 + 2) (by omega)
      have f3 := hf (k * 7 + 3) (by omega)
      have f4 := hf (k * 7 + 4) (by omega)
      have f5 := hf (k * 7 + 5) (by omega)
      have f6 := hf (k * 7 + 6) (by omega)
      rw [Nat.zero_add] at z0 z1 z2 z3 z4 z5 z6
      simp only [Nat.zero_add] at f0 f1 f2 f3 f4 f5 f6
      clear hf
      have Hr1 := Lib.hid hr1
      have Hk1 := Lib.hid hk1
      have Hown := Lib.hid hown
      have Hsz := Lib.hid hsz
      clear hr1 hk1 hown hsz
      generalize us.getD k stm0 = old at z0 z1 z2 z3 z4 z5 z6
      go_wp2
      have hset := Hr1.out.set_ HLT.out ⟨x, B1, B2, B3, B4, x.sent.length, x.live.length, x.back.length, x.got.length⟩
      rw [Nat.zero_add] at hset
      have hks := (Keeps.refl (fun b => b = w.heap.size) w1).setSt (b := w.heap.size) (.inr rfl) (k * 7) ⟨x, B1, B2, B3, B4, x.sent.length, x.live.length, x.back.length, x.got.length⟩
      have hsz1 : w.heap.size + 1 ≤ w1.heap.size := Nat.le_trans Hsz.out Hk1.out.size
      refine ⟨⟨k + 1, us.set k ⟨x, B1, B2, B3, B4, x.sent.length, x.live.length, x.back.length, x.got.length⟩, HLT.out, by go_num, by rw [List.length_set]; exact Hul.out, hset, ?_, ?_, ?_, ?_⟩, by have := HLT.out; simp [intOf]; omega⟩
      · intro i hi
        by_cases hik : k = i
        · subst hik
          rw [getD_set_self _ _ (by rw [Hul.out]; exact HLT.out), HPK.out]
        · rw [getD_set_ne _ _ hik]
          exact Hsm.out i (by omega)
      · exact (Hkp.out.trans Hk1.out).setSt (.inl (Nat.le_refl _)) (k * 7) ⟨x, B1, B2, B3, B4, x.sent.length, x.live.length, x.back.length, x.got.length⟩
      · exact Nat.le_trans hsz1 hks.size
      · intro G
        obtain ⟨G', h1, h2⟩ := HGG.out G
        refine ⟨up G' wr.heap.size (10 + k), fun b hb => by rw [up_old (Nat.lt_of_lt_of_le hb Hsz.out)]; exact h1 b hb, fun i hi hik => ?_⟩
        exact sown_step (P := fun i => i < k) ⟨x, B1, B2, B3, B4, x.sent.length, x.live.length, x.back.length, x.got.length⟩ h2 Hk1.out Hown.out Hsz.out Hul.out HLT.out (Nat.lt_irrefl k) hks (Nat.lt_succ_self _) i hi (by omega)
    · obtain he : k = ps.length := by omega
      have Hr := Lib.hid hr
      have Hsm : Hid (SameS ps us) := Lib.hid ⟨hul.symm, fun i hi => hsm i (by omega)⟩
      have HGG : Hid (∀ G : Nat → Nat, ∃ G' : Nat → Nat, (∀ b, b < w.heap.size + 1 → G' b = G b) ∧ ∀ i, i < ps.length → SOwn G' 10 wr (w.heap.size + 1) us i) := Lib.hid fun G => by
        obtain ⟨G', h1, h2⟩ := hG G
        exact ⟨G', h1, fun i hi => h2 i hi (by omega)⟩
      have Hul := Lib.hid hul
      have Hkp := Lib.hid hkp
      clear hr hsm hG hul he hkp
      go_wp2
      go_ret
      refine ⟨_, us, rfl, Hul.out, Hr.out, Hsm.out, Hkp.out, fun G => ?_⟩
      obtain ⟨G', h1, h2⟩ := HGG.out (fun b => if b = w.heap.size then 3 else G b)
      refine ⟨G', fun b hb => ?_, fun b hb => ?_, fun i hi => ⟨(h2 i hi).1.less (Nat.le_succ _), (h2 i hi).2⟩⟩
      · rw [h1 b (by omega), if_neg (by omega)]
      · obtain ⟨_, a, ea, eb⟩ := hb
        injection ea with ea
        subst ea
        obtain rfl : w.heap.size = b := eb
        rw [h1 _ (Nat.lt_succ_self _), if_pos rfl]
end Go.Proofs.YtcnbephpadmboaaGreatDoor
