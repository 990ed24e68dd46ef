/- szStateS, szChain of the laws. -/
import Derived.Test.YtbgpclicflafaaaDoorCxM
import Derived.Test.YtbgpclicflafaaaDoorUOk
set_option linter.unusedVariables false
set_option linter.unusedSimpArgs false
namespace Go.Proofs.YtbgpclicflafaaaDoor
open Go.RowKit

def stTot (x : StL) : Int := (x.sent.length : Int) + x.live.length + x.back.length + x.got.length
/-- How much the first k states hold. -/
def paTot (l : List StM) : Nat → Int
  | 0 => 0
  | k + 1 => paTot l k + stTot (l.getD k stm0).x
theorem stTot_nn (x : StL) : 0 ≤ stTot x := by unfold stTot; omega
theorem paTot_nn (l : List StM) (k : Nat) : 0 ≤ paTot l k := by
  induction k with
  | zero => exact Int.le_refl _
  | succ k ih => have := stTot_nn (l.getD k stm0).x; simp only [paTot]; omega
theorem paTot_mono (l : List StM) {j k : Nat} (h : j ≤ k) : paTot l j ≤ paTot l k := by
  induction h with
  | refl => exact Int.le_refl _
  | @step m _ ih => have := stTot_nn (l.getD m stm0).x; simp only [paTot]; omega
def pastTot (l : List StM) : Int := (l.length : Int) + paTot l l.length
def chTot (c : ChM) : Int := (c.bk.b.own.length : Int) + c.bk.b.notes.length + stTot c.st.x + pastTot c.past + c.knows.length
def szR (left t : Int) : Int := if t ≤ left then left - t else -1

theorem szSt_yes (s : StM) (left : Int) (w : World) (hn : stTot s.x ≤ left) (hl : left ≤ 1048576) :
    Calls Tryd.prog 51 #[s.val, .int .i64 left] w fun e w' => e = .returned (.int .i64 (left - stTot s.x)) ∧ Keeps noBlk w w' := by
  refine (szState_yes s.x.way s.x.ver s.x.want s.A1 s.A2 s.A3 s.A4 _ _ _ _ s.c1 s.c2 s.c3 s.c4 left w (by unfold stTot at hn; omega) hl).mono ?_
  rintro e w' ⟨rfl, hk⟩
  exact ⟨by unfold stTot; congr 2; omega, hk⟩
theorem szSt_no (s : StM) (left : Int) (w : World) (hn : left < stTot s.x) (h0 : 0 ≤ left) (hl : left ≤ 1048576) (hs : s.At w) :
    Calls Tryd.prog 51 #[s.val, .int .i64 left] w fun e w' => e = .returned (.int .i64 (-1)) ∧ Keeps noBlk w w' :=
  szState_no s.x.way s.x.ver s.x.want s.A1 s.A2 s.A3 s.A4 _ _ _ _ s.c1 s.c2 s.c3 s.c4 left w (by unfold stTot at hn; omega) h0 hl hs.2.1 hs.2.2.1 hs.2.2.2.1 hs.2.2.2.2

set_option maxRecDepth 100000 in
set_option maxHeartbeats 2000000 in
theorem szStateS_any (A : Option Addr) (c : Nat) (ps : List StM) (left : Int) (w : World) (ha : Pas w A ps.length ps) (hpa : ∀ s ∈ ps, s.At w) (hn : ps.length ≤ maxLen) (h0 : 0 ≤ left) (hl : left ≤ 1048576) :
    Calls Tryd.prog 52 #[.slice A ps.length c, .int .i64 left] w fun e w' => e = .returned (.int .i64 (szR left (pastTot ps))) ∧ Keeps noBlk w w' := by
  unfold maxLen at hn
  have HA := Lib.hid ha
  have HP := Lib.hid hpa
  have HM := Lib.hid (fun k (h : k ≤ ps.length) => paTot_mono ps h)
  have HN := Lib.hid (paTot_nn ps)
  clear ha hpa
  by_cases hb : left - (ps.length : Int) < 0
  · have e : Hid (szR left (pastTot ps) = -1) := Lib.hid (by unfold szR pastTot; rw [if_neg (by have := HN.out ps.length; omega)])
    go_enter Tryd.func52, Tryd.ntmps52
    go_wp2
    go_ret
    exact ⟨(by rw [e.out]; first | done | rfl), Keeps.refl _ _⟩
  · go_enter Tryd.func52, Tryd.ntmps52
    go_wp2
    go_loopw [1, 5] (fun l i wr => ∃ k : Nat, k ≤ ps.length ∧ i = .int .i64 k ∧ l = .int .i64 (left - ps.length - paTot ps k) ∧ 0 ≤ left - ps.length - paTot ps k ∧ Keeps noBlk w wr) (fun _ i _ => ps.length - (intOf i).toNat)
    case atStart => exact ⟨0, Nat.zero_le _, rfl, by simp [paTot], by simp only [paTot]; omega, Keeps.refl _ _⟩
    case round =>
      obtain ⟨k, hk, rfl, rfl, hge, hkp⟩ := hrel
      have HK := Lib.hid hkp
      clear hkp
      by_cases hlt : k < ps.length
      · obtain ⟨b1, o1, rfl, _, q0, q1, q2, q3, q4, q5, q6⟩ := (HA.out.kept HK.out).at_ hlt
        have H1 := Lib.hid ((HP.out _ (getD_mem' stm0 hlt)).kept HK.out)
        have hst : Hid (paTot ps (k + 1) = paTot ps k + stTot (ps.getD k stm0).x) := Lib.hid rfl
        have hle := HM.out (k + 1) (by omega)
        rw [hst.out] at hle
        have hp0 := HN.out k
        have HLE := Lib.hid hle
        generalize ps.getD k stm0 = p at q0 q1 q2 q3 q4 q5 q6 H1 hst HLE
        clear hle
        generalize hL : left - (ps.length : Int) - paTot ps k = L at hge
        have hLm : L ≤ 1048576 := by omega
        have HL := Lib.hid hL
        clear hL
        by_cases hf : stTot p.x ≤ L
        · have F := Lib.hid (fun W => szSt_yes p L W hf hLm)
          have hneg : ¬ L - stTot p.x < 0 := by omega
          unfold StM.val at F
          go_wp2_with fail
          refine (F.out _).mono ?_
          rintro e w1 ⟨rfl, hk1⟩
          have HK1 := Lib.hid (HK.out.trans hk1)
          clear hk1
          go_wp2
          go_roundw
          case rel => exact ⟨k + 1, by omega, by go_num, by rw [hst.out, ← HL.out]; congr 1; omega, by rw [hst.out]; have := HL.out; omega, HK1.out⟩
          case measure => simp [intOf]; omega
        · have F := Lib.hid (fun W (hk : Keeps noBlk wr W) => szSt_no p L W (by omega) hge hLm (H1.out.kept hk))
          have e9 : Hid (szR left (pastTot ps) = -1) := Lib.hid (by unfold szR pastTot; rw [if_neg (by have := HLE.out; have := HL.out; omega)])
          unfold StM.val at F
          go_wp2_with fail
          refine (F.out _ (by first | exact Keeps.refl _ _ | exact (Keeps.refl _ _).drewN _ | exact (Keeps.refl _ _).drew)).mono ?_
          rintro e w1 ⟨rfl, hk1⟩
          have HK1 := Lib.hid (HK.out.trans hk1)
          clear hk1
          go_wp2
          go_ret
          exact ⟨(by rw [e9.out]; first | done | rfl), HK1.out⟩
      · obtain he : k = ps.length := by omega
        have e9 : Hid (szR left (pastTot ps) = left - ps.length - paTot ps k) := Lib.hid (by unfold szR pastTot; rw [he] at hge ⊢; rw [if_pos (by omega)]; omega)
        clear he
        go_wp2
        go_ret
        exact ⟨(by rw [e9.out]; first | done | rfl), HK.out⟩

theorem szIntS_yes' (A : Option Addr) (n c : Nat) (left : Int) (w : World) (hn : (n : Int) ≤ left) (hl : left ≤ 1048576) :
    Calls Tryd.prog 53 #[.slice A n c, .int .i64 left] w fun e w' => e = .returned (.int .i64 (left - n)) ∧ w = w' := by
  have h0 : ¬ left - (n : Int) < 0 := by omega
  go_enter Tryd.func53, Tryd.ntmps53
  go_wp2
  go_ret
  exact ⟨rfl, rfl⟩
theorem szIntS_no' (A : Option Addr) (n c : Nat) (left : Int) (w : World) (hn : left < (n : Int)) (h0 : 0 ≤ left) (hm : n ≤ maxLen) :
    Calls Tryd.prog 53 #[.slice A n c, .int .i64 left] w fun e w' => e = .returned (.int .i64 (-1)) ∧ w = w' := by
  unfold maxLen at hm
  have h1 : left - (n : Int) < 0 := by omega
  go_enter Tryd.func53, Tryd.ntmps53
  go_wp2
  go_ret
  exact ⟨rfl, rfl⟩
set_option maxRecDepth 100000 in
set_option maxHeartbeats 4000000 in
theorem szChain_any (c : ChM) (w : World) (ha : ChAt w c) :
    Calls Tryd.prog 14 #[c.val, .int .i64 1048576] w fun e w' => e = .returned (.int .i64 (szR 1048576 (chTot c))) ∧ Keeps noBlk w w' := by
  have HA := Lib.hid ha
  clear ha
  have z1 : 0 ≤ stTot c.st.x := stTot_nn _
  have z2 : 0 ≤ pastTot c.past := by unfold pastTot; have := paTot_nn c.past c.past.length; omega
  have N1 := Lib.hid (fun (h : 1048576 < (c.bk.b.own.length : Int) + c.bk.b.notes.length) W => szBank_no c.bk.A1 c.bk.A2 _ _ c.bk.c1 c.bk.c2 c.bk.b.locked 1048576 W h (by omega) (by omega) HA.out.m1 HA.out.m2)
  have F1 := Lib.hid (fun (h : (c.bk.b.own.length : Int) + c.bk.b.notes.length ≤ 1048576) W => szBank_yes c.bk.A1 c.bk.A2 _ _ c.bk.c1 c.bk.c2 c.bk.b.locked 1048576 W h (by omega))
  generalize hL1 : (1048576 : Int) - c.bk.b.own.length - c.bk.b.notes.length = L1 at F1
  have N2 := Lib.hid (fun (h0 : 0 ≤ L1) (h : L1 < stTot c.st.x) W (hk : Keeps noBlk w W) => szSt_no c.st L1 W h h0 (by omega) (HA.out.st.kept hk))
  have F2 := Lib.hid (fun (h : stTot c.st.x ≤ L1) W => szSt_yes c.st L1 W h (by omega))
  generalize hL2 : L1 - stTot c.st.x = L2 at F2
  have F3 := Lib.hid (fun (h : 0 ≤ L2) W (hk : Keeps noBlk w W) => szStateS_any c.pA c.pc c.past L2 W (HA.out.row.kept hk) (fun s hs => (HA.out.past s hs).kept hk) HA.out.m3 h (by omega))
  have N3 := Lib.hid (fun (h0 : 0 ≤ L2) (h : L2 < pastTot c.past) W (hk : Keeps noBlk w W) => (show szR L2 (pastTot c.past) = -1 by unfold szR; rw [if_neg (by omega)]) ▸ F3.out h0 W hk)
  have G3 := Lib.hid (fun (h0 : 0 ≤ L2) (h : pastTot c.past ≤ L2) W (hk : Keeps noBlk w W) => (show szR L2 (pastTot c.past) = L2 - pastTot c.past by unfold szR; rw [if_pos h]) ▸ F3.out h0 W hk)
  clear F3
  have F3 := G3
  clear G3
  generalize hL3 : L2 - pastTot c.past = L3 at F3
  have N4 := Lib.hid (fun (h0 : 0 ≤ L3) (h : L3 < (c.knows.length : Int)) W => szIntS_no' c.kA _ c.kc L3 W h h0 HA.out.m4)
  have F4 := Lib.hid (fun (h : (c.knows.length : Int) ≤ L3) W => szIntS_yes' c.kA _ c.kc L3 W h (by omega))
  have ht : chTot c = 1048576 - L3 + c.knows.length := by unfold chTot; omega
  have hz : Hid (szR 1048576 (chTot c) = if (c.knows.length : Int) ≤ L3 then L3 - c.knows.length else -1) := Lib.hid (by rw [ht]; unfold szR; split <;> split <;> omega)
  clear ht
  generalize szR 1048576 (chTot c) = R at hz
  generalize stTot c.st.x = t2 at *
  generalize pastTot c.past = t3 at *
  clear HA
  obtain ⟨id, ⟨⟨own, notes, lk⟩, a1, a2, e1, e2⟩, ⟨x, A1, A2, A3, A4, c1, c2, c3, c4⟩, past, pA, pc, knows, kA, kc⟩ := c
  dsimp only [StM.val] at *
  unfold ChM.val
  dsimp only
  have HBa := Lib.hid (Box.new w _ rfl 31 #[.int .i64 id, .slice a1 own.length e1, .slice a2 notes.length e2, .int .i64 lk, .int .i64 x.way, .int .i64 x.ver, .int .i64 x.want, .slice A1 x.sent.length c1, .slice A2 x.live.length c2, .slice A3 x.back.length c3, .slice A4 x.got.length c4, .slice pA past.length pc, .slice kA knows.length kc])
  have HK := Lib.hid ((Keeps.refl noBlk w).alloc (.cells #[.int .i64 id, .slice a1 own.length e1, .slice a2 notes.length e2, .int .i64 lk, .int .i64 x.way, .int .i64 x.ver, .int .i64 x.want, .slice A1 x.sent.length c1, .slice A2 x.live.length c2, .slice A3 x.back.length c3, .slice A4 x.got.length c4, .slice pA past.length pc, .slice kA knows.length kc] 31))
  by_cases k1 : (own.length : Int) + notes.length ≤ 1048576
  case neg =>
    have N1 := Lib.hid (N1.out (by omega))
    have hR : Hid (R = -1) := Lib.hid (by rw [hz.out, if_neg (by omega)])
    clear F1 N2 F2 N3 F3 N4 F4 hL1 hL2 hL3 hz
    go_enter Tryd.func14, Tryd.ntmps14
    go_wp2_with fail
    refine (N1.out _).mono ?_
    rintro e w1 ⟨rfl, hk1⟩
    have ha := HBa.out.keeps hk1 (fun h => h)
    clear HBa
    have HBa := Lib.hid ha
    clear ha
    have hr := HK.out.trans hk1
    clear HK
    have HK := Lib.hid hr
    clear hr
    have sz1 := hk1.size
    (try simp at sz1)
    clear hk1
    go_wp2
    go_ret
    exact ⟨(by rw [hR.out]; first | done | rfl), HK.out⟩
  have F1 := Lib.hid (F1.out k1)
  have g1 : ¬ L1 < 0 := by omega
  by_cases k2 : t2 ≤ L1
  case neg =>
    have N2 := Lib.hid (N2.out (by omega) (by omega))
    have hR : Hid (R = -1) := Lib.hid (by rw [hz.out, if_neg (by omega)])
    clear N1 F2 N3 F3 N4 F4 hL1 hL2 hL3 hz
    go_enter Tryd.func14, Tryd.ntmps14
    go_wp2_with fail
    refine (F1.out _).mono ?_
    rintro e w1 ⟨rfl, hk1⟩
    have ha := HBa.out.keeps hk1 (fun h => h)
    clear HBa
    have HBa := Lib.hid ha
    clear ha
    have hr := HK.out.trans hk1
    clear HK
    have HK := Lib.hid hr
    clear hr
    have sz1 := hk1.size
    (try simp at sz1)
    clear hk1
    have hb := HBa.out
    have a0 := hb.cell 0
    have a1 := hb.cell 1
    have a2 := hb.cell 2
    have a3 := hb.cell 3
    have a4 := hb.cell 4
    have a5 := hb.cell 5
    have a6 := hb.cell 6
    have a7 := hb.cell 7
    have a8 := hb.cell 8
    have a9 := hb.cell 9
    have a10 := hb.cell 10
    have a11 := hb.cell 11
    have a12 := hb.cell 12
    simp at a0 a1 a2 a3 a4 a5 a6 a7 a8 a9 a10 a11 a12
    have za := hb.lt
    clear hb
    go_wp2_with fail
    refine (N2.out _ HK.out).mono ?_
    rintro e w2 ⟨rfl, hk2⟩
    clear a0 a1 a2 a3 a4 a5 a6 a7 a8 a9 a10 a11 a12 za
    have ha := HBa.out.keeps hk2 (fun h => h)
    clear HBa
    have HBa := Lib.hid ha
    clear ha
    have hr := HK.out.trans hk2
    clear HK
    have HK := Lib.hid hr
    clear hr
    have sz2 := hk2.size
    (try simp at sz2)
    clear hk2
    go_wp2
    go_ret
    exact ⟨(by rw [hR.out]; first | done | rfl), HK.out⟩
  have F2 := Lib.hid (F2.out k2)
  have g2 : ¬ L2 < 0 := by omega
  by_cases k3 : t3 ≤ L2
  case neg =>
    have N3 := Lib.hid (N3.out (by omega) (by omega))
    have hR : Hid (R = -1) := Lib.hid (by rw [hz.out, if_neg (by omega)])
    clear N1 N2 F3 N4 F4 hL1 hL2 hL3 hz
    go_enter Tryd.func14, Tryd.ntmps14
    go_wp2_with fail
    refine (F1.out _).mono ?_
    rintro e w1 ⟨rfl, hk1⟩
    have ha := HBa.out.keeps hk1 (fun h => h)
    clear HBa
    have HBa := Lib.hid ha
    clear ha
    have hr := HK.out.trans hk1
    clear HK
    have HK := Lib.hid hr
    clear hr
    have sz1 := hk1.size
    (try simp at sz1)
    clear hk1
    have hb := HBa.out
    have a0 := hb.cell 0
    have a1 := hb.cell 1
    have a2 := hb.cell 2
    have a3 := hb.cell 3
    have a4 := hb.cell 4
    have a5 := hb.cell 5
    have a6 := hb.cell 6
    have a7 := hb.cell 7
    have a8 := hb.cell 8
    have a9 := hb.cell 9
    have a10 := hb.cell 10
    have a11 := hb.cell 11
    have a12 := hb.cell 12
    simp at a0 a1 a2 a3 a4 a5 a6 a7 a8 a9 a10 a11 a12
    have za := hb.lt
    clear hb
    go_wp2_with fail
    refine (F2.out _).mono ?_
    rintro e w2 ⟨rfl, hk2⟩
    clear a0 a1 a2 a3 a4 a5 a6 a7 a8 a9 a10 a11 a12 za
    have ha := HBa.out.keeps hk2 (fun h => h)
    clear HBa
    have HBa := Lib.hid ha
    clear ha
    have hr := HK.out.trans hk2
    clear HK
    have HK := Lib.hid hr
    clear hr
    have sz2 := hk2.size
    (try simp at sz2)
    clear hk2
    have hb := HBa.out
    have a0 := hb.cell 0
    have a1 := hb.cell 1
    have a2 := hb.cell 2
    have a3 := hb.cell 3
    have a4 := hb.cell 4
    have a5 := hb.cell 5
    have a6 := hb.cell 6
    have a7 := hb.cell 7
    have a8 := hb.cell 8
    have a9 := hb.cell 9
    have a10 := hb.cell 10
    have a11 := hb.cell 11
    have a12 := hb.cell 12
    simp at a0 a1 a2 a3 a4 a5 a6 a7 a8 a9 a10 a11 a12
    have za := hb.lt
    clear hb
    go_wp2_with fail
    refine (N3.out _ HK.out).mono ?_
    rintro e w3 ⟨rfl, hk3⟩
    clear a0 a1 a2 a3 a4 a5 a6 a7 a8 a9 a10 a11 a12 za
    have ha := HBa.out.keeps hk3 (fun h => h)
    clear HBa
    have HBa := Lib.hid ha
    clear ha
    have hr := HK.out.trans hk3
    clear HK
    have HK := Lib.hid hr
    clear hr
    have sz3 := hk3.size
    (try simp at sz3)
    clear hk3
    go_wp2
    go_ret
    exact ⟨(by rw [hR.out]; first | done | rfl), HK.out⟩
  have F3 := Lib.hid (F3.out (by omega) k3)
  have g3 : ¬ L3 < 0 := by omega
  by_cases k4 : (knows.length : Int) ≤ L3
  case neg =>
    have N4 := Lib.hid (N4.out (by omega) (by omega))
    have hR : Hid (R = -1) := Lib.hid (by rw [hz.out, if_neg k4])
    clear N1 N2 N3 F4 hL1 hL2 hL3 hz
    go_enter Tryd.func14, Tryd.ntmps14
    go_wp2_with fail
    refine (F1.out _).mono ?_
    rintro e w1 ⟨rfl, hk1⟩
    have ha := HBa.out.keeps hk1 (fun h => h)
    clear HBa
    have HBa := Lib.hid ha
    clear ha
    have hr := HK.out.trans hk1
    clear HK
    have HK := Lib.hid hr
    clear hr
    have sz1 := hk1.size
    (try simp at sz1)
    clear hk1
    have hb := HBa.out
    have a0 := hb.cell 0
    have a1 := hb.cell 1
    have a2 := hb.cell 2
    have a3 := hb.cell 3
    have a4 := hb.cell 4
    have a5 := hb.cell 5
    have a6 := hb.cell 6
    have a7 := hb.cell 7
    have a8 := hb.cell 8
    have a9 := hb.cell 9
    have a10 := hb.cell 10
    have a11 := hb.cell 11
    have a12 := hb.cell 12
    simp at a0 a1 a2 a3 a4 a5 a6 a7 a8 a9 a10 a11 a12
    have za := hb.lt
    clear hb
    go_wp2_with fail
    refine (F2.out _).mono ?_
    rintro e w2 ⟨rfl, hk2⟩
    clear a0 a1 a2 a3 a4 a5 a6 a7 a8 a9 a10 a11 a12 za
    have ha := HBa.out.keeps hk2 (fun h => h)
    clear HBa
    have HBa := Lib.hid ha
    clear ha
    have hr := HK.out.trans hk2
    clear HK
    have HK := Lib.hid hr
    clear hr
    have sz2 := hk2.size
    (try simp at sz2)
    clear hk2
    have hb := HBa.out
    have a0 := hb.cell 0
    have a1 := hb.cell 1
    have a2 := hb.cell 2
    have a3 := hb.cell 3
    have a4 := hb.cell 4
    have a5 := hb.cell 5
    have a6 := hb.cell 6
    have a7 := hb.cell 7
    have a8 := hb.cell 8
    have a9 := hb.cell 9
    have a10 := hb.cell 10
    have a11 := hb.cell 11
    have a12 := hb.cell 12
    simp at a0 a1 a2 a3 a4 a5 a6 a7 a8 a9 a10 a11 a12
    have za := hb.lt
    clear hb
    go_wp2_with fail
    refine (F3.out _ HK.out).mono ?_
    rintro e w3 ⟨rfl, hk3⟩
    clear a0 a1 a2 a3 a4 a5 a6 a7 a8 a9 a10 a11 a12 za
    have ha := HBa.out.keeps hk3 (fun h => h)
    clear HBa
    have HBa := Lib.hid ha
    clear ha
    have hr := HK.out.trans hk3
    clear HK
    have HK := Lib.hid hr
    clear hr
    have sz3 := hk3.size
    (try simp at sz3)
    clear hk3
    have hb := HBa.out
    have a0 := hb.cell 0
    have a1 := hb.cell 1
    have a2 := hb.cell 2
    have a3 := hb.cell 3
    have a4 := hb.cell 4
    have a5 := hb.cell 5
    have a6 := hb.cell 6
    have a7 := hb.cell 7
    have a8 := hb.cell 8
    have a9 := hb.cell 9
    have a10 := hb.cell 10
    have a11 := hb.cell 11
    have a12 := hb.cell 12
    simp at a0 a1 a2 a3 a4 a5 a6 a7 a8 a9 a10 a11 a12
    have za := hb.lt
    clear hb
    go_wp2_with fail
    refine (N4.out _).mono ?_
    rintro e w4 ⟨rfl, rfl⟩
    have hk4 := Keeps.refl noBlk w3
    clear a0 a1 a2 a3 a4 a5 a6 a7 a8 a9 a10 a11 a12 za
    have ha := HBa.out.keeps hk4 (fun h => h)
    clear HBa
    have HBa := Lib.hid ha
    clear ha
    have hr := HK.out.trans hk4
    clear HK
    have HK := Lib.hid hr
    clear hr
    have sz4 := hk4.size
    (try simp at sz4)
    clear hk4
    go_wp2
    go_ret
    exact ⟨(by rw [hR.out]; first | done | rfl), HK.out⟩
  have F4 := Lib.hid (F4.out k4)
  have g4 : ¬ L3 - (knows.length : Int) < 0 := by omega
  have hR : Hid (R = L3 - knows.length) := Lib.hid (by rw [hz.out, if_pos k4])
  clear N1 N2 N3 N4 hL1 hL2 hL3 hz
  go_enter Tryd.func14, Tryd.ntmps14
  go_wp2_with fail
  refine (F1.out _).mono ?_
  rintro e w1 ⟨rfl, hk1⟩
  have ha := HBa.out.keeps hk1 (fun h => h)
  clear HBa
  have HBa := Lib.hid ha
  clear ha
  have hr := HK.out.trans hk1
  clear HK
  have HK := Lib.hid hr
  clear hr
  have sz1 := hk1.size
  (try simp at sz1)
  clear hk1
  have hb := HBa.out
  have a0 := hb.cell 0
  have a1 := hb.cell 1
  have a2 := hb.cell 2
  have a3 := hb.cell 3
  have a4 := hb.cell 4
  have a5 := hb.cell 5
  have a6 := hb.cell 6
  have a7 := hb.cell 7
  have a8 := hb.cell 8
  have a9 := hb.cell 9
  have a10 := hb.cell 10
  have a11 := hb.cell 11
  have a12 := hb.cell 12
  simp at a0 a1 a2 a3 a4 a5 a6 a7 a8 a9 a10 a11 a12
  have za := hb.lt
  clear hb
  go_wp2_with fail
  refine (F2.out _).mono ?_
  rintro e w2 ⟨rfl, hk2⟩
  clear a0 a1 a2 a3 a4 a5 a6 a7 a8 a9 a10 a11 a12 za
  have ha := HBa.out.keeps hk2 (fun h => h)
  clear HBa
  have HBa := Lib.hid ha
  clear ha
  have hr := HK.out.trans hk2
  clear HK
  have HK := Lib.hid hr
  clear hr
  have sz2 := hk2.size
  (try simp at sz2)
  clear hk2
  have hb := HBa.out
  have a0 := hb.cell 0
  have a1 := hb.cell 1
  have a2 := hb.cell 2
  have a3 := hb.cell 3
  have a4 := hb.cell 4
  have a5 := hb.cell 5
  have a6 := hb.cell 6
  have a7 := hb.cell 7
  have a8 := hb.cell 8
  have a9 := hb.cell 9
  have a10 := hb.cell 10
  have a11 := hb.cell 11
  have a12 := hb.cell 12
  simp at a0 a1 a2 a3 a4 a5 a6 a7 a8 a9 a10 a11 a12
  have za := hb.lt
  clear hb
  go_wp2_with fail
  refine (F3.out _ HK.out).mono ?_
  rintro e w3 ⟨rfl, hk3⟩
  clear a0 a1 a2 a3 a4 a5 a6 a7 a8 a9 a10 a11 a12 za
  have ha := HBa.out.keeps hk3 (fun h => h)
  clear HBa
  have HBa := Lib.hid ha
  clear ha
  have hr := HK.out.trans hk3
  clear HK
  have HK := Lib.hid hr
  clear hr
  have sz3 := hk3.size
  (try simp at sz3)
  clear hk3
  have hb := HBa.out
  have a0 := hb.cell 0
  have a1 := hb.cell 1
  have a2 := hb.cell 2
  have a3 := hb.cell 3
  have a4 := hb.cell 4
  have a5 := hb.cell 5
  have a6 := hb.cell 6
  have a7 := hb.cell 7
  have a8 := hb.cell 8
  have a9 := hb.cell 9
  have a10 := hb.cell 10
  have a11 := hb.cell 11
  have a12 := hb.cell 12
  simp at a0 a1 a2 a3 a4 a5 a6 a7 a8 a9 a10 a11 a12
  have za := hb.lt
  clear hb
  go_wp2_with fail
  refine (F4.out _).mono ?_
  rintro e w4 ⟨rfl, rfl⟩
  have hk4 := Keeps.refl noBlk w3
  clear a0 a1 a2 a3 a4 a5 a6 a7 a8 a9 a10 a11 a12 za
  have ha := HBa.out.keeps hk4 (fun h => h)
  clear HBa
  have HBa := Lib.hid ha
  clear ha
  have hr := HK.out.trans hk4
  clear HK
  have HK := Lib.hid hr
  clear hr
  have sz4 := hk4.size
  (try simp at sz4)
  clear hk4
  go_wp2
  go_ret
  exact ⟨(by rw [hR.out]; first | done | rfl), HK.out⟩
end Go.Proofs.YtbgpclicflafaaaDoor
