/- FnPacketForm: a packet is within its bounds, whatever is drawn. -/
import Derived.Test.YtjbllfnfnkghgaaDoorPkF
import Derived.Test.YtjbllfnfnkghgaaDoorPkS
import Derived.Test.YtjbllfnfnkghgaaDoorPkDraw2
import Derived.Test.YtjbllfnfnkghgaaDoorPkFB
set_option linter.unusedVariables false
set_option linter.unusedSimpArgs false
namespace Go.Proofs.YtjbllfnfnkghgaaDoor
open Go.RowKit Go.ChangeShapes Go.WideShapes Go.ChangeAt


set_option maxRecDepth 100000 in
set_option maxHeartbeats 4000000 in
theorem walk_pkform (w : World) (ht : Tabs w) (a0 : Option Addr) (len0 cap0 : Nat) (z0 : List Int) (h : Bytes w a0 len0 z0) (e0 : len0 ≤ cap0) (f0 : cap0 ≤ maxLen) :
    Calls Tryd.prog 6 #[.slice a0 len0 cap0] w fun e w' => e = .returned (.bool true) ∧ Below w.heap.size w w' := by
  have H := Lib.hid h
  have HT := Lib.hid ht
  clear h ht
  by_cases hs : (len0 : Int) ≤ 1048576
  · go_enter Tryd.func6, Tryd.ntmps6
    go_wp2_with fail
    refine (drawPkOk_any a0 len0 _ z0 _ H.out e0 f0).mono ?_
    rintro e w1 ⟨s, k, f, t, m, u, v, rfl, hk1⟩
    obtain ⟨o, ho⟩ : ∃ o, pkB s k f t m u v = o := ⟨_, rfl⟩
    have HSP := Lib.hid (fun W => (show Calls Tryd.prog 20 #[.agg #[.int .i64 s, .int .i64 k, .int .i64 f, .int .i64 t, .int .i64 m, .int .i64 u, .int .i64 v]] W (fun e w' => e = .returned (.bool o) ∧ Keeps noBlk W w') from by rw [← ho]; exact specPk_any s k f t m u v W))
    have HIM := Lib.hid (fun W hW => (show Calls Tryd.prog 16 #[.agg #[.int .i64 s, .int .i64 k, .int .i64 f, .int .i64 t, .int .i64 m, .int .i64 u, .int .i64 v]] W (fun e w' => e = .returned (.bool o) ∧ Keeps noBlk W w') from by rw [← ho]; exact implPk_any s k f t m u v W hW))
    have HO := Lib.hid ho
    clear ho
    have YK := Lib.hid hk1
    have sz := hk1.size
    clear hk1
    go_wp2_with fail
    refine (HIM.out _ (HT.out.keeps (YK.out.alloc _))).mono ?_
    rintro e w2 ⟨rfl, hk⟩
    have hp := (Box.new w1 _ rfl 24 #[.int .i64 s, .int .i64 k, .int .i64 f, .int .i64 t, .int .i64 m, .int .i64 u, .int .i64 v]).keeps hk (fun h => h)
    have hKK := (YK.out.alloc _).trans hk
    clear YK
    have Yp := Lib.hid hp
    have zp := hp.lt
    have YK := Lib.hid hKK
    have sz2 := hKK.size
    clear hk hKK hp
    have pc0 := Yp.out.cell 0
    have pc1 := Yp.out.cell 1
    have pc2 := Yp.out.cell 2
    have pc3 := Yp.out.cell 3
    have pc4 := Yp.out.cell 4
    have pc5 := Yp.out.cell 5
    have pc6 := Yp.out.cell 6
    simp at pc0 pc1 pc2 pc3 pc4 pc5 pc6
    go_wp2_with fail
    refine (HSP.out _).mono ?_
    rintro e w3 ⟨rfl, hk⟩
    clear pc0 pc1 pc2 pc3 pc4 pc5 pc6
    have hp := ((by repeat (first | with_reducible exact Yp.out | with_reducible refine Box.far ?_ (by dsimp only; omega) _ | with_reducible refine Box.alloc ?_ _)) : Box _ (w1.heap.size) 24 #[.int .i64 s, .int .i64 k, .int .i64 f, .int .i64 t, .int .i64 m, .int .i64 u, .int .i64 v]).keeps hk (fun h => h)
    have hKK := ((by repeat (first | with_reducible exact YK.out | with_reducible refine Keeps.setCell ?_ (.inl (by dsimp only; omega)) _ | with_reducible refine Keeps.alloc ?_ _)) : Keeps noBlk w _).trans hk
    clear YK Yp
    have Yp := Lib.hid hp
    have zp := hp.lt
    have YK := Lib.hid hKK
    have sz := hKK.size
    clear hk hKK hp
    have pc0 := Yp.out.cell 0
    have pc1 := Yp.out.cell 1
    have pc2 := Yp.out.cell 2
    have pc3 := Yp.out.cell 3
    have pc4 := Yp.out.cell 4
    have pc5 := Yp.out.cell 5
    have pc6 := Yp.out.cell 6
    simp at pc0 pc1 pc2 pc3 pc4 pc5 pc6
    cases o
    · skip
      go_wp2_with fail
      refine (HSP.out _).mono ?_
      rintro e w4 ⟨rfl, hk⟩
      clear pc0 pc1 pc2 pc3 pc4 pc5 pc6
      have hp := ((by repeat (first | with_reducible exact Yp.out | with_reducible refine Box.far ?_ (by dsimp only; omega) _ | with_reducible refine Box.alloc ?_ _)) : Box _ (w1.heap.size) 24 #[.int .i64 s, .int .i64 k, .int .i64 f, .int .i64 t, .int .i64 m, .int .i64 u, .int .i64 v]).keeps hk (fun h => h)
      have hKK := ((by repeat (first | with_reducible exact YK.out | with_reducible refine Keeps.setCell ?_ (.inl (by dsimp only; omega)) _ | with_reducible refine Keeps.alloc ?_ _)) : Keeps noBlk w _).trans hk
      clear YK Yp
      have Yp := Lib.hid hp
      have zp := hp.lt
      have YK := Lib.hid hKK
      have sz := hKK.size
      clear hk hKK hp
      have pc0 := Yp.out.cell 0
      have pc1 := Yp.out.cell 1
      have pc2 := Yp.out.cell 2
      have pc3 := Yp.out.cell 3
      have pc4 := Yp.out.cell 4
      have pc5 := Yp.out.cell 5
      have pc6 := Yp.out.cell 6
      simp at pc0 pc1 pc2 pc3 pc4 pc5 pc6
      go_wp2
      go_ret
      exact ⟨rfl, YK.out.below⟩
    · obtain ⟨⟨p0, p0'⟩, ⟨p1, p1'⟩, ⟨p2, p2'⟩, ⟨p3, p3'⟩, ⟨p4, p4'⟩, ⟨p5, p5'⟩, ⟨p6, p6'⟩⟩ := pkB_parts HO.out
      have Ea : pkB s k f 0 m u v = true := pkB_yes (in2_yes (by omega) (by omega)) (in2_yes (by omega) (by omega)) (in2_yes (by omega) (by omega)) (in2_yes (by omega) (by omega)) (in2_yes (by omega) (by omega)) (in2_yes (by omega) (by omega)) (in2_yes (by omega) (by omega))
      have Ha := Lib.hid (fun W hW => (show Calls Tryd.prog 16 #[.agg #[.int .i64 s, .int .i64 k, .int .i64 f, .int .i64 0, .int .i64 m, .int .i64 u, .int .i64 v]] W (fun e w' => e = .returned (.bool true) ∧ Keeps noBlk W w') from by rw [← Ea]; exact implPk_any s k f 0 m u v W hW))
      have Eb : pkB s k f t 0 u v = false := pkB_no4 (in2_lo (by omega))
      have Hb := Lib.hid (fun W hW => (show Calls Tryd.prog 16 #[.agg #[.int .i64 s, .int .i64 k, .int .i64 f, .int .i64 t, .int .i64 0, .int .i64 u, .int .i64 v]] W (fun e w' => e = .returned (.bool false) ∧ Keeps noBlk W w') from by rw [← Eb]; exact implPk_any s k f t 0 u v W hW))
      have Ec : pkB s k 0 t m u v = false := pkB_no2 (in2_lo (by omega))
      have Hc := Lib.hid (fun W hW => (show Calls Tryd.prog 16 #[.agg #[.int .i64 s, .int .i64 k, .int .i64 0, .int .i64 t, .int .i64 m, .int .i64 u, .int .i64 v]] W (fun e w' => e = .returned (.bool false) ∧ Keeps noBlk W w') from by rw [← Ec]; exact implPk_any s k 0 t m u v W hW))
      have Ed : pkB s k f t m 0 v = false := pkB_no5 (in2_lo (by omega))
      have Hd := Lib.hid (fun W hW => (show Calls Tryd.prog 16 #[.agg #[.int .i64 s, .int .i64 k, .int .i64 f, .int .i64 t, .int .i64 m, .int .i64 0, .int .i64 v]] W (fun e w' => e = .returned (.bool false) ∧ Keeps noBlk W w') from by rw [← Ed]; exact implPk_any s k f t m 0 v W hW))
      have Ee : pkB s k f t m u 0 = false := pkB_no6 (in2_lo (by omega))
      have He := Lib.hid (fun W hW => (show Calls Tryd.prog 16 #[.agg #[.int .i64 s, .int .i64 k, .int .i64 f, .int .i64 t, .int .i64 m, .int .i64 u, .int .i64 0]] W (fun e w' => e = .returned (.bool false) ∧ Keeps noBlk W w') from by rw [← Ee]; exact implPk_any s k f t m u 0 W hW))
      clear Ea Eb Ec Ed Ee
      have l0 : w1.heap.size < w3.heap.size := by omega
      have n0 : ¬ w1.heap.size = w3.heap.size := by omega
      have m0 : ¬ w3.heap.size = w1.heap.size := by omega
      have l1 : w1.heap.size < w3.heap.size + 1 := by omega
      have n1 : ¬ w1.heap.size = w3.heap.size + 1 := by omega
      have m1 : ¬ w3.heap.size + 1 = w1.heap.size := by omega
      have l2 : w1.heap.size < w3.heap.size + 2 := by omega
      have n2 : ¬ w1.heap.size = w3.heap.size + 2 := by omega
      have m2 : ¬ w3.heap.size + 2 = w1.heap.size := by omega
      have l3 : w1.heap.size < w3.heap.size + 3 := by omega
      have n3 : ¬ w1.heap.size = w3.heap.size + 3 := by omega
      have m3 : ¬ w3.heap.size + 3 = w1.heap.size := by omega
      have l4 : w1.heap.size < w3.heap.size + 4 := by omega
      have n4 : ¬ w1.heap.size = w3.heap.size + 4 := by omega
      have m4 : ¬ w3.heap.size + 4 = w1.heap.size := by omega
      have l5 : w1.heap.size < w3.heap.size + 5 := by omega
      have n5 : ¬ w1.heap.size = w3.heap.size + 5 := by omega
      have m5 : ¬ w3.heap.size + 5 = w1.heap.size := by omega
      go_wp2_with fail
      refine (Ha.out _ (HT.out.keeps (by repeat (first | with_reducible exact YK.out | with_reducible refine Keeps.setCell ?_ (.inl (by dsimp only; omega)) _ | with_reducible refine Keeps.alloc ?_ _)))).mono ?_
      rintro e w4 ⟨rfl, hk⟩
      clear pc0 pc1 pc2 pc3 pc4 pc5 pc6
      have hp := ((by repeat (first | with_reducible exact Yp.out | with_reducible refine Box.far ?_ (by dsimp only; omega) _ | with_reducible refine Box.alloc ?_ _)) : Box _ (w1.heap.size) 24 #[.int .i64 s, .int .i64 k, .int .i64 f, .int .i64 t, .int .i64 m, .int .i64 u, .int .i64 v]).keeps hk (fun h => h)
      have ha := ((by repeat (first | with_reducible exact Ya.out | with_reducible exact Box.new _ _ (by simp) _ _ | with_reducible refine Box.far ?_ (by dsimp only; omega) _ | with_reducible refine Box.alloc ?_ _)) : Box _ (w3.heap.size) 24 #[.int .i64 s, .int .i64 k, .int .i64 f, .int .i64 0, .int .i64 m, .int .i64 u, .int .i64 v]).keeps hk (fun h => h)
      have hb := ((by repeat (first | with_reducible exact Yb.out | with_reducible exact Box.new _ _ (by simp) _ _ | with_reducible refine Box.far ?_ (by dsimp only; omega) _ | with_reducible refine Box.alloc ?_ _)) : Box _ (w3.heap.size + 1) 24 #[.int .i64 s, .int .i64 k, .int .i64 f, .int .i64 t, .int .i64 0, .int .i64 u, .int .i64 v]).keeps hk (fun h => h)
      have hc := ((by repeat (first | with_reducible exact Yc.out | with_reducible exact Box.new _ _ (by simp) _ _ | with_reducible refine Box.far ?_ (by dsimp only; omega) _ | with_reducible refine Box.alloc ?_ _)) : Box _ (w3.heap.size + 2) 24 #[.int .i64 s, .int .i64 k, .int .i64 0, .int .i64 t, .int .i64 m, .int .i64 u, .int .i64 v]).keeps hk (fun h => h)
      have hd := ((by repeat (first | with_reducible exact Yd.out | with_reducible exact Box.new _ _ (by simp) _ _ | with_reducible refine Box.far ?_ (by dsimp only; omega) _ | with_reducible refine Box.alloc ?_ _)) : Box _ (w3.heap.size + 3) 24 #[.int .i64 s, .int .i64 k, .int .i64 f, .int .i64 t, .int .i64 m, .int .i64 0, .int .i64 v]).keeps hk (fun h => h)
      have he := ((by repeat (first | with_reducible exact Ye.out | with_reducible exact Box.new _ _ (by simp) _ _ | with_reducible refine Box.far ?_ (by dsimp only; omega) _ | with_reducible refine Box.alloc ?_ _)) : Box _ (w3.heap.size + 4) 24 #[.int .i64 s, .int .i64 k, .int .i64 f, .int .i64 t, .int .i64 m, .int .i64 u, .int .i64 0]).keeps hk (fun h => h)
      have hKK := ((by repeat (first | with_reducible exact YK.out | with_reducible refine Keeps.setCell ?_ (.inl (by dsimp only; omega)) _ | with_reducible refine Keeps.alloc ?_ _)) : Keeps noBlk w _).trans hk
      clear YK Yp
      have Yp := Lib.hid hp
      have zp := hp.lt
      have Ya := Lib.hid ha
      have za := ha.lt
      have Yb := Lib.hid hb
      have zb := hb.lt
      have Yc := Lib.hid hc
      have zc := hc.lt
      have Yd := Lib.hid hd
      have zd := hd.lt
      have Ye := Lib.hid he
      have ze := he.lt
      have YK := Lib.hid hKK
      have sz := hKK.size
      clear hk hKK hp ha hb hc hd he
      have pc0 := Yp.out.cell 0
      have pc1 := Yp.out.cell 1
      have pc2 := Yp.out.cell 2
      have pc3 := Yp.out.cell 3
      have pc4 := Yp.out.cell 4
      have pc5 := Yp.out.cell 5
      have pc6 := Yp.out.cell 6
      simp at pc0 pc1 pc2 pc3 pc4 pc5 pc6
      have ac0 := Ya.out.cell 0
      have ac1 := Ya.out.cell 1
      have ac2 := Ya.out.cell 2
      have ac3 := Ya.out.cell 3
      have ac4 := Ya.out.cell 4
      have ac5 := Ya.out.cell 5
      have ac6 := Ya.out.cell 6
      simp at ac0 ac1 ac2 ac3 ac4 ac5 ac6
      have bc0 := Yb.out.cell 0
      have bc1 := Yb.out.cell 1
      have bc2 := Yb.out.cell 2
      have bc3 := Yb.out.cell 3
      have bc4 := Yb.out.cell 4
      have bc5 := Yb.out.cell 5
      have bc6 := Yb.out.cell 6
      simp at bc0 bc1 bc2 bc3 bc4 bc5 bc6
      have cc0 := Yc.out.cell 0
      have cc1 := Yc.out.cell 1
      have cc2 := Yc.out.cell 2
      have cc3 := Yc.out.cell 3
      have cc4 := Yc.out.cell 4
      have cc5 := Yc.out.cell 5
      have cc6 := Yc.out.cell 6
      simp at cc0 cc1 cc2 cc3 cc4 cc5 cc6
      have dc0 := Yd.out.cell 0
      have dc1 := Yd.out.cell 1
      have dc2 := Yd.out.cell 2
      have dc3 := Yd.out.cell 3
      have dc4 := Yd.out.cell 4
      have dc5 := Yd.out.cell 5
      have dc6 := Yd.out.cell 6
      simp at dc0 dc1 dc2 dc3 dc4 dc5 dc6
      have ec0 := Ye.out.cell 0
      have ec1 := Ye.out.cell 1
      have ec2 := Ye.out.cell 2
      have ec3 := Ye.out.cell 3
      have ec4 := Ye.out.cell 4
      have ec5 := Ye.out.cell 5
      have ec6 := Ye.out.cell 6
      simp at ec0 ec1 ec2 ec3 ec4 ec5 ec6
      go_wp2_with fail
      refine (Hb.out _ (HT.out.keeps YK.out)).mono ?_
      rintro e w5 ⟨rfl, hk⟩
      clear pc0 pc1 pc2 pc3 pc4 pc5 pc6
      clear ac0 ac1 ac2 ac3 ac4 ac5 ac6
      clear bc0 bc1 bc2 bc3 bc4 bc5 bc6
      clear cc0 cc1 cc2 cc3 cc4 cc5 cc6
      clear dc0 dc1 dc2 dc3 dc4 dc5 dc6
      clear ec0 ec1 ec2 ec3 ec4 ec5 ec6
      have hp := ((by repeat (first | with_reducible exact Yp.out | with_reducible refine Box.far ?_ (by dsimp only; omega) _ | with_reducible refine Box.alloc ?_ _)) : Box _ (w1.heap.size) 24 #[.int .i64 s, .int .i64 k, .int .i64 f, .int .i64 t, .int .i64 m, .int .i64 u, .int .i64 v]).keeps hk (fun h => h)
      have ha := ((by repeat (first | with_reducible exact Ya.out | with_reducible exact Box.new _ _ (by simp) _ _ | with_reducible refine Box.far ?_ (by dsimp only; omega) _ | with_reducible refine Box.alloc ?_ _)) : Box _ (w3.heap.size) 24 #[.int .i64 s, .int .i64 k, .int .i64 f, .int .i64 0, .int .i64 m, .int .i64 u, .int .i64 v]).keeps hk (fun h => h)
      have hb := ((by repeat (first | with_reducible exact Yb.out | with_reducible exact Box.new _ _ (by simp) _ _ | with_reducible refine Box.far ?_ (by dsimp only; omega) _ | with_reducible refine Box.alloc ?_ _)) : Box _ (w3.heap.size + 1) 24 #[.int .i64 s, .int .i64 k, .int .i64 f, .int .i64 t, .int .i64 0, .int .i64 u, .int .i64 v]).keeps hk (fun h => h)
      have hc := ((by repeat (first | with_reducible exact Yc.out | with_reducible exact Box.new _ _ (by simp) _ _ | with_reducible refine Box.far ?_ (by dsimp only; omega) _ | with_reducible refine Box.alloc ?_ _)) : Box _ (w3.heap.size + 2) 24 #[.int .i64 s, .int .i64 k, .int .i64 0, .int .i64 t, .int .i64 m, .int .i64 u, .int .i64 v]).keeps hk (fun h => h)
      have hd := ((by repeat (first | with_reducible exact Yd.out | with_reducible exact Box.new _ _ (by simp) _ _ | with_reducible refine Box.far ?_ (by dsimp only; omega) _ | with_reducible refine Box.alloc ?_ _)) : Box _ (w3.heap.size + 3) 24 #[.int .i64 s, .int .i64 k, .int .i64 f, .int .i64 t, .int .i64 m, .int .i64 0, .int .i64 v]).keeps hk (fun h => h)
      have he := ((by repeat (first | with_reducible exact Ye.out | with_reducible exact Box.new _ _ (by simp) _ _ | with_reducible refine Box.far ?_ (by dsimp only; omega) _ | with_reducible refine Box.alloc ?_ _)) : Box _ (w3.heap.size + 4) 24 #[.int .i64 s, .int .i64 k, .int .i64 f, .int .i64 t, .int .i64 m, .int .i64 u, .int .i64 0]).keeps hk (fun h => h)
      have hKK := ((by repeat (first | with_reducible exact YK.out | with_reducible refine Keeps.setCell ?_ (.inl (by dsimp only; omega)) _ | with_reducible refine Keeps.alloc ?_ _)) : Keeps noBlk w _).trans hk
      clear YK Yp Ya Yb Yc Yd Ye
      have Yp := Lib.hid hp
      have zp := hp.lt
      have Ya := Lib.hid ha
      have za := ha.lt
      have Yb := Lib.hid hb
      have zb := hb.lt
      have Yc := Lib.hid hc
      have zc := hc.lt
      have Yd := Lib.hid hd
      have zd := hd.lt
      have Ye := Lib.hid he
      have ze := he.lt
      have YK := Lib.hid hKK
      have sz := hKK.size
      clear hk hKK hp ha hb hc hd he
      have pc0 := Yp.out.cell 0
      have pc1 := Yp.out.cell 1
      have pc2 := Yp.out.cell 2
      have pc3 := Yp.out.cell 3
      have pc4 := Yp.out.cell 4
      have pc5 := Yp.out.cell 5
      have pc6 := Yp.out.cell 6
      simp at pc0 pc1 pc2 pc3 pc4 pc5 pc6
      have ac0 := Ya.out.cell 0
      have ac1 := Ya.out.cell 1
      have ac2 := Ya.out.cell 2
      have ac3 := Ya.out.cell 3
      have ac4 := Ya.out.cell 4
      have ac5 := Ya.out.cell 5
      have ac6 := Ya.out.cell 6
      simp at ac0 ac1 ac2 ac3 ac4 ac5 ac6
      have bc0 := Yb.out.cell 0
      have bc1 := Yb.out.cell 1
      have bc2 := Yb.out.cell 2
      have bc3 := Yb.out.cell 3
      have bc4 := Yb.out.cell 4
      have bc5 := Yb.out.cell 5
      have bc6 := Yb.out.cell 6
      simp at bc0 bc1 bc2 bc3 bc4 bc5 bc6
      have cc0 := Yc.out.cell 0
      have cc1 := Yc.out.cell 1
      have cc2 := Yc.out.cell 2
      have cc3 := Yc.out.cell 3
      have cc4 := Yc.out.cell 4
      have cc5 := Yc.out.cell 5
      have cc6 := Yc.out.cell 6
      simp at cc0 cc1 cc2 cc3 cc4 cc5 cc6
      have dc0 := Yd.out.cell 0
      have dc1 := Yd.out.cell 1
      have dc2 := Yd.out.cell 2
      have dc3 := Yd.out.cell 3
      have dc4 := Yd.out.cell 4
      have dc5 := Yd.out.cell 5
      have dc6 := Yd.out.cell 6
      simp at dc0 dc1 dc2 dc3 dc4 dc5 dc6
      have ec0 := Ye.out.cell 0
      have ec1 := Ye.out.cell 1
      have ec2 := Ye.out.cell 2
      have ec3 := Ye.out.cell 3
      have ec4 := Ye.out.cell 4
      have ec5 := Ye.out.cell 5
      have ec6 := Ye.out.cell 6
      simp at ec0 ec1 ec2 ec3 ec4 ec5 ec6
      go_wp2_with fail
      refine (Hc.out _ (HT.out.keeps YK.out)).mono ?_
      rintro e w6 ⟨rfl, hk⟩
      clear pc0 pc1 pc2 pc3 pc4 pc5 pc6
      clear ac0 ac1 ac2 ac3 ac4 ac5 ac6
      clear bc0 bc1 bc2 bc3 bc4 bc5 bc6
      clear cc0 cc1 cc2 cc3 cc4 cc5 cc6
      clear dc0 dc1 dc2 dc3 dc4 dc5 dc6
      clear ec0 ec1 ec2 ec3 ec4 ec5 ec6
      have hp := ((by repeat (first | with_reducible exact Yp.out | with_reducible refine Box.far ?_ (by dsimp only; omega) _ | with_reducible refine Box.alloc ?_ _)) : Box _ (w1.heap.size) 24 #[.int .i64 s, .int .i64 k, .int .i64 f, .int .i64 t, .int .i64 m, .int .i64 u, .int .i64 v]).keeps hk (fun h => h)
      have ha := ((by repeat (first | with_reducible exact Ya.out | with_reducible exact Box.new _ _ (by simp) _ _ | with_reducible refine Box.far ?_ (by dsimp only; omega) _ | with_reducible refine Box.alloc ?_ _)) : Box _ (w3.heap.size) 24 #[.int .i64 s, .int .i64 k, .int .i64 f, .int .i64 0, .int .i64 m, .int .i64 u, .int .i64 v]).keeps hk (fun h => h)
      have hb := ((by repeat (first | with_reducible exact Yb.out | with_reducible exact Box.new _ _ (by simp) _ _ | with_reducible refine Box.far ?_ (by dsimp only; omega) _ | with_reducible refine Box.alloc ?_ _)) : Box _ (w3.heap.size + 1) 24 #[.int .i64 s, .int .i64 k, .int .i64 f, .int .i64 t, .int .i64 0, .int .i64 u, .int .i64 v]).keeps hk (fun h => h)
      have hc := ((by repeat (first | with_reducible exact Yc.out | with_reducible exact Box.new _ _ (by simp) _ _ | with_reducible refine Box.far ?_ (by dsimp only; omega) _ | with_reducible refine Box.alloc ?_ _)) : Box _ (w3.heap.size + 2) 24 #[.int .i64 s, .int .i64 k, .int .i64 0, .int .i64 t, .int .i64 m, .int .i64 u, .int .i64 v]).keeps hk (fun h => h)
      have hd := ((by repeat (first | with_reducible exact Yd.out | with_reducible exact Box.new _ _ (by simp) _ _ | with_reducible refine Box.far ?_ (by dsimp only; omega) _ | with_reducible refine Box.alloc ?_ _)) : Box _ (w3.heap.size + 3) 24 #[.int .i64 s, .int .i64 k, .int .i64 f, .int .i64 t, .int .i64 m, .int .i64 0, .int .i64 v]).keeps hk (fun h => h)
      have he := ((by repeat (first | with_reducible exact Ye.out | with_reducible exact Box.new _ _ (by simp) _ _ | with_reducible refine Box.far ?_ (by dsimp only; omega) _ | with_reducible refine Box.alloc ?_ _)) : Box _ (w3.heap.size + 4) 24 #[.int .i64 s, .int .i64 k, .int .i64 f, .int .i64 t, .int .i64 m, .int .i64 u, .int .i64 0]).keeps hk (fun h => h)
      have hKK := ((by repeat (first | with_reducible exact YK.out | with_reducible refine Keeps.setCell ?_ (.inl (by dsimp only; omega)) _ | with_reducible refine Keeps.alloc ?_ _)) : Keeps noBlk w _).trans hk
      clear YK Yp Ya Yb Yc Yd Ye
      have Yp := Lib.hid hp
      have zp := hp.lt
      have Ya := Lib.hid ha
      have za := ha.lt
      have Yb := Lib.hid hb
      have zb := hb.lt
      have Yc := Lib.hid hc
      have zc := hc.lt
      have Yd := Lib.hid hd
      have zd := hd.lt
      have Ye := Lib.hid he
      have ze := he.lt
      have YK := Lib.hid hKK
      have sz := hKK.size
      clear hk hKK hp ha hb hc hd he
      have pc0 := Yp.out.cell 0
      have pc1 := Yp.out.cell 1
      have pc2 := Yp.out.cell 2
      have pc3 := Yp.out.cell 3
      have pc4 := Yp.out.cell 4
      have pc5 := Yp.out.cell 5
      have pc6 := Yp.out.cell 6
      simp at pc0 pc1 pc2 pc3 pc4 pc5 pc6
      have ac0 := Ya.out.cell 0
      have ac1 := Ya.out.cell 1
      have ac2 := Ya.out.cell 2
      have ac3 := Ya.out.cell 3
      have ac4 := Ya.out.cell 4
      have ac5 := Ya.out.cell 5
      have ac6 := Ya.out.cell 6
      simp at ac0 ac1 ac2 ac3 ac4 ac5 ac6
      have bc0 := Yb.out.cell 0
      have bc1 := Yb.out.cell 1
      have bc2 := Yb.out.cell 2
      have bc3 := Yb.out.cell 3
      have bc4 := Yb.out.cell 4
      have bc5 := Yb.out.cell 5
      have bc6 := Yb.out.cell 6
      simp at bc0 bc1 bc2 bc3 bc4 bc5 bc6
      have cc0 := Yc.out.cell 0
      have cc1 := Yc.out.cell 1
      have cc2 := Yc.out.cell 2
      have cc3 := Yc.out.cell 3
      have cc4 := Yc.out.cell 4
      have cc5 := Yc.out.cell 5
      have cc6 := Yc.out.cell 6
      simp at cc0 cc1 cc2 cc3 cc4 cc5 cc6
      have dc0 := Yd.out.cell 0
      have dc1 := Yd.out.cell 1
      have dc2 := Yd.out.cell 2
      have dc3 := Yd.out.cell 3
      have dc4 := Yd.out.cell 4
      have dc5 := Yd.out.cell 5
      have dc6 := Yd.out.cell 6
      simp at dc0 dc1 dc2 dc3 dc4 dc5 dc6
      have ec0 := Ye.out.cell 0
      have ec1 := Ye.out.cell 1
      have ec2 := Ye.out.cell 2
      have ec3 := Ye.out.cell 3
      have ec4 := Ye.out.cell 4
      have ec5 := Ye.out.cell 5
      have ec6 := Ye.out.cell 6
      simp at ec0 ec1 ec2 ec3 ec4 ec5 ec6
      go_wp2_with fail
      refine (Hd.out _ (HT.out.keeps YK.out)).mono ?_
      rintro e w7 ⟨rfl, hk⟩
      clear pc0 pc1 pc2 pc3 pc4 pc5 pc6
      clear ac0 ac1 ac2 ac3 ac4 ac5 ac6
      clear bc0 bc1 bc2 bc3 bc4 bc5 bc6
      clear cc0 cc1 cc2 cc3 cc4 cc5 cc6
      clear dc0 dc1 dc2 dc3 dc4 dc5 dc6
      clear ec0 ec1 ec2 ec3 ec4 ec5 ec6
      have hp := ((by repeat (first | with_reducible exact Yp.out | with_reducible refine Box.far ?_ (by dsimp only; omega) _ | with_reducible refine Box.alloc ?_ _)) : Box _ (w1.heap.size) 24 #[.int .i64 s, .int .i64 k, .int .i64 f, .int .i64 t, .int .i64 m, .int .i64 u, .int .i64 v]).keeps hk (fun h => h)
      have ha := ((by repeat (first | with_reducible exact Ya.out | with_reducible exact Box.new _ _ (by simp) _ _ | with_reducible refine Box.far ?_ (by dsimp only; omega) _ | with_reducible refine Box.alloc ?_ _)) : Box _ (w3.heap.size) 24 #[.int .i64 s, .int .i64 k, .int .i64 f, .int .i64 0, .int .i64 m, .int .i64 u, .int .i64 v]).keeps hk (fun h => h)
      have hb := ((by repeat (first | with_reducible exact Yb.out | with_reducible exact Box.new _ _ (by simp) _ _ | with_reducible refine Box.far ?_ (by dsimp only; omega) _ | with_reducible refine Box.alloc ?_ _)) : Box _ (w3.heap.size + 1) 24 #[.int .i64 s, .int .i64 k, .int .i64 f, .int .i64 t, .int .i64 0, .int .i64 u, .int .i64 v]).keeps hk (fun h => h)
      have hc := ((by repeat (first | with_reducible exact Yc.out | with_reducible exact Box.new _ _ (by simp) _ _ | with_reducible refine Box.far ?_ (by dsimp only; omega) _ | with_reducible refine Box.alloc ?_ _)) : Box _ (w3.heap.size + 2) 24 #[.int .i64 s, .int .i64 k, .int .i64 0, .int .i64 t, .int .i64 m, .int .i64 u, .int .i64 v]).keeps hk (fun h => h)
      have hd := ((by repeat (first | with_reducible exact Yd.out | with_reducible exact Box.new _ _ (by simp) _ _ | with_reducible refine Box.far ?_ (by dsimp only; omega) _ | with_reducible refine Box.alloc ?_ _)) : Box _ (w3.heap.size + 3) 24 #[.int .i64 s, .int .i64 k, .int .i64 f, .int .i64 t, .int .i64 m, .int .i64 0, .int .i64 v]).keeps hk (fun h => h)
      have he := ((by repeat (first | with_reducible exact Ye.out | with_reducible exact Box.new _ _ (by simp) _ _ | with_reducible refine Box.far ?_ (by dsimp only; omega) _ | with_reducible refine Box.alloc ?_ _)) : Box _ (w3.heap.size + 4) 24 #[.int .i64 s, .int .i64 k, .int .i64 f, .int .i64 t, .int .i64 m, .int .i64 u, .int .i64 0]).keeps hk (fun h => h)
      have hKK := ((by repeat (first | with_reducible exact YK.out | with_reducible refine Keeps.setCell ?_ (.inl (by dsimp only; omega)) _ | with_reducible refine Keeps.alloc ?_ _)) : Keeps noBlk w _).trans hk
      clear YK Yp Ya Yb Yc Yd Ye
      have Yp := Lib.hid hp
      have zp := hp.lt
      have Ya := Lib.hid ha
      have za := ha.lt
      have Yb := Lib.hid hb
      have zb := hb.lt
      have Yc := Lib.hid hc
      have zc := hc.lt
      have Yd := Lib.hid hd
      have zd := hd.lt
      have Ye := Lib.hid he
      have ze := he.lt
      have YK := Lib.hid hKK
      have sz := hKK.size
      clear hk hKK hp ha hb hc hd he
      have pc0 := Yp.out.cell 0
      have pc1 := Yp.out.cell 1
      have pc2 := Yp.out.cell 2
      have pc3 := Yp.out.cell 3
      have pc4 := Yp.out.cell 4
      have pc5 := Yp.out.cell 5
      have pc6 := Yp.out.cell 6
      simp at pc0 pc1 pc2 pc3 pc4 pc5 pc6
      have ac0 := Ya.out.cell 0
      have ac1 := Ya.out.cell 1
      have ac2 := Ya.out.cell 2
      have ac3 := Ya.out.cell 3
      have ac4 := Ya.out.cell 4
      have ac5 := Ya.out.cell 5
      have ac6 := Ya.out.cell 6
      simp at ac0 ac1 ac2 ac3 ac4 ac5 ac6
      have bc0 := Yb.out.cell 0
      have bc1 := Yb.out.cell 1
      have bc2 := Yb.out.cell 2
      have bc3 := Yb.out.cell 3
      have bc4 := Yb.out.cell 4
      have bc5 := Yb.out.cell 5
      have bc6 := Yb.out.cell 6
      simp at bc0 bc1 bc2 bc3 bc4 bc5 bc6
      have cc0 := Yc.out.cell 0
      have cc1 := Yc.out.cell 1
      have cc2 := Yc.out.cell 2
      have cc3 := Yc.out.cell 3
      have cc4 := Yc.out.cell 4
      have cc5 := Yc.out.cell 5
      have cc6 := Yc.out.cell 6
      simp at cc0 cc1 cc2 cc3 cc4 cc5 cc6
      have dc0 := Yd.out.cell 0
      have dc1 := Yd.out.cell 1
      have dc2 := Yd.out.cell 2
      have dc3 := Yd.out.cell 3
      have dc4 := Yd.out.cell 4
      have dc5 := Yd.out.cell 5
      have dc6 := Yd.out.cell 6
      simp at dc0 dc1 dc2 dc3 dc4 dc5 dc6
      have ec0 := Ye.out.cell 0
      have ec1 := Ye.out.cell 1
      have ec2 := Ye.out.cell 2
      have ec3 := Ye.out.cell 3
      have ec4 := Ye.out.cell 4
      have ec5 := Ye.out.cell 5
      have ec6 := Ye.out.cell 6
      simp at ec0 ec1 ec2 ec3 ec4 ec5 ec6
      go_wp2_with fail
      refine (He.out _ (HT.out.keeps YK.out)).mono ?_
      rintro e w8 ⟨rfl, hk⟩
      clear pc0 pc1 pc2 pc3 pc4 pc5 pc6
      clear ac0 ac1 ac2 ac3 ac4 ac5 ac6
      clear bc0 bc1 bc2 bc3 bc4 bc5 bc6
      clear cc0 cc1 cc2 cc3 cc4 cc5 cc6
      clear dc0 dc1 dc2 dc3 dc4 dc5 dc6
      clear ec0 ec1 ec2 ec3 ec4 ec5 ec6
      have hp := ((by repeat (first | with_reducible exact Yp.out | with_reducible refine Box.far ?_ (by dsimp only; omega) _ | with_reducible refine Box.alloc ?_ _)) : Box _ (w1.heap.size) 24 #[.int .i64 s, .int .i64 k, .int .i64 f, .int .i64 t, .int .i64 m, .int .i64 u, .int .i64 v]).keeps hk (fun h => h)
      have ha := ((by repeat (first | with_reducible exact Ya.out | with_reducible exact Box.new _ _ (by simp) _ _ | with_reducible refine Box.far ?_ (by dsimp only; omega) _ | with_reducible refine Box.alloc ?_ _)) : Box _ (w3.heap.size) 24 #[.int .i64 s, .int .i64 k, .int .i64 f, .int .i64 0, .int .i64 m, .int .i64 u, .int .i64 v]).keeps hk (fun h => h)
      have hb := ((by repeat (first | with_reducible exact Yb.out | with_reducible exact Box.new _ _ (by simp) _ _ | with_reducible refine Box.far ?_ (by dsimp only; omega) _ | with_reducible refine Box.alloc ?_ _)) : Box _ (w3.heap.size + 1) 24 #[.int .i64 s, .int .i64 k, .int .i64 f, .int .i64 t, .int .i64 0, .int .i64 u, .int .i64 v]).keeps hk (fun h => h)
      have hc := ((by repeat (first | with_reducible exact Yc.out | with_reducible exact Box.new _ _ (by simp) _ _ | with_reducible refine Box.far ?_ (by dsimp only; omega) _ | with_reducible refine Box.alloc ?_ _)) : Box _ (w3.heap.size + 2) 24 #[.int .i64 s, .int .i64 k, .int .i64 0, .int .i64 t, .int .i64 m, .int .i64 u, .int .i64 v]).keeps hk (fun h => h)
      have hd := ((by repeat (first | with_reducible exact Yd.out | with_reducible exact Box.new _ _ (by simp) _ _ | with_reducible refine Box.far ?_ (by dsimp only; omega) _ | with_reducible refine Box.alloc ?_ _)) : Box _ (w3.heap.size + 3) 24 #[.int .i64 s, .int .i64 k, .int .i64 f, .int .i64 t, .int .i64 m, .int .i64 0, .int .i64 v]).keeps hk (fun h => h)
      have he := ((by repeat (first | with_reducible exact Ye.out | with_reducible exact Box.new _ _ (by simp) _ _ | with_reducible refine Box.far ?_ (by dsimp only; omega) _ | with_reducible refine Box.alloc ?_ _)) : Box _ (w3.heap.size + 4) 24 #[.int .i64 s, .int .i64 k, .int .i64 f, .int .i64 t, .int .i64 m, .int .i64 u, .int .i64 0]).keeps hk (fun h => h)
      have hKK := ((by repeat (first | with_reducible exact YK.out | with_reducible refine Keeps.setCell ?_ (.inl (by dsimp only; omega)) _ | with_reducible refine Keeps.alloc ?_ _)) : Keeps noBlk w _).trans hk
      clear YK Yp Ya Yb Yc Yd Ye
      have Yp := Lib.hid hp
      have zp := hp.lt
      have Ya := Lib.hid ha
      have za := ha.lt
      have Yb := Lib.hid hb
      have zb := hb.lt
      have Yc := Lib.hid hc
      have zc := hc.lt
      have Yd := Lib.hid hd
      have zd := hd.lt
      have Ye := Lib.hid he
      have ze := he.lt
      have YK := Lib.hid hKK
      have sz := hKK.size
      clear hk hKK hp ha hb hc hd he
      have pc0 := Yp.out.cell 0
      have pc1 := Yp.out.cell 1
      have pc2 := Yp.out.cell 2
      have pc3 := Yp.out.cell 3
      have pc4 := Yp.out.cell 4
      have pc5 := Yp.out.cell 5
      have pc6 := Yp.out.cell 6
      simp at pc0 pc1 pc2 pc3 pc4 pc5 pc6
      have ac0 := Ya.out.cell 0
      have ac1 := Ya.out.cell 1
      have ac2 := Ya.out.cell 2
      have ac3 := Ya.out.cell 3
      have ac4 := Ya.out.cell 4
      have ac5 := Ya.out.cell 5
      have ac6 := Ya.out.cell 6
      simp at ac0 ac1 ac2 ac3 ac4 ac5 ac6
      have bc0 := Yb.out.cell 0
      have bc1 := Yb.out.cell 1
      have bc2 := Yb.out.cell 2
      have bc3 := Yb.out.cell 3
      have bc4 := Yb.out.cell 4
      have bc5 := Yb.out.cell 5
      have bc6 := Yb.out.cell 6
      simp at bc0 bc1 bc2 bc3 bc4 bc5 bc6
      have cc0 := Yc.out.cell 0
      have cc1 := Yc.out.cell 1
      have cc2 := Yc.out.cell 2
      have cc3 := Yc.out.cell 3
      have cc4 := Yc.out.cell 4
      have cc5 := Yc.out.cell 5
      have cc6 := Yc.out.cell 6
      simp at cc0 cc1 cc2 cc3 cc4 cc5 cc6
      have dc0 := Yd.out.cell 0
      have dc1 := Yd.out.cell 1
      have dc2 := Yd.out.cell 2
      have dc3 := Yd.out.cell 3
      have dc4 := Yd.out.cell 4
      have dc5 := Yd.out.cell 5
      have dc6 := Yd.out.cell 6
      simp at dc0 dc1 dc2 dc3 dc4 dc5 dc6
      have ec0 := Ye.out.cell 0
      have ec1 := Ye.out.cell 1
      have ec2 := Ye.out.cell 2
      have ec3 := Ye.out.cell 3
      have ec4 := Ye.out.cell 4
      have ec5 := Ye.out.cell 5
      have ec6 := Ye.out.cell 6
      simp at ec0 ec1 ec2 ec3 ec4 ec5 ec6
      go_wp2
      go_ret
      exact ⟨rfl, YK.out.below⟩
  · go_enter Tryd.func6, Tryd.ntmps6
    go_wp2
    go_ret
    exact ⟨rfl, Below.refl _ _⟩

namespace pkform
set_option maxRecDepth 100000 in
theorem lifted (os : Os) (started : os.Started) (H : Type) (enc : TypeId × Value → H) :
    ReturnsInHanded {} Tryd.checked os 6 .any (fun w args => (Rows.fnPacketFormSpec.pre enc Tryd.prog Tryd.f6 [] false w args ∧ laidMetH Tryd.prog Rows.fnPacketFormRow.laid w) ∧ sizedMet enc Tryd.prog Tryd.f6 (OpenSpec.ofChange Rows.fnPacketFormSpec) false w args)
      (Rows.fnPacketFormSpec.post enc Tryd.prog Tryd.f6 false true false false) := by
  refine returnsInHanded_of_change_and (C := Tryd.checked) (X := fun w _ => laidMetH Tryd.prog Rows.fnPacketFormRow.laid w) (fun _ _ _ hh h => h.of_heap hh) own started (by kernel_rfl) Tryd.func6
    (ChangeSpec.witness_shaped (enc := enc) (C := Tryd.checked) (os := os) (X := fun w _ => laidMetH Tryd.prog Rows.fnPacketFormRow.laid w) false (World.doorLaid Tryd.prog 101 os) #[.slice none 0 0] 8 rfl (World.shaped_of_RefB (by kernel_rfl) (by kernel_rfl)) (by kernel_rfl) (by kernel_rfl) (by kernel_rfl) (door_met os _)) ?_
  intro W base args ds gs before hval0 hW _ _ hL _
  have hval : ∀ (j : Nat) t v, Tryd.f6.params[j]? = some t → args[j]? = some v → Value.okWide Tryd.prog W .any base t v := hval0
  have hW' := hW
  obtain ⟨p, q, hA0, hV, rfl, hfz, hnd⟩ := hW
  have hA : DataW.TrodAll enc Tryd.prog W 0 (fun _ => true) true Tryd.f6.params.toList args.toList ds p := hA0
  rw [Tryd.params6 ] at hA hval
  obtain ⟨g0, g1, rfl⟩ := vars2 hV
  obtain ⟨v0, d0, rfl, rfl, h0⟩ := trodAll_one hA
  obtain ⟨a0, len0, cap0, rfl⟩ := okWide_slice Tryd.underlying22 (hval 0 22 v0 rfl rfl)
  have k0 := h0
  have lt0 : ∀ x ∈ p, x.block < W.heap.size := by obtain ⟨m, hm⟩ := k0; exact DataW.trod_lt m _ _ _ hm
  obtain ⟨z0, w0, e0, f0⟩ := bytes_of_trod h0
  clear hA0 hval0
  refine (walk_pkform W (tabs_of_laid hL) a0 len0 cap0 z0 w0 e0 f0).mono fun e W' ⟨he, bel⟩ => ?_
  subst he
  exact ⟨_, rfl, _, _, _, [], _, _, hW', trodAll_mk1 (shut_bool Tryd.underlying4 _), (trodAll_mk1 (Below.trod laidOut (by kernel_rfl) (of_decide_eq_true (by kernel_rfl)) k0 bel lt0)), Below.trodVars laidOut bel (by kernel_rfl) hV, bel.frame _, fun h => by cases h⟩
end pkform

theorem fnPacketForm_row : Rows.FnPacketFormSaid :=
  OpenClaim.holds_of_wide 6 Tryd.f6 rfl rfl rfl rfl rfl rfl rfl ⟨rfl, rfl, rfl, rfl, rfl⟩ rfl rfl rfl rfl rfl (by kernel_rfl) Tryd.func6 (by kernel_rfl)
    (of_decide_eq_true (by kernel_rfl)) (by unfold Func.isWrapper; first | (rw [if_pos (by decide +kernel)]; kernel_rfl) | (rw [if_neg (by decide +kernel)]; exact ⟨rfl, rfl⟩))
    (fun os started H enc _ => pkform.lifted os started H enc)

theorem fnPacketForm_card : Rows.FnPacketFormCardSaid :=
  Claim7.holds_tied_plain_at .later [] Rows.fnPacketFormCard.laidKinds true Rows.fnPacketFormCard.stood.harness true
    fnPacketForm_row (fun _ h => by cases h) (by kernel_rfl) (fun _ h => by cases h) fnPacketForm_row_tie rfl ⟨rfl, rfl⟩ (by kernel_rfl) rfl
    (fun g fn hg hfn => by
      obtain rfl : g = 6 := Option.some.inj ((show Tryd.prog.funcNamed Rows.fnPacketFormRow.func = some 6 by kernel_rfl).symm.trans hg) |>.symm
      obtain rfl : fn = Tryd.f6 := (Option.some.inj (Tryd.func6.symm.trans hfn)).symm
      refine ⟨by kernel_rfl, fun j t ht => ?_⟩
      have h3 : ∀ t ∈ Tryd.f6.params.toList, Tryd.prog.wantsStandIn t = false := of_decide_eq_true (by kernel_rfl)
      exact h3 t (Array.mem_toList_iff.2 (Array.mem_of_getElem? ht)))
    (by kernel_rfl)
#print axioms fnPacketForm_card
end Go.Proofs.YtjbllfnfnkghgaaDoor
