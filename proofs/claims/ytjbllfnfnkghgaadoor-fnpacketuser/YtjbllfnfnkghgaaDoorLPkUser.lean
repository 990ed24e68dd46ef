/- FnPacketUser: a packet goes from one to one, whatever is drawn. -/
import Derived.Test.YtjbllfnfnkghgaaDoorPkF
import Derived.Test.YtjbllfnfnkghgaaDoorPkS
import Derived.Test.YtjbllfnfnkghgaaDoorPkDraw2
import Derived.Test.YtjbllfnfnkghgaaDoorPkFB
set_option linter.unusedVariables false
set_option linter.unusedSimpArgs false
namespace Go.Proofs.YtjbllfnfnkghgaaDoor
open Go.RowKit Go.ChangeShapes Go.WideShapes Go.ChangeAt


set_option maxRecDepth 100000 in
set_option maxHeartbeats 4000000 in
theorem walk_pkuser (w : World) (ht : Tabs w) (a0 : Option Addr) (len0 cap0 : Nat) (z0 : List Int) (h : Bytes w a0 len0 z0) (e0 : len0 ≤ cap0) (f0 : cap0 ≤ maxLen) (a1 : Option Addr) (len1 cap1 : Nat) (_e1 : len1 ≤ cap1) (_f1 : cap1 ≤ maxLen) :
    Calls Tryd.prog 8 #[.slice a0 len0 cap0, .slice a1 len1 cap1] w fun e w' => e = .returned (.bool true) ∧ Below w.heap.size w w' := by
  have H := Lib.hid h
  have HT := Lib.hid ht
  clear h ht
  by_cases hs : (len0 : Int) ≤ 1048576
  · by_cases hs1 : (len1 : Int) ≤ 1048576
    · go_enter Tryd.func8, Tryd.ntmps8
      go_wp2_with fail
      refine (drawPkOk_any a0 len0 _ z0 _ H.out e0 f0).mono ?_
      rintro e w1 ⟨s, k, f, t, m, u, v, rfl, hk1⟩
      obtain ⟨o, ho⟩ : ∃ o, pkB s k f t m u v = o := ⟨_, rfl⟩
      have HSP := Lib.hid (fun W => (show Calls Tryd.prog 20 #[.agg #[.int .i64 s, .int .i64 k, .int .i64 f, .int .i64 t, .int .i64 m, .int .i64 u, .int .i64 v]] W (fun e w' => e = .returned (.bool o) ∧ Keeps noBlk W w') from by rw [← ho]; exact specPk_any s k f t m u v W))
      have HIM := Lib.hid (fun W hW => (show Calls Tryd.prog 16 #[.agg #[.int .i64 s, .int .i64 k, .int .i64 f, .int .i64 t, .int .i64 m, .int .i64 u, .int .i64 v]] W (fun e w' => e = .returned (.bool o) ∧ Keeps noBlk W w') from by rw [← ho]; exact implPk_any s k f t m u v W hW))
      have HO := Lib.hid ho
      clear ho
      have YK := Lib.hid hk1
      have sz := hk1.size
      clear hk1
      go_wp2_with fail
      refine (HIM.out _ (HT.out.keeps (YK.out.alloc _))).mono ?_
      rintro e w2 ⟨rfl, hk⟩
      have hp := (Box.new w1 _ rfl 24 #[.int .i64 s, .int .i64 k, .int .i64 f, .int .i64 t, .int .i64 m, .int .i64 u, .int .i64 v]).keeps hk (fun h => h)
      have hKK := (YK.out.alloc _).trans hk
      clear YK
      have Yp := Lib.hid hp
      have zp := hp.lt
      have YK := Lib.hid hKK
      have sz2 := hKK.size
      clear hk hKK hp
      have pc0 := Yp.out.cell 0
      have pc1 := Yp.out.cell 1
      have pc2 := Yp.out.cell 2
      have pc3 := Yp.out.cell 3
      have pc4 := Yp.out.cell 4
      have pc5 := Yp.out.cell 5
      have pc6 := Yp.out.cell 6
      simp at pc0 pc1 pc2 pc3 pc4 pc5 pc6
      go_wp2_with fail
      refine (HSP.out _).mono ?_
      rintro e w3 ⟨rfl, hk⟩
      clear pc0 pc1 pc2 pc3 pc4 pc5 pc6
      have hp := ((by repeat (first | with_reducible exact Yp.out | with_reducible refine Box.far ?_ (by dsimp only; omega) _ | with_reducible refine Box.alloc ?_ _)) : Box _ (w1.heap.size) 24 #[.int .i64 s, .int .i64 k, .int .i64 f, .int .i64 t, .int .i64 m, .int .i64 u, .int .i64 v]).keeps hk (fun h => h)
      have hKK := ((by repeat (first | with_reducible exact YK.out | with_reducible refine Keeps.setCell ?_ (.inl (by dsimp only; omega)) _ | with_reducible refine Keeps.alloc ?_ _)) : Keeps noBlk w _).trans hk
      clear YK Yp
      have Yp := Lib.hid hp
      have zp := hp.lt
      have YK := Lib.hid hKK
      have sz := hKK.size
      clear hk hKK hp
      have pc0 := Yp.out.cell 0
      have pc1 := Yp.out.cell 1
      have pc2 := Yp.out.cell 2
      have pc3 := Yp.out.cell 3
      have pc4 := Yp.out.cell 4
      have pc5 := Yp.out.cell 5
      have pc6 := Yp.out.cell 6
      simp at pc0 pc1 pc2 pc3 pc4 pc5 pc6
      cases o
      · skip
        go_wp2_with fail
        refine (HSP.out _).mono ?_
        rintro e w4 ⟨rfl, hk⟩
        clear pc0 pc1 pc2 pc3 pc4 pc5 pc6
        have hp := ((by repeat (first | with_reducible exact Yp.out | with_reducible refine Box.far ?_ (by dsimp only; omega) _ | with_reducible refine Box.alloc ?_ _)) : Box _ (w1.heap.size) 24 #[.int .i64 s, .int .i64 k, .int .i64 f, .int .i64 t, .int .i64 m, .int .i64 u, .int .i64 v]).keeps hk (fun h => h)
        have hKK := ((by repeat (first | with_reducible exact YK.out | with_reducible refine Keeps.setCell ?_ (.inl (by dsimp only; omega)) _ | with_reducible refine Keeps.alloc ?_ _)) : Keeps noBlk w _).trans hk
        clear YK Yp
        have Yp := Lib.hid hp
        have zp := hp.lt
        have YK := Lib.hid hKK
        have sz := hKK.size
        clear hk hKK hp
        have pc0 := Yp.out.cell 0
        have pc1 := Yp.out.cell 1
        have pc2 := Yp.out.cell 2
        have pc3 := Yp.out.cell 3
        have pc4 := Yp.out.cell 4
        have pc5 := Yp.out.cell 5
        have pc6 := Yp.out.cell 6
        simp at pc0 pc1 pc2 pc3 pc4 pc5 pc6
        go_wp2
        go_ret
        exact ⟨rfl, YK.out.below⟩
      · obtain ⟨⟨p0, p0'⟩, ⟨p1, p1'⟩, ⟨p2, p2'⟩, ⟨p3, p3'⟩, ⟨p4, p4'⟩, ⟨p5, p5'⟩, ⟨p6, p6'⟩⟩ := pkB_parts HO.out
        have Ea : pkB s k ((1 + (len1 : Int) % 3)) (((len1 : Int) % 4)) ((1 + (len1 : Int) % 9)) u v = true := pkB_yes (in2_yes (by omega) (by omega)) (in2_yes (by omega) (by omega)) (in2_yes (by omega) (by omega)) (in2_yes (by omega) (by omega)) (in2_yes (by omega) (by omega)) (in2_yes (by omega) (by omega)) (in2_yes (by omega) (by omega))
        have Ha := Lib.hid (fun W hW => (show Calls Tryd.prog 16 #[.agg #[.int .i64 s, .int .i64 k, .int .i64 (1 + (len1 : Int) % 3), .int .i64 ((len1 : Int) % 4), .int .i64 (1 + (len1 : Int) % 9), .int .i64 u, .int .i64 v]] W (fun e w' => e = .returned (.bool true) ∧ Keeps noBlk W w') from by rw [← Ea]; exact implPk_any s k ((1 + (len1 : Int) % 3)) (((len1 : Int) % 4)) ((1 + (len1 : Int) % 9)) u v W hW))
        have Eb : pkB s k 4 t m u v = false := pkB_no2 (in2_hi (by omega))
        have Hb := Lib.hid (fun W hW => (show Calls Tryd.prog 16 #[.agg #[.int .i64 s, .int .i64 k, .int .i64 4, .int .i64 t, .int .i64 m, .int .i64 u, .int .i64 v]] W (fun e w' => e = .returned (.bool false) ∧ Keeps noBlk W w') from by rw [← Eb]; exact implPk_any s k 4 t m u v W hW))
        have Ec : pkB s k f t 10 u v = false := pkB_no4 (in2_hi (by omega))
        have Hc := Lib.hid (fun W hW => (show Calls Tryd.prog 16 #[.agg #[.int .i64 s, .int .i64 k, .int .i64 f, .int .i64 t, .int .i64 10, .int .i64 u, .int .i64 v]] W (fun e w' => e = .returned (.bool false) ∧ Keeps noBlk W w') from by rw [← Ec]; exact implPk_any s k f t 10 u v W hW))
        clear Ea Eb Ec
        have l0 : w1.heap.size < w3.heap.size := by omega
        have n0 : ¬ w1.heap.size = w3.heap.size := by omega
        have m0 : ¬ w3.heap.size = w1.heap.size := by omega
        have l1 : w1.heap.size < w3.heap.size + 1 := by omega
        have n1 : ¬ w1.heap.size = w3.heap.size + 1 := by omega
        have m1 : ¬ w3.heap.size + 1 = w1.heap.size := by omega
        have l2 : w1.heap.size < w3.heap.size + 2 := by omega
        have n2 : ¬ w1.heap.size = w3.heap.size + 2 := by omega
        have m2 : ¬ w3.heap.size + 2 = w1.heap.size := by omega
        have l3 : w1.heap.size < w3.heap.size + 3 := by omega
        have n3 : ¬ w1.heap.size = w3.heap.size + 3 := by omega
        have m3 : ¬ w3.heap.size + 3 = w1.heap.size := by omega
        go_wp2_with fail
        refine (Ha.out _ (HT.out.keeps (by repeat (first | with_reducible exact YK.out | with_reducible refine Keeps.setCell ?_ (.inl (by dsimp only; omega)) _ | with_reducible refine Keeps.alloc ?_ _)))).mono ?_
        rintro e w4 ⟨rfl, hk⟩
        clear pc0 pc1 pc2 pc3 pc4 pc5 pc6
        have hp := ((by repeat (first | with_reducible exact Yp.out | with_reducible refine Box.far ?_ (by dsimp only; omega) _ | with_reducible refine Box.alloc ?_ _)) : Box _ (w1.heap.size) 24 #[.int .i64 s, .int .i64 k, .int .i64 f, .int .i64 t, .int .i64 m, .int .i64 u, .int .i64 v]).keeps hk (fun h => h)
        have ha := ((by repeat (first | with_reducible exact Ya.out | with_reducible exact Box.new _ _ (by simp) _ _ | with_reducible refine Box.far ?_ (by dsimp only; omega) _ | with_reducible refine Box.alloc ?_ _)) : Box _ (w3.heap.size) 24 #[.int .i64 s, .int .i64 k, .int .i64 (1 + (len1 : Int) % 3), .int .i64 ((len1 : Int) % 4), .int .i64 (1 + (len1 : Int) % 9), .int .i64 u, .int .i64 v]).keeps hk (fun h => h)
        have hb := ((by repeat (first | with_reducible exact Yb.out | with_reducible exact Box.new _ _ (by simp) _ _ | with_reducible refine Box.far ?_ (by dsimp only; omega) _ | with_reducible refine Box.alloc ?_ _)) : Box _ (w3.heap.size + 1) 24 #[.int .i64 s, .int .i64 k, .int .i64 4, .int .i64 t, .int .i64 m, .int .i64 u, .int .i64 v]).keeps hk (fun h => h)
        have hc := ((by repeat (first | with_reducible exact Yc.out | with_reducible exact Box.new _ _ (by simp) _ _ | with_reducible refine Box.far ?_ (by dsimp only; omega) _ | with_reducible refine Box.alloc ?_ _)) : Box _ (w3.heap.size + 2) 24 #[.int .i64 s, .int .i64 k, .int .i64 f, .int .i64 t, .int .i64 10, .int .i64 u, .int .i64 v]).keeps hk (fun h => h)
        have hKK := ((by repeat (first | with_reducible exact YK.out | with_reducible refine Keeps.setCell ?_ (.inl (by dsimp only; omega)) _ | with_reducible refine Keeps.alloc ?_ _)) : Keeps noBlk w _).trans hk
        clear YK Yp
        have Yp := Lib.hid hp
        have zp := hp.lt
        have Ya := Lib.hid ha
        have za := ha.lt
        have Yb := Lib.hid hb
        have zb := hb.lt
        have Yc := Lib.hid hc
        have zc := hc.lt
        have YK := Lib.hid hKK
        have sz := hKK.size
        clear hk hKK hp ha hb hc
        have pc0 := Yp.out.cell 0
        have pc1 := Yp.out.cell 1
        have pc2 := Yp.out.cell 2
        have pc3 := Yp.out.cell 3
        have pc4 := Yp.out.cell 4
        have pc5 := Yp.out.cell 5
        have pc6 := Yp.out.cell 6
        simp at pc0 pc1 pc2 pc3 pc4 pc5 pc6
        have ac0 := Ya.out.cell 0
        have ac1 := Ya.out.cell 1
        have ac2 := Ya.out.cell 2
        have ac3 := Ya.out.cell 3
        have ac4 := Ya.out.cell 4
        have ac5 := Ya.out.cell 5
        have ac6 := Ya.out.cell 6
        simp at ac0 ac1 ac2 ac3 ac4 ac5 ac6
        have bc0 := Yb.out.cell 0
        have bc1 := Yb.out.cell 1
        have bc2 := Yb.out.cell 2
        have bc3 := Yb.out.cell 3
        have bc4 := Yb.out.cell 4
        have bc5 := Yb.out.cell 5
        have bc6 := Yb.out.cell 6
        simp at bc0 bc1 bc2 bc3 bc4 bc5 bc6
        have cc0 := Yc.out.cell 0
        have cc1 := Yc.out.cell 1
        have cc2 := Yc.out.cell 2
        have cc3 := Yc.out.cell 3
        have cc4 := Yc.out.cell 4
        have cc5 := Yc.out.cell 5
        have cc6 := Yc.out.cell 6
        simp at cc0 cc1 cc2 cc3 cc4 cc5 cc6
        go_wp2_with fail
        refine (Hb.out _ (HT.out.keeps YK.out)).mono ?_
        rintro e w5 ⟨rfl, hk⟩
        clear pc0 pc1 pc2 pc3 pc4 pc5 pc6
        clear ac0 ac1 ac2 ac3 ac4 ac5 ac6
        clear bc0 bc1 bc2 bc3 bc4 bc5 bc6
        clear cc0 cc1 cc2 cc3 cc4 cc5 cc6
        have hp := ((by repeat (first | with_reducible exact Yp.out | with_reducible refine Box.far ?_ (by dsimp only; omega) _ | with_reducible refine Box.alloc ?_ _)) : Box _ (w1.heap.size) 24 #[.int .i64 s, .int .i64 k, .int .i64 f, .int .i64 t, .int .i64 m, .int .i64 u, .int .i64 v]).keeps hk (fun h => h)
        have ha := ((by repeat (first | with_reducible exact Ya.out | with_reducible exact Box.new _ _ (by simp) _ _ | with_reducible refine Box.far ?_ (by dsimp only; omega) _ | with_reducible refine Box.alloc ?_ _)) : Box _ (w3.heap.size) 24 #[.int .i64 s, .int .i64 k, .int .i64 (1 + (len1 : Int) % 3), .int .i64 ((len1 : Int) % 4), .int .i64 (1 + (len1 : Int) % 9), .int .i64 u, .int .i64 v]).keeps hk (fun h => h)
        have hb := ((by repeat (first | with_reducible exact Yb.out | with_reducible exact Box.new _ _ (by simp) _ _ | with_reducible refine Box.far ?_ (by dsimp only; omega) _ | with_reducible refine Box.alloc ?_ _)) : Box _ (w3.heap.size + 1) 24 #[.int .i64 s, .int .i64 k, .int .i64 4, .int .i64 t, .int .i64 m, .int .i64 u, .int .i64 v]).keeps hk (fun h => h)
        have hc := ((by repeat (first | with_reducible exact Yc.out | with_reducible exact Box.new _ _ (by simp) _ _ | with_reducible refine Box.far ?_ (by dsimp only; omega) _ | with_reducible refine Box.alloc ?_ _)) : Box _ (w3.heap.size + 2) 24 #[.int .i64 s, .int .i64 k, .int .i64 f, .int .i64 t, .int .i64 10, .int .i64 u, .int .i64 v]).keeps hk (fun h => h)
        have hKK := ((by repeat (first | with_reducible exact YK.out | with_reducible refine Keeps.setCell ?_ (.inl (by dsimp only; omega)) _ | with_reducible refine Keeps.alloc ?_ _)) : Keeps noBlk w _).trans hk
        clear YK Yp Ya Yb Yc
        have Yp := Lib.hid hp
        have zp := hp.lt
        have Ya := Lib.hid ha
        have za := ha.lt
        have Yb := Lib.hid hb
        have zb := hb.lt
        have Yc := Lib.hid hc
        have zc := hc.lt
        have YK := Lib.hid hKK
        have sz := hKK.size
        clear hk hKK hp ha hb hc
        have pc0 := Yp.out.cell 0
        have pc1 := Yp.out.cell 1
        have pc2 := Yp.out.cell 2
        have pc3 := Yp.out.cell 3
        have pc4 := Yp.out.cell 4
        have pc5 := Yp.out.cell 5
        have pc6 := Yp.out.cell 6
        simp at pc0 pc1 pc2 pc3 pc4 pc5 pc6
        have ac0 := Ya.out.cell 0
        have ac1 := Ya.out.cell 1
        have ac2 := Ya.out.cell 2
        have ac3 := Ya.out.cell 3
        have ac4 := Ya.out.cell 4
        have ac5 := Ya.out.cell 5
        have ac6 := Ya.out.cell 6
        simp at ac0 ac1 ac2 ac3 ac4 ac5 ac6
        have bc0 := Yb.out.cell 0
        have bc1 := Yb.out.cell 1
        have bc2 := Yb.out.cell 2
        have bc3 := Yb.out.cell 3
        have bc4 := Yb.out.cell 4
        have bc5 := Yb.out.cell 5
        have bc6 := Yb.out.cell 6
        simp at bc0 bc1 bc2 bc3 bc4 bc5 bc6
        have cc0 := Yc.out.cell 0
        have cc1 := Yc.out.cell 1
        have cc2 := Yc.out.cell 2
        have cc3 := Yc.out.cell 3
        have cc4 := Yc.out.cell 4
        have cc5 := Yc.out.cell 5
        have cc6 := Yc.out.cell 6
        simp at cc0 cc1 cc2 cc3 cc4 cc5 cc6
        go_wp2_with fail
        refine (Hc.out _ (HT.out.keeps YK.out)).mono ?_
        rintro e w6 ⟨rfl, hk⟩
        clear pc0 pc1 pc2 pc3 pc4 pc5 pc6
        clear ac0 ac1 ac2 ac3 ac4 ac5 ac6
        clear bc0 bc1 bc2 bc3 bc4 bc5 bc6
        clear cc0 cc1 cc2 cc3 cc4 cc5 cc6
        have hp := ((by repeat (first | with_reducible exact Yp.out | with_reducible refine Box.far ?_ (by dsimp only; omega) _ | with_reducible refine Box.alloc ?_ _)) : Box _ (w1.heap.size) 24 #[.int .i64 s, .int .i64 k, .int .i64 f, .int .i64 t, .int .i64 m, .int .i64 u, .int .i64 v]).keeps hk (fun h => h)
        have ha := ((by repeat (first | with_reducible exact Ya.out | with_reducible exact Box.new _ _ (by simp) _ _ | with_reducible refine Box.far ?_ (by dsimp only; omega) _ | with_reducible refine Box.alloc ?_ _)) : Box _ (w3.heap.size) 24 #[.int .i64 s, .int .i64 k, .int .i64 (1 + (len1 : Int) % 3), .int .i64 ((len1 : Int) % 4), .int .i64 (1 + (len1 : Int) % 9), .int .i64 u, .int .i64 v]).keeps hk (fun h => h)
        have hb := ((by repeat (first | with_reducible exact Yb.out | with_reducible exact Box.new _ _ (by simp) _ _ | with_reducible refine Box.far ?_ (by dsimp only; omega) _ | with_reducible refine Box.alloc ?_ _)) : Box _ (w3.heap.size + 1) 24 #[.int .i64 s, .int .i64 k, .int .i64 4, .int .i64 t, .int .i64 m, .int .i64 u, .int .i64 v]).keeps hk (fun h => h)
        have hc := ((by repeat (first | with_reducible exact Yc.out | with_reducible exact Box.new _ _ (by simp) _ _ | with_reducible refine Box.far ?_ (by dsimp only; omega) _ | with_reducible refine Box.alloc ?_ _)) : Box _ (w3.heap.size + 2) 24 #[.int .i64 s, .int .i64 k, .int .i64 f, .int .i64 t, .int .i64 10, .int .i64 u, .int .i64 v]).keeps hk (fun h => h)
        have hKK := ((by repeat (first | with_reducible exact YK.out | with_reducible refine Keeps.setCell ?_ (.inl (by dsimp only; omega)) _ | with_reducible refine Keeps.alloc ?_ _)) : Keeps noBlk w _).trans hk
        clear YK Yp Ya Yb Yc
        have Yp := Lib.hid hp
        have zp := hp.lt
        have Ya := Lib.hid ha
        have za := ha.lt
        have Yb := Lib.hid hb
        have zb := hb.lt
        have Yc := Lib.hid hc
        have zc := hc.lt
        have YK := Lib.hid hKK
        have sz := hKK.size
        clear hk hKK hp ha hb hc
        have pc0 := Yp.out.cell 0
        have pc1 := Yp.out.cell 1
        have pc2 := Yp.out.cell 2
        have pc3 := Yp.out.cell 3
        have pc4 := Yp.out.cell 4
        have pc5 := Yp.out.cell 5
        have pc6 := Yp.out.cell 6
        simp at pc0 pc1 pc2 pc3 pc4 pc5 pc6
        have ac0 := Ya.out.cell 0
        have ac1 := Ya.out.cell 1
        have ac2 := Ya.out.cell 2
        have ac3 := Ya.out.cell 3
        have ac4 := Ya.out.cell 4
        have ac5 := Ya.out.cell 5
        have ac6 := Ya.out.cell 6
        simp at ac0 ac1 ac2 ac3 ac4 ac5 ac6
        have bc0 := Yb.out.cell 0
        have bc1 := Yb.out.cell 1
        have bc2 := Yb.out.cell 2
        have bc3 := Yb.out.cell 3
        have bc4 := Yb.out.cell 4
        have bc5 := Yb.out.cell 5
        have bc6 := Yb.out.cell 6
        simp at bc0 bc1 bc2 bc3 bc4 bc5 bc6
        have cc0 := Yc.out.cell 0
        have cc1 := Yc.out.cell 1
        have cc2 := Yc.out.cell 2
        have cc3 := Yc.out.cell 3
        have cc4 := Yc.out.cell 4
        have cc5 := Yc.out.cell 5
        have cc6 := Yc.out.cell 6
        simp at cc0 cc1 cc2 cc3 cc4 cc5 cc6
        go_wp2
        go_ret
        exact ⟨rfl, YK.out.below⟩
    · go_enter Tryd.func8, Tryd.ntmps8
      go_wp2
      go_ret
      exact ⟨rfl, Below.refl _ _⟩
  · go_enter Tryd.func8, Tryd.ntmps8
    go_wp2
    go_ret
    exact ⟨rfl, Below.refl _ _⟩

namespace pkuser
set_option maxRecDepth 100000 in
theorem lifted (os : Os) (started : os.Started) (H : Type) (enc : TypeId × Value → H) :
    ReturnsInHanded {} Tryd.checked os 8 .any (fun w args => (Rows.fnPacketUserSpec.pre enc Tryd.prog Tryd.f8 [] false w args ∧ laidMetH Tryd.prog Rows.fnPacketUserRow.laid w) ∧ sizedMet enc Tryd.prog Tryd.f8 (OpenSpec.ofChange Rows.fnPacketUserSpec) false w args)
      (Rows.fnPacketUserSpec.post enc Tryd.prog Tryd.f8 false true false false) := by
  refine returnsInHanded_of_change_and (C := Tryd.checked) (X := fun w _ => laidMetH Tryd.prog Rows.fnPacketUserRow.laid w) (fun _ _ _ hh h => h.of_heap hh) own started (by kernel_rfl) Tryd.func8
    (ChangeSpec.witness_shaped (enc := enc) (C := Tryd.checked) (os := os) (X := fun w _ => laidMetH Tryd.prog Rows.fnPacketUserRow.laid w) false (World.doorLaid Tryd.prog 101 os) #[.slice none 0 0, .slice none 0 0] 8 rfl (World.shaped_of_RefB (by kernel_rfl) (by kernel_rfl)) (by kernel_rfl) (by kernel_rfl) (by kernel_rfl) (door_met os _)) ?_
  intro W base args ds gs before hval0 hW _ _ hL _
  have hval : ∀ (j : Nat) t v, Tryd.f8.params[j]? = some t → args[j]? = some v → Value.okWide Tryd.prog W .any base t v := hval0
  have hW' := hW
  obtain ⟨p, q, hA0, hV, rfl, hfz, hnd⟩ := hW
  have hA : DataW.TrodAll enc Tryd.prog W 0 (fun _ => true) true Tryd.f8.params.toList args.toList ds p := hA0
  rw [Tryd.params8 ] at hA hval
  obtain ⟨g0, g1, rfl⟩ := vars2 hV
  obtain ⟨v0, vs0, d0, ds0, p0, q0, hargs, rfl, rfl, h0, r0⟩ := trodAll_cons hA
  obtain ⟨v1, vs1, d1, ds1, p1, q1, rfl, rfl, rfl, h1, r1⟩ := trodAll_cons r0
  obtain ⟨rfl, rfl, rfl⟩ := trodAll_nil r1
  obtain rfl : args = #[v0, v1] := by cases args; simp_all
  obtain ⟨a0, len0, cap0, rfl⟩ := okWide_slice Tryd.underlying22 (hval 0 22 v0 rfl rfl)
  have k0 := h0
  have lt0 : ∀ x ∈ p0, x.block < W.heap.size := by obtain ⟨m, hm⟩ := k0; exact DataW.trod_lt m _ _ _ hm
  obtain ⟨z0, w0, e0, f0⟩ := bytes_of_trod h0
  obtain ⟨a1, len1, cap1, rfl⟩ := okWide_slice Tryd.underlying22 (hval 1 22 v1 rfl rfl)
  have k1 := h1
  have lt1 : ∀ x ∈ p1, x.block < W.heap.size := by obtain ⟨m, hm⟩ := k1; exact DataW.trod_lt m _ _ _ hm
  obtain ⟨z1, w1, e1, f1⟩ := bytes_of_trod h1
  clear hA0 hval0
  refine (walk_pkuser W (tabs_of_laid hL) a0 len0 cap0 z0 w0 e0 f0 a1 len1 cap1 e1 f1).mono fun e W' ⟨he, bel⟩ => ?_
  subst he
  exact ⟨_, rfl, _, _, _, [], _, _, hW', trodAll_mk1 (shut_bool Tryd.underlying4 _), (trodAll_cons_mk (Below.trod laidOut (by kernel_rfl) (of_decide_eq_true (by kernel_rfl)) k0 bel lt0) (trodAll_cons_mk (Below.trod laidOut (by kernel_rfl) (of_decide_eq_true (by kernel_rfl)) k1 bel lt1) trodAll_mk0)), Below.trodVars laidOut bel (by kernel_rfl) hV, bel.frame _, fun h => by cases h⟩
end pkuser

theorem fnPacketUser_row : Rows.FnPacketUserSaid :=
  OpenClaim.holds_of_wide 8 Tryd.f8 rfl rfl rfl rfl rfl rfl rfl ⟨rfl, rfl, rfl, rfl, rfl⟩ rfl rfl rfl rfl rfl (by kernel_rfl) Tryd.func8 (by kernel_rfl)
    (of_decide_eq_true (by kernel_rfl)) (by unfold Func.isWrapper; first | (rw [if_pos (by decide +kernel)]; kernel_rfl) | (rw [if_neg (by decide +kernel)]; exact ⟨rfl, rfl⟩))
    (fun os started H enc _ => pkuser.lifted os started H enc)

theorem fnPacketUser_card : Rows.FnPacketUserCardSaid :=
  Claim7.holds_tied_plain_at .later [] Rows.fnPacketUserCard.laidKinds true Rows.fnPacketUserCard.stood.harness true
    fnPacketUser_row (fun _ h => by cases h) (by kernel_rfl) (fun _ h => by cases h) fnPacketUser_row_tie rfl ⟨rfl, rfl⟩ (by kernel_rfl) rfl
    (fun g fn hg hfn => by
      obtain rfl : g = 8 := Option.some.inj ((show Tryd.prog.funcNamed Rows.fnPacketUserRow.func = some 8 by kernel_rfl).symm.trans hg) |>.symm
      obtain rfl : fn = Tryd.f8 := (Option.some.inj (Tryd.func8.symm.trans hfn)).symm
      refine ⟨by kernel_rfl, fun j t ht => ?_⟩
      have h3 : ∀ t ∈ Tryd.f8.params.toList, Tryd.prog.wantsStandIn t = false := of_decide_eq_true (by kernel_rfl)
      exact h3 t (Array.mem_toList_iff.2 (Array.mem_of_getElem? ht)))
    (by kernel_rfl)
#print axioms fnPacketUser_card
end Go.Proofs.YtjbllfnfnkghgaaDoor
