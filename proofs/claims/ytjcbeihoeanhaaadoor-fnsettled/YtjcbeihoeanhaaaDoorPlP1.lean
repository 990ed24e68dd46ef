/- SumPlan of the model, for chain 1. -/
import Derived.Test.YtjcbeihoeanhaaaDoorUPlK
set_option maxHeartbeats 8000000
set_option maxRecDepth 100000
set_option linter.unusedVariables false
set_option linter.unusedSimpArgs false
namespace Go.Proofs.YtjcbeihoeanhaaaDoor
open Go.RowKit

theorem sumPlan_1 (g cp : Nat) (a b : ChM) (w : World) (hw : WAt w g a b) (ok : wkB2 a b = true) (j : Nat) (hj : j < b.past.length) (h : Int) (hh : h = (j : Int) + 1) (k9 : Nat) (hk9 : a.knows.length = k9 + 1) (hv9 : a.knows.getD k9 0 = h) :
  Calls Tryd.prog 85 #[.agg #[.slice (some ⟨g, 0, none⟩) 2 cp], .int .i64 1] w (RetPlan w (planL a (b.past.getD j stm0).x 1 h)) := by
 have hck := wk_parts ok
 have hkm := (kO_parts hck.1).1
 have hko := (kO_parts hck.2).1
 clear hck
 have hKn := (of_decide_eq_true hkm).2.2.2.2.2
 have hPa := (of_decide_eq_true hko).2.2.2.2.1
 have hSt := (of_decide_eq_true hkm).2.2.1
 have hys := hPa j hj
 have hyA := hw.rb.past _ (getD_mem' stm0 hj)
 obtain ⟨b1, o1, hpA, hb1, q0, q1, q2, q3, q4, q5, q6⟩ := hw.rb.row.at_ hj
 generalize b.past.getD j stm0 = y at *
 have h8 := st_fits hSt
 have y8 := st_fits hys
 obtain ⟨b2, o2, hkA, hb2, D2⟩ := hw.ra.knows.at_ (k := k9) (by omega)
 rw [hv9] at D2
 have hm9 := hw.ra.m4
 have hm8 := hw.rb.m3
 unfold maxLen at hm9 hm8
 have hnz : (((a.knows.length : Nat) : Int) == 0) = false := by rw [hk9]; simp; omega
 have hw9 : IntKind.i64.wrap ((a.knows.length : Int) - 1) = (k9 : Int) := by rw [show (a.knows.length : Int) - 1 = (k9 : Int) by omega]; exact IntWalk.i64_in _ (by omega)
 have hi9 : (k9 : Int) < (a.knows.length : Int) := by omega
 have hwj : IntKind.i64.wrap (h - 1) = (j : Int) := by rw [show h - 1 = (j : Int) by omega]; exact IntWalk.i64_in _ (by omega)
 have hij : (j : Int) < (b.past.length : Int) := by omega
 have g0 : w.cell? ⟨g, 0, none⟩ = some (.int .i64 a.id) := hw.cs 0 _ rfl
 have g1 : w.cell? ⟨g, 1, none⟩ = some (.slice a.bk.A1 a.bk.b.own.length a.bk.c1) := hw.cs 1 _ rfl
 have g2 : w.cell? ⟨g, 2, none⟩ = some (.slice a.bk.A2 a.bk.b.notes.length a.bk.c2) := hw.cs 2 _ rfl
 have g3 : w.cell? ⟨g, 3, none⟩ = some (.int .i64 a.bk.b.locked) := hw.cs 3 _ rfl
 have g4 : w.cell? ⟨g, 4, none⟩ = some (.int .i64 a.st.x.way) := hw.cs 4 _ rfl
 have g5 : w.cell? ⟨g, 5, none⟩ = some (.int .i64 a.st.x.ver) := hw.cs 5 _ rfl
 have g6 : w.cell? ⟨g, 6, none⟩ = some (.int .i64 a.st.x.want) := hw.cs 6 _ rfl
 have g7 : w.cell? ⟨g, 7, none⟩ = some (.slice a.st.A1 a.st.x.sent.length a.st.c1) := hw.cs 7 _ rfl
 have g8 : w.cell? ⟨g, 8, none⟩ = some (.slice a.st.A2 a.st.x.live.length a.st.c2) := hw.cs 8 _ rfl
 have g9 : w.cell? ⟨g, 9, none⟩ = some (.slice a.st.A3 a.st.x.back.length a.st.c3) := hw.cs 9 _ rfl
 have g10 : w.cell? ⟨g, 10, none⟩ = some (.slice a.st.A4 a.st.x.got.length a.st.c4) := hw.cs 10 _ rfl
 have g11 : w.cell? ⟨g, 11, none⟩ = some (.slice a.pA a.past.length a.pc) := hw.cs 11 _ rfl
 have g12 : w.cell? ⟨g, 12, none⟩ = some (.slice a.kA a.knows.length a.kc) := hw.cs 12 _ rfl
 have g13 : w.cell? ⟨g, 13, none⟩ = some (.int .i64 b.id) := hw.cs 13 _ rfl
 have g14 : w.cell? ⟨g, 14, none⟩ = some (.slice b.bk.A1 b.bk.b.own.length b.bk.c1) := hw.cs 14 _ rfl
 have g15 : w.cell? ⟨g, 15, none⟩ = some (.slice b.bk.A2 b.bk.b.notes.length b.bk.c2) := hw.cs 15 _ rfl
 have g16 : w.cell? ⟨g, 16, none⟩ = some (.int .i64 b.bk.b.locked) := hw.cs 16 _ rfl
 have g17 : w.cell? ⟨g, 17, none⟩ = some (.int .i64 b.st.x.way) := hw.cs 17 _ rfl
 have g18 : w.cell? ⟨g, 18, none⟩ = some (.int .i64 b.st.x.ver) := hw.cs 18 _ rfl
 have g19 : w.cell? ⟨g, 19, none⟩ = some (.int .i64 b.st.x.want) := hw.cs 19 _ rfl
 have g20 : w.cell? ⟨g, 20, none⟩ = some (.slice b.st.A1 b.st.x.sent.length b.st.c1) := hw.cs 20 _ rfl
 have g21 : w.cell? ⟨g, 21, none⟩ = some (.slice b.st.A2 b.st.x.live.length b.st.c2) := hw.cs 21 _ rfl
 have g22 : w.cell? ⟨g, 22, none⟩ = some (.slice b.st.A3 b.st.x.back.length b.st.c3) := hw.cs 22 _ rfl
 have g23 : w.cell? ⟨g, 23, none⟩ = some (.slice b.st.A4 b.st.x.got.length b.st.c4) := hw.cs 23 _ rfl
 have g24 : w.cell? ⟨g, 24, none⟩ = some (.slice b.pA b.past.length b.pc) := hw.cs 24 _ rfl
 have g25 : w.cell? ⟨g, 25, none⟩ = some (.slice b.kA b.knows.length b.kc) := hw.cs 25 _ rfl
 rw [hkA] at g12
 rw [hpA] at g24
 have lg := hw.lt
 have FC := hH (fun W (hk : Keeps noBlk w W) => l12Copy_any a W (hw.ra.kept hk) hkm)
 have FW := hH (fun W (hk : Keeps noBlk w W) => (show Calls Tryd.prog 94 #[.agg #[.slice (some ⟨g, 0, none⟩) 2 cp]] W (fun e w' => e = .returned (.bool true) ∧ Keeps noBlk W w') from by rw [← ok]; exact worldOk2_any g cp a b W (hw.keeps (S := noBlk) hk)))
 have FI := hH (fun W => (show Calls Tryd.prog 50 #[.int .i64 1, .int .i64 1, .int .i64 2] W (fun e w' => e = .returned (.bool true) ∧ W = w') from l6In_any 1 1 2 W))
 have HY := hH hyA
 have HS := hH hys
 have HB := hH hkm
 have HPS := hH hyA.1.1
 unfold ChM.val at FC
 rw [hkA] at FC
 have HE9 := hH hh
 clear hw ok hkm hko hKn hPa hSt hys hyA hh hk9 hv9 hkA hpA hj
 have HBV := hH (Box.new w _ rfl 87 #[.slice (some ⟨g, 0, none⟩) 2 cp])
 have HK := hH ((Keeps.refl noBlk w).alloc (.cells #[.slice (some ⟨g, 0, none⟩) 2 cp] 87))
 have n1 : ¬ g = w.heap.size := by omega
 have n2 : ¬ w.heap.size = g := by omega
 have n3 : g < w.heap.size + 1 := by omega
 have hlit := hH (owns_lit0 (w.alloc (.cells #[.slice (some ⟨g, 0, none⟩) 2 cp] 87)) (w.heap.size + 1) (by simp) 102 11)
 have HBV1 := hH (HBV.out.alloc (.cells #[] 102))
 have HK1 := hH (HK.out.alloc (.cells #[] 102))
 have hs1 : w.heap.size + 2 ≤ ((w.alloc (.cells #[.slice (some ⟨g, 0, none⟩) 2 cp] 87)).alloc (.cells #[] 102)).heap.size := by simp
 go_enter Tryd.func85, Tryd.ntmps85
 go_wp2_with fail
 generalize ((w.alloc (.cells #[.slice (some ⟨g, 0, none⟩) 2 cp] 87)).alloc (.cells #[] 102)) = W1 at hlit HBV1 HK1 hs1 ⊢
 clear HBV HK
 have V0 := HBV1.out.cell 0
 simp at V0
 refine (FW.out _ HK1.out).mono ?_
 rintro e w2 ⟨rfl, hk2⟩
 have HBV2 := hH (HBV1.out.keeps hk2 (fun h => h))
 have HK2 := hH (HK1.out.trans hk2)
 have HL2 := hH (owns_keeps hlit.out hk2 fun _ _ h => h)
 have hs2 := hk2.size
 clear hk2 V0 HBV1 HK1 hlit
 have V0 := HBV2.out.cell 0
 simp at V0
 go_wp2_with fail
 refine (FI.out _).mono ?_
 rintro e _ ⟨rfl, rfl⟩
 obtain ⟨y0, y1, y2, y3, y4, y5, y6, y7, y8, y9, y10, y11, y12, y13, y14, y15, y16, y17, y18, y19, y20, y21, y22, y23, y24, y25⟩ := kc26 HK2.out lg g0 g1 g2 g3 g4 g5 g6 g7 g8 g9 g10 g11 g12 g13 g14 g15 g16 g17 g18 g19 g20 g21 g22 g23 g24 g25
 have p0 := (HK2.out.cell hb1 (fun h => h)).trans q0
 have p1 := (HK2.out.cell hb1 (fun h => h)).trans q1
 have p2 := (HK2.out.cell hb1 (fun h => h)).trans q2
 have p3 := (HK2.out.cell hb1 (fun h => h)).trans q3
 have p4 := (HK2.out.cell hb1 (fun h => h)).trans q4
 have p5 := (HK2.out.cell hb1 (fun h => h)).trans q5
 have p6 := (HK2.out.cell hb1 (fun h => h)).trans q6
 have D3 := (HK2.out.cell hb2 (fun h => h)).trans D2
 have nb1 : ¬ b1 = w2.heap.size := by have := HK2.out.size; omega
 have nb2 : ¬ b2 = w2.heap.size := by have := HK2.out.size; omega
 have ng : ¬ g = w2.heap.size := by have := HK2.out.size; omega
 have lb1 : b1 < w2.heap.size := by have := HK2.out.size; omega
 have lb2 : b2 < w2.heap.size := by have := HK2.out.size; omega
 have lgg : g < w2.heap.size := by have := HK2.out.size; omega
 have lw : w.heap.size < w2.heap.size := by omega
 have nw : ¬ w.heap.size = w2.heap.size := by omega
 have : b1 < w2.heap.size + 1 := by omega
 have : b2 < w2.heap.size + 1 := by omega
 have : g < w2.heap.size + 1 := by omega
 have : w.heap.size < w2.heap.size + 1 := by omega
 go_wp2
 have HBc := hH ((Box.new w2 _ rfl 94 #[.int .i64 a.id, .slice a.bk.A1 a.bk.b.own.length a.bk.c1, .slice a.bk.A2 a.bk.b.notes.length a.bk.c2, .int .i64 a.bk.b.locked, .int .i64 a.st.x.way, .int .i64 a.st.x.ver, .int .i64 a.st.x.want, .slice a.st.A1 a.st.x.sent.length a.st.c1, .slice a.st.A2 a.st.x.live.length a.st.c2, .slice a.st.A3 a.st.x.back.length a.st.c3, .slice a.st.A4 a.st.x.got.length a.st.c4, .slice a.pA a.past.length a.pc, .slice (some ⟨b2, o2, none⟩) a.knows.length a.kc]).alloc (.cells (smC y) 27))
 have HBs := hH (Box.new (w2.alloc (.cells #[.int .i64 a.id, .slice a.bk.A1 a.bk.b.own.length a.bk.c1, .slice a.bk.A2 a.bk.b.notes.length a.bk.c2, .int .i64 a.bk.b.locked, .int .i64 a.st.x.way, .int .i64 a.st.x.ver, .int .i64 a.st.x.want, .slice a.st.A1 a.st.x.sent.length a.st.c1, .slice a.st.A2 a.st.x.live.length a.st.c2, .slice a.st.A3 a.st.x.back.length a.st.c3, .slice a.st.A4 a.st.x.got.length a.st.c4, .slice a.pA a.past.length a.pc, .slice (some ⟨b2, o2, none⟩) a.knows.length a.kc] 94)) (w2.heap.size + 1) (by simp) 27 (smC y))
 have HK3 := hH ((HK2.out.alloc (.cells #[.int .i64 a.id, .slice a.bk.A1 a.bk.b.own.length a.bk.c1, .slice a.bk.A2 a.bk.b.notes.length a.bk.c2, .int .i64 a.bk.b.locked, .int .i64 a.st.x.way, .int .i64 a.st.x.ver, .int .i64 a.st.x.want, .slice a.st.A1 a.st.x.sent.length a.st.c1, .slice a.st.A2 a.st.x.live.length a.st.c2, .slice a.st.A3 a.st.x.back.length a.st.c3, .slice a.st.A4 a.st.x.got.length a.st.c4, .slice a.pA a.past.length a.pc, .slice (some ⟨b2, o2, none⟩) a.knows.length a.kc] 94)).alloc (.cells (smC y) 27))
 have HL3 := hH (((HL2.out.alloc (.cells #[.int .i64 a.id, .slice a.bk.A1 a.bk.b.own.length a.bk.c1, .slice a.bk.A2 a.bk.b.notes.length a.bk.c2, .int .i64 a.bk.b.locked, .int .i64 a.st.x.way, .int .i64 a.st.x.ver, .int .i64 a.st.x.want, .slice a.st.A1 a.st.x.sent.length a.st.c1, .slice a.st.A2 a.st.x.live.length a.st.c2, .slice a.st.A3 a.st.x.back.length a.st.c3, .slice a.st.A4 a.st.x.got.length a.st.c4, .slice a.pA a.past.length a.pc, .slice (some ⟨b2, o2, none⟩) a.knows.length a.kc] 94)).alloc (.cells (smC y) 27)))
 have hs3 : w2.heap.size + 2 = ((w2.alloc (.cells #[.int .i64 a.id, .slice a.bk.A1 a.bk.b.own.length a.bk.c1, .slice a.bk.A2 a.bk.b.notes.length a.bk.c2, .int .i64 a.bk.b.locked, .int .i64 a.st.x.way, .int .i64 a.st.x.ver, .int .i64 a.st.x.want, .slice a.st.A1 a.st.x.sent.length a.st.c1, .slice a.st.A2 a.st.x.live.length a.st.c2, .slice a.st.A3 a.st.x.back.length a.st.c3, .slice a.st.A4 a.st.x.got.length a.st.c4, .slice a.pA a.past.length a.pc, .slice (some ⟨b2, o2, none⟩) a.knows.length a.kc] 94)).alloc (.cells (smC y) 27)).heap.size := by simp
 clear y0 y1 y2 y3 y4 y5 y6 y7 y8 y9 y10 y11 y12 y13 y14 y15 y16 y17 y18 y19 y20 y21 y22 y23 y24 y25 p0 p1 p2 p3 p4 p5 p6 D3 V0
 generalize ((w2.alloc (.cells #[.int .i64 a.id, .slice a.bk.A1 a.bk.b.own.length a.bk.c1, .slice a.bk.A2 a.bk.b.notes.length a.bk.c2, .int .i64 a.bk.b.locked, .int .i64 a.st.x.way, .int .i64 a.st.x.ver, .int .i64 a.st.x.want, .slice a.st.A1 a.st.x.sent.length a.st.c1, .slice a.st.A2 a.st.x.live.length a.st.c2, .slice a.st.A3 a.st.x.back.length a.st.c3, .slice a.st.A4 a.st.x.got.length a.st.c4, .slice a.pA a.past.length a.pc, .slice (some ⟨b2, o2, none⟩) a.knows.length a.kc] 94)).alloc (.cells (smC y) 27)) = P at HBc HBs HK3 HL3 hs3 ⊢
 go_loopg [5, 9] (y.x.sent.length) (fun gk V i wr => ∃ (k : Nat) (A : Option Addr) (c : Nat), k + gk = y.x.sent.length ∧ i = .int .i64 k ∧ V = .slice A (plG a y.x 1 h k).length c ∧ wr.ownsRow 0 102 11 (.slice A (plG a y.x 1 h k).length c) (plG a y.x 1 h k).length (vEs (plG a y.x 1 h k)) ∧ (∀ bq, (Value.slice A (plG a y.x 1 h k).length c).ownBlock = some bq → bq = w.heap.size + 1 ∨ P.heap.size ≤ bq) ∧ Keeps (fun b => b = w.heap.size + 1) P wr)
 case atStart => exact ⟨0, _, _, Nat.zero_add _, rfl, rfl, HL3.out, fun b hb => .inl (by rw [ownBlock_some] at hb; injection hb with hb; omega), Keeps.refl _ _⟩
 case round =>
  obtain ⟨k, A, c, hk, rfl, rfl, hown, hlo, hkp⟩ := hrel
  have HO := hH hown
  have HLO := hH hlo
  have HKP := hH hkp
  have HBc1 := hH (HBc.out.keeps hkp (fun h => by omega))
  have HBs1 := hH (HBs.out.keeps hkp (fun h => by omega))
  have HKW := hH (HK3.out.then hkp fun i hi h => by omega)
  have hsr := hkp.size
  clear hown hlo hkp
  have hll := plG_len a y.x 1 h k
  by_cases hlt : k < y.x.sent.length
  ·have hpk := pkok_of HS.out hlt
   have HGY := hH (@plG_yes a y.x 1 h k)
   have HGN := hH (@plG_no a y.x 1 h k)
   obtain ⟨b3, o3, hsA, hb3, e0, e1, e2, e3, e4, e5, e6⟩ := HPS.out.at_ hlt
   have HSA := hH hsA
   clear hsA
   generalize y.x.sent.getD k pk0 = p at *
   have HPK := hH hpk
   clear hpk
   have hb := HBc1.out
   obtain ⟨c0, c1, c2, c3, c4, c5, c6, c7, c8, c9, c10, c11, c12⟩ := hb.cells13
   have zc := hb.lt
   clear hb
   have hb := HBs1.out
   obtain ⟨s0, s1, s2, s3, s4, s5, s6⟩ := hb.cells7
   have zs := hb.lt
   clear hb
   have d0 := (HKW.out.cell hb3 (fun h => h)).trans e0
   have d1 := (HKW.out.cell hb3 (fun h => h)).trans e1
   have d2 := (HKW.out.cell hb3 (fun h => h)).trans e2
   have d3 := (HKW.out.cell hb3 (fun h => h)).trans e3
   have d4 := (HKW.out.cell hb3 (fun h => h)).trans e4
   have d5 := (HKW.out.cell hb3 (fun h => h)).trans e5
   have d6 := (HKW.out.cell hb3 (fun h => h)).trans e6
   rw [HSA.out] at s3
   have hikk : (k : Int) < (y.x.sent.length : Int) := by omega
   go_wp2_with fail
   have hsz9 : w2.heap.size + 2 ≤ wr.heap.size := by omega
   go_cut [10, 11] from 63 to 93 (fun sp so wx => ∃ o9 : Bool, so = .bool o9 ∧ o9 = (getOk a y.x p) ∧ Keeps noBlk wr wx)
   case first =>
    have TKv : True := trivial
    go_region_held3 (fun w' => w'.cell? ⟨w2.heap.size, 0, none⟩ = some (.int .i64 a.id) ∧ w'.cell? ⟨w2.heap.size, 1, none⟩ = some (.slice a.bk.A1 a.bk.b.own.length a.bk.c1) ∧ w'.cell? ⟨w2.heap.size, 2, none⟩ = some (.slice a.bk.A2 a.bk.b.notes.length a.bk.c2) ∧ w'.cell? ⟨w2.heap.size, 3, none⟩ = some (.int .i64 a.bk.b.locked) ∧ w'.cell? ⟨w2.heap.size, 4, none⟩ = some (.int .i64 a.st.x.way) ∧ w'.cell? ⟨w2.heap.size, 5, none⟩ = some (.int .i64 a.st.x.ver) ∧ w'.cell? ⟨w2.heap.size, 6, none⟩ = some (.int .i64 a.st.x.want) ∧ w'.cell? ⟨w2.heap.size, 7, none⟩ = some (.slice a.st.A1 a.st.x.sent.length a.st.c1) ∧ w'.cell? ⟨w2.heap.size, 8, none⟩ = some (.slice a.st.A2 a.st.x.live.length a.st.c2) ∧ w'.cell? ⟨w2.heap.size, 9, none⟩ = some (.slice a.st.A3 a.st.x.back.length a.st.c3) ∧ w'.cell? ⟨w2.heap.size, 10, none⟩ = some (.slice a.st.A4 a.st.x.got.length a.st.c4) ∧ w'.cell? ⟨w2.heap.size, 11, none⟩ = some (.slice a.pA a.past.length a.pc) ∧ w'.cell? ⟨w2.heap.size, 12, none⟩ = some (.slice (some ⟨b2, o2, none⟩) a.knows.length a.kc) ∧ w'.cell? ⟨w2.heap.size + 1, 0, none⟩ = some (.int .i64 y.x.way) ∧ w'.cell? ⟨w2.heap.size + 1, 1, none⟩ = some (.int .i64 y.x.ver) ∧ w'.cell? ⟨w2.heap.size + 1, 2, none⟩ = some (.int .i64 y.x.want) ∧ w'.cell? ⟨w2.heap.size + 1, 3, none⟩ = some (.slice (some ⟨b3, o3, none⟩) y.x.sent.length y.c1) ∧ w'.cell? ⟨w2.heap.size + 1, 4, none⟩ = some (.slice y.A2 y.x.live.length y.c2) ∧ w'.cell? ⟨w2.heap.size + 1, 5, none⟩ = some (.slice y.A3 y.x.back.length y.c3) ∧ w'.cell? ⟨w2.heap.size + 1, 6, none⟩ = some (.slice y.A4 y.x.got.length y.c4) ∧ w'.cell? ⟨b3, o3 + k * 7, none⟩ = some (.int .i64 p.s) ∧ w'.cell? ⟨b3, o3 + k * 7 + 1, none⟩ = some (.int .i64 p.k) ∧ w'.cell? ⟨b3, o3 + k * 7 + 2, none⟩ = some (.int .i64 p.f) ∧ w'.cell? ⟨b3, o3 + k * 7 + 3, none⟩ = some (.int .i64 p.t) ∧ w'.cell? ⟨b3, o3 + k * 7 + 4, none⟩ = some (.int .i64 p.m) ∧ w'.cell? ⟨b3, o3 + k * 7 + 5, none⟩ = some (.int .i64 p.u) ∧ w'.cell? ⟨b3, o3 + k * 7 + 6, none⟩ = some (.int .i64 p.v))
     (((try dsimp only); (repeat' apply And.intro) <;> (first | with_reducible assumption | (go_keep; done))))
     (first | (go_at_call 96; refine (FC.out _ (HKW.out.drewN 1)).mono ?_; rintro e u1 ⟨d, rfl, sm9, hk9, G, hG9, hch9⟩; dsimp only [ChM.val]; have szk := HKW.out.size; have hq := ((Keeps.refl noBlk wr).drewN 1).trans hk9; have hG8 : ∀ b, b < wr.heap.size → G b = 0 := fun b hb => hG9 b (by first | exact hb | (simp; omega)); have FB := hH (of_getP (p := p) (w0 := w) (Z := fun b => b < wr.heap.size) (fun b hb => hG8 b (by omega)) (fun b hb => .inr (hG8 b hb)) hch9 sm9 HB.out HS.out HY.out (HY.out.kept (HKW.out.trans hq)) HPK.out); unfold OfP at FB; obtain ⟨G1, hm9, hc9⟩ := FB.out; have HC9 := hH hc9; have HM9 := hH hm9; clear FB hm9 hc9; unfold ChM.val StM.val Pk.val at HC9; rw [HSA.out] at HC9; have hch8 := (hch9.ext (G' := up G u1.heap.size 0) fun b hb => up_old hb).kept ((Keeps.refl noBlk u1).alloc (.cells zC13 94)); have szq := hq.size; have FB := hH (of_getP (p := p) (w0 := w) (Z := fun b => b < wr.heap.size ∨ b = u1.heap.size) (fun b hb => (up_old (by omega)).trans (hG8 b (by omega))) (fun b hb => (by rcases hb with h | h; exact .inr ((up_old (by omega)).trans (hG8 b h)); exact .inr (up_new (by omega)))) hch8 sm9 HB.out HS.out HY.out (HY.out.kept ((HKW.out.trans hq).alloc (.cells zC13 94))) HPK.out); unfold OfP at FB; obtain ⟨G1, hm9, hc9⟩ := FB.out; have HC8 := hH hc9; have HM8 := hH hm9; clear FB hm9 hc9; unfold ChM.val StM.val Pk.val at HC8; rw [HSA.out] at HC8; clear hch8 szq; have HBc2 := hH (HBc1.out.keeps hq fun h => h); have HBs2 := hH (HBs1.out.keeps hq fun h => h); have HKW2 := hH (HKW.out.trans hq); have HKR2 := hH hq; have sz1 := hq.size; clear sm9 hk9 hq hG9 hch9 hG8 c0 c1 c2 c3 c4 c5 c6 c7 c8 c9 c10 c11 c12 zc s0 s1 s2 s3 s4 s5 s6 zs d0 d1 d2 d3 d4 d5 d6; have hb := HBc2.out; obtain ⟨c0, c1, c2, c3, c4, c5, c6, c7, c8, c9, c10, c11, c12⟩ := hb.cells13; have zc := hb.lt; clear hb; have hb := HBs2.out; obtain ⟨s0, s1, s2, s3, s4, s5, s6⟩ := hb.cells7; have zs := hb.lt; clear hb; have d0 := (HKW2.out.cell hb3 (fun h => h)).trans e0; have d1 := (HKW2.out.cell hb3 (fun h => h)).trans e1; have d2 := (HKW2.out.cell hb3 (fun h => h)).trans e2; have d3 := (HKW2.out.cell hb3 (fun h => h)).trans e3; have d4 := (HKW2.out.cell hb3 (fun h => h)).trans e4; have d5 := (HKW2.out.cell hb3 (fun h => h)).trans e5; have d6 := (HKW2.out.cell hb3 (fun h => h)).trans e6; rw [HSA.out] at s3) | (go_at_call 96; refine (FC.out _ ((HKW.out.alloc (.cells zC13 94)).drewN 1)).mono ?_; rintro e u1 ⟨d, rfl, sm9, hk9, G, hG9, hch9⟩; dsimp only [ChM.val]; have szk := HKW.out.size; clear TKv; have TKh0 : True := trivial; have : ¬ w2.heap.size = wr.heap.size := (by omega); have : ¬ wr.heap.size = w2.heap.size := (by omega); have : ¬ w2.heap.size + 1 = wr.heap.size := (by omega); have : ¬ wr.heap.size = w2.heap.size + 1 := (by omega); have : ¬ b3 = wr.heap.size := (by omega); have : ¬ wr.heap.size = b3 := (by omega); have hraw := ((Keeps.refl noBlk (wr.alloc (.cells zC13 94))).drewN 1).trans hk9; have HBv9 := hH ((Box.new wr _ rfl 94 zC13).keeps hraw (fun h => h)); have hq := ((Keeps.refl noBlk wr).alloc (.cells zC13 94)).trans hraw; have szr := hraw.size; (try simp at szr); clear hraw; have hG8 : ∀ b, b < wr.heap.size + 1 → G b = 0 := fun b hb => hG9 b (by first | exact hb | (simp; omega)); have FB := hH (of_getP (p := p) (w0 := w) (Z := fun b => b < wr.heap.size + 1) (fun b hb => hG8 b (by omega)) (fun b hb => .inr (hG8 b hb)) hch9 sm9 HB.out HS.out HY.out (HY.out.kept (HKW.out.trans hq)) HPK.out); unfold OfP at FB; obtain ⟨G1, hm9, hc9⟩ := FB.out; have HC9 := hH hc9; have HM9 := hH hm9; clear FB hm9 hc9; unfold ChM.val StM.val Pk.val at HC9; rw [HSA.out] at HC9; have HBc2 := hH (HBc1.out.keeps hq fun h => h); have HBs2 := hH (HBs1.out.keeps hq fun h => h); have HKW2 := hH (HKW.out.trans hq); have HKR2 := hH hq; have sz1 := hq.size; clear sm9 hk9 hq hG9 hch9 hG8 c0 c1 c2 c3 c4 c5 c6 c7 c8 c9 c10 c11 c12 zc s0 s1 s2 s3 s4 s5 s6 zs d0 d1 d2 d3 d4 d5 d6; have hb := HBc2.out; obtain ⟨c0, c1, c2, c3, c4, c5, c6, c7, c8, c9, c10, c11, c12⟩ := hb.cells13; have zc := hb.lt; clear hb; have hb := HBs2.out; obtain ⟨s0, s1, s2, s3, s4, s5, s6⟩ := hb.cells7; have zs := hb.lt; clear hb; have d0 := (HKW2.out.cell hb3 (fun h => h)).trans e0; have d1 := (HKW2.out.cell hb3 (fun h => h)).trans e1; have d2 := (HKW2.out.cell hb3 (fun h => h)).trans e2; have d3 := (HKW2.out.cell hb3 (fun h => h)).trans e3; have d4 := (HKW2.out.cell hb3 (fun h => h)).trans e4; have d5 := (HKW2.out.cell hb3 (fun h => h)).trans e5; have d6 := (HKW2.out.cell hb3 (fun h => h)).trans e6; rw [HSA.out] at s3; have hb := HBv9.out; obtain ⟨f90, f91, f92, f93, f94, f95, f96, f97, f98, f99, f910, f911, f912⟩ := hb.fz13; obtain ⟨v90, v91, v92, v93, v94, v95, v96, v97, v98, v99, v910, v911, v912⟩ := hb.cells13; have z9 := hb.lt; clear hb) | (go_at_call 95; have _t := TKh0; clear _t; refine HC9.out.mono ?_; rintro e u2 ⟨G2, rfl, hag, hch2, hk9⟩; dsimp only [ChM.val]; have hv := HBv9.out.keeps hk9 (fun h => HM9.out _ (by omega) h); clear HBv9 v90 f90 v91 f91 v92 f92 v93 f93 v94 f94 v95 f95 v96 f96 v97 f97 v98 f98 v99 f99 v910 f910 v911 f911 v912 f912 z9; have HBv9 := hH hv; clear hv; have HBc3 := hH (HBc2.out.keeps hk9 (fun h => HM9.out _ (by omega) h)); have HBs3 := hH (HBs2.out.keeps hk9 (fun h => HM9.out _ (by omega) h)); have HKW3 := hH (HKW2.out.then hk9 fun i hi h => HM9.out i (by omega) h); have HKR3 := hH (HKR2.out.then hk9 fun i hi h => HM9.out i (by omega) h); have sz2 := hk9.size; (try simp at sz2); clear hag hch2 hk9 c0 c1 c2 c3 c4 c5 c6 c7 c8 c9 c10 c11 c12 zc s0 s1 s2 s3 s4 s5 s6 zs d0 d1 d2 d3 d4 d5 d6; have hb := HBc3.out; obtain ⟨c0, c1, c2, c3, c4, c5, c6, c7, c8, c9, c10, c11, c12⟩ := hb.cells13; have zc := hb.lt; clear hb; have hb := HBs3.out; obtain ⟨s0, s1, s2, s3, s4, s5, s6⟩ := hb.cells7; have zs := hb.lt; clear hb; have d0 := (HKW3.out.cell hb3 (fun h => h)).trans e0; have d1 := (HKW3.out.cell hb3 (fun h => h)).trans e1; have d2 := (HKW3.out.cell hb3 (fun h => h)).trans e2; have d3 := (HKW3.out.cell hb3 (fun h => h)).trans e3; have d4 := (HKW3.out.cell hb3 (fun h => h)).trans e4; have d5 := (HKW3.out.cell hb3 (fun h => h)).trans e5; have d6 := (HKW3.out.cell hb3 (fun h => h)).trans e6; rw [HSA.out] at s3; have hb := HBv9.out; obtain ⟨f90, f91, f92, f93, f94, f95, f96, f97, f98, f99, f910, f911, f912⟩ := hb.fz13; obtain ⟨v90, v91, v92, v93, v94, v95, v96, v97, v98, v99, v910, v911, v912⟩ := hb.cells13; have z9 := hb.lt; clear hb) | (go_at_call 95; have _t := TKv; clear _t; refine HC9.out.mono ?_; rintro e u2 ⟨G2, rfl, hag, hch2, hk9⟩; dsimp only [ChM.val]; have HBc3 := hH (HBc2.out.keeps hk9 (fun h => HM9.out _ (by omega) h)); have HBs3 := hH (HBs2.out.keeps hk9 (fun h => HM9.out _ (by omega) h)); have HKW3 := hH (HKW2.out.then hk9 fun i hi h => HM9.out i (by omega) h); have HKR3 := hH (HKR2.out.then hk9 fun i hi h => HM9.out i (by omega) h); have sz2 := hk9.size; (try simp at sz2); clear hag hch2 hk9 c0 c1 c2 c3 c4 c5 c6 c7 c8 c9 c10 c11 c12 zc s0 s1 s2 s3 s4 s5 s6 zs d0 d1 d2 d3 d4 d5 d6; have hb := HBc3.out; obtain ⟨c0, c1, c2, c3, c4, c5, c6, c7, c8, c9, c10, c11, c12⟩ := hb.cells13; have zc := hb.lt; clear hb; have hb := HBs3.out; obtain ⟨s0, s1, s2, s3, s4, s5, s6⟩ := hb.cells7; have zs := hb.lt; clear hb; have d0 := (HKW3.out.cell hb3 (fun h => h)).trans e0; have d1 := (HKW3.out.cell hb3 (fun h => h)).trans e1; have d2 := (HKW3.out.cell hb3 (fun h => h)).trans e2; have d3 := (HKW3.out.cell hb3 (fun h => h)).trans e3; have d4 := (HKW3.out.cell hb3 (fun h => h)).trans e4; have d5 := (HKW3.out.cell hb3 (fun h => h)).trans e5; have d6 := (HKW3.out.cell hb3 (fun h => h)).trans e6; rw [HSA.out] at s3) | (go_at_call 95; have _t := TKv; clear _t; refine HC8.out.mono ?_; rintro e u2 ⟨G2, rfl, hag, hch2, hk9⟩; dsimp only [ChM.val]; clear TKv; have TKh1 : True := trivial; have : ¬ w2.heap.size = u1.heap.size := (by omega); have : ¬ u1.heap.size = w2.heap.size := (by omega); have : ¬ w2.heap.size + 1 = u1.heap.size := (by omega); have : ¬ u1.heap.size = w2.heap.size + 1 := (by omega); have : ¬ b3 = u1.heap.size := (by omega); have : ¬ u1.heap.size = b3 := (by omega); have HBv9 := hH ((Box.new u1 _ rfl 94 zC13).keeps hk9 (fun h => HM8.out _ (.inr rfl) h)); have HBc3 := hH ((HBc2.out.alloc (.cells zC13 94)).keeps hk9 (fun h => HM8.out _ (.inl (by omega)) h)); have HBs3 := hH ((HBs2.out.alloc (.cells zC13 94)).keeps hk9 (fun h => HM8.out _ (.inl (by omega)) h)); have HKW3 := hH ((HKW2.out.alloc (.cells zC13 94)).then hk9 fun i hi h => HM8.out i (.inl (by omega)) h); have HKR3 := hH ((HKR2.out.alloc (.cells zC13 94)).then hk9 fun i hi h => HM8.out i (.inl (by omega)) h); have sz2 := hk9.size; (try simp at sz2); clear hag hch2 hk9 c0 c1 c2 c3 c4 c5 c6 c7 c8 c9 c10 c11 c12 zc s0 s1 s2 s3 s4 s5 s6 zs d0 d1 d2 d3 d4 d5 d6; have hb := HBc3.out; obtain ⟨c0, c1, c2, c3, c4, c5, c6, c7, c8, c9, c10, c11, c12⟩ := hb.cells13; have zc := hb.lt; clear hb; have hb := HBs3.out; obtain ⟨s0, s1, s2, s3, s4, s5, s6⟩ := hb.cells7; have zs := hb.lt; clear hb; have d0 := (HKW3.out.cell hb3 (fun h => h)).trans e0; have d1 := (HKW3.out.cell hb3 (fun h => h)).trans e1; have d2 := (HKW3.out.cell hb3 (fun h => h)).trans e2; have d3 := (HKW3.out.cell hb3 (fun h => h)).trans e3; have d4 := (HKW3.out.cell hb3 (fun h => h)).trans e4; have d5 := (HKW3.out.cell hb3 (fun h => h)).trans e5; have d6 := (HKW3.out.cell hb3 (fun h => h)).trans e6; rw [HSA.out] at s3; have hb := HBv9.out; obtain ⟨f90, f91, f92, f93, f94, f95, f96, f97, f98, f99, f910, f911, f912⟩ := hb.fz13; obtain ⟨v90, v91, v92, v93, v94, v95, v96, v97, v98, v99, v910, v911, v912⟩ := hb.cells13; have z9 := hb.lt; clear hb))
    all_goals go_wp2_with fail
    all_goals go_meet
    all_goals first | (have _t := TKv; exact ⟨_, rfl, rfl, HKR3.out.alloc _⟩) | (have _t := TKh0; exact ⟨_, rfl, rfl, (HKR3.out.new13 (g := wr.heap.size) (Nat.le_refl _))⟩) | (have _t := TKh1; exact ⟨_, rfl, rfl, (HKR3.out.new13 (g := u1.heap.size) (by omega))⟩)
   case rest =>
    obtain ⟨_, rfl, rfl, hkq⟩ := hcut
    obtain ⟨wc9, hww⟩ : ∃ x, x = wc := ⟨_, rfl⟩
    subst hww
    clear c0 c1 c2 c3 c4 c5 c6 c7 c8 c9 c10 c11 c12 zc s0 s1 s2 s3 s4 s5 s6 zs d0 d1 d2 d3 d4 d5 d6
    generalize getOk a y.x p = o9 at HGY HGN ⊢
    cases o9 with
    | true =>
     have HGE := hH (HGY.out rfl)
     clear HGY HGN
     have HO3 := hH (owns_keeps HO.out hkq fun _ _ h => h)
     have HKW3 := hH (HKW.out.trans hkq)
     have HKR4 := hH hkq
     have hb := HBs1.out.keeps hkq (fun h => h)
     obtain ⟨t0, t1, t2, t3, t4, t5, t6⟩ := hb.cells7
     have zt := hb.lt
     clear hb
     rw [HSA.out] at t3
     have f0 := (HKW3.out.cell hb3 (fun h => h)).trans e0
     have f1 := (HKW3.out.cell hb3 (fun h => h)).trans e1
     have f2 := (HKW3.out.cell hb3 (fun h => h)).trans e2
     have f3 := (HKW3.out.cell hb3 (fun h => h)).trans e3
     have f4 := (HKW3.out.cell hb3 (fun h => h)).trans e4
     have f5 := (HKW3.out.cell hb3 (fun h => h)).trans e5
     have f6 := (HKW3.out.cell hb3 (fun h => h)).trans e6
     have sz4 := hkq.size
     clear hkq
     go_wp2_with (at_builtin; refine wpList_app1 _ rfl _ _ 84 rfl 102 (.agg zC11) 11 88 Tryd.underlying84 info_ev rfl (by decide) (by decide) _ _ _ rfl HO3.out _ rfl (evC 4 1 h 0 p) _ rfl rfl rfl ?qd ?qe ?_)
     case qd => first | exact one_ev (e := ⟨4, 1, h, 0, p⟩) | (repeat' (first | rfl | apply And.intro))
     case qe => omega
     intro A' c' w5 ho5 hk5 hf5
     go_wp2
     have hkn : Keeps (fun b => b = w.heap.size + 1) P w5 := (HKP.out.trans (HKR4.out.more fun _ _ h => h.elim)).then hk5 fun i hi h => by rcases HLO.out i h with h | h <;> omega
     go_roundg (gk - 1)
     case measure => omega
     case rel =>
     refine ⟨k + 1, A', c', by omega, by go_num, ?_, ?_, ?_, hkn⟩
     ·rw [HGE.out, List.length_append, List.length_singleton]
     ·rw [HGE.out, List.length_append, List.length_singleton, vEs_snoc]; exact ho5
     ·intro b hb
      rw [HGE.out, List.length_append, List.length_singleton] at hb
      rcases hf5 b hb with h | h
      ·exact HLO.out b h
      ·right; have := HKR4.out.size; omega
    | false =>
     have HGE := hH (HGN.out rfl)
     clear HGY HGN
     have HO3 := hH (owns_keeps HO.out hkq fun _ _ h => h)
     have HKW3 := hH (HKW.out.trans hkq)
     have HKR4 := hH hkq
     have hb := HBs1.out.keeps hkq (fun h => h)
     obtain ⟨t0, t1, t2, t3, t4, t5, t6⟩ := hb.cells7
     have zt := hb.lt
     clear hb
     rw [HSA.out] at t3
     have f0 := (HKW3.out.cell hb3 (fun h => h)).trans e0
     have f1 := (HKW3.out.cell hb3 (fun h => h)).trans e1
     have f2 := (HKW3.out.cell hb3 (fun h => h)).trans e2
     have f3 := (HKW3.out.cell hb3 (fun h => h)).trans e3
     have f4 := (HKW3.out.cell hb3 (fun h => h)).trans e4
     have f5 := (HKW3.out.cell hb3 (fun h => h)).trans e5
     have f6 := (HKW3.out.cell hb3 (fun h => h)).trans e6
     have sz4 := hkq.size
     clear hkq
     go_wp2
     go_roundg (gk - 1)
     case measure => omega
     case rel =>
     refine ⟨k + 1, A, c, by omega, by go_num, ?_, ?_, ?_, HKP.out.trans (HKR4.out.more fun _ _ h => h.elim)⟩
     ·rw [HGE.out]
     ·rw [HGE.out]; exact HO3.out
     ·rw [HGE.out]; exact HLO.out
  ·obtain rfl : k = y.x.sent.length := by omega
   have H0 := hH (show wr.ownsRow 0 102 11 (.slice A (plG a y.x 1 h y.x.sent.length ++ plT a y.x 1 h 0).length c) (plG a y.x 1 h y.x.sent.length ++ plT a y.x 1 h 0).length (vEs (plG a y.x 1 h y.x.sent.length ++ plT a y.x 1 h 0)) from by have e : plG a y.x 1 h y.x.sent.length ++ plT a y.x 1 h 0 = plG a y.x 1 h y.x.sent.length := List.append_nil _; rw [e]; exact HO.out)
   have HE0 := hH (show plG a y.x 1 h y.x.sent.length ++ plT a y.x 1 h 0 = plG a y.x 1 h y.x.sent.length from List.append_nil _)
   have hb := HBc1.out
   obtain ⟨c0, c1, c2, c3, c4, c5, c6, c7, c8, c9, c10, c11, c12⟩ := hb.cells13
   have zc := hb.lt
   clear hb
   have hb := HBs1.out
   obtain ⟨s0, s1, s2, s3, s4, s5, s6⟩ := hb.cells7
   have zs := hb.lt
   clear hb
   go_wp2
   clear c0 c1 c2 c3 c4 c5 c6 c7 c8 c9 c10 c11 c12 zc s0 s1 s2 s3 s4 s5 s6 zs
   go_loopg [5, 12] (a.st.x.sent.length) (fun gk V i wr => ∃ (k : Nat) (A : Option Addr) (c : Nat), k + gk = a.st.x.sent.length ∧ i = .int .i64 ((k : Int) + 1) ∧ V = .slice A (plG a y.x 1 h y.x.sent.length ++ plT a y.x 1 h k).length c ∧ wr.ownsRow 0 102 11 (.slice A (plG a y.x 1 h y.x.sent.length ++ plT a y.x 1 h k).length c) (plG a y.x 1 h y.x.sent.length ++ plT a y.x 1 h k).length (vEs (plG a y.x 1 h y.x.sent.length ++ plT a y.x 1 h k)) ∧ (∀ bq, (Value.slice A (plG a y.x 1 h y.x.sent.length ++ plT a y.x 1 h k).length c).ownBlock = some bq → bq = w.heap.size + 1 ∨ P.heap.size ≤ bq) ∧ Keeps (fun b => b = w.heap.size + 1) P wr)
   case atStart => exact ⟨0, A, c, Nat.zero_add _, rfl, by rw [HE0.out], H0.out, by rw [HE0.out]; exact HLO.out, HKP.out⟩
   case round =>
    clear HO HLO HKP HBc1 HBs1 HKW hsr H0 HE0 hll
    obtain ⟨k, A, c, hk, rfl, rfl, hown, hlo, hkp⟩ := hrel
    have HO := hH hown
    have HLO := hH hlo
    have HKP := hH hkp
    have HBc1 := hH (HBc.out.keeps hkp (fun h => by omega))
    have HBs1 := hH (HBs.out.keeps hkp (fun h => by omega))
    have HKW := hH (HK3.out.then hkp fun i hi h => by omega)
    have hsr := hkp.size
    clear hown hlo hkp
    have hl1 := plG_len a y.x 1 h y.x.sent.length
    have hl2 := plT_len a y.x 1 h k
    have HST := hH (plT_step a y.x 1 h k)
    have hlL : (plG a y.x 1 h y.x.sent.length ++ plT a y.x 1 h k).length ≤ 30 := by rw [List.length_append]; omega
    generalize hL : (plG a y.x 1 h y.x.sent.length ++ plT a y.x 1 h k) = L at HO HLO hlL ⊢
    have HLe := hH hL
    clear hL
    have hb := HBc1.out
    obtain ⟨c0, c1, c2, c3, c4, c5, c6, c7, c8, c9, c10, c11, c12⟩ := hb.cells13
    have zc := hb.lt
    clear hb
    have hb := HBs1.out
    obtain ⟨s0, s1, s2, s3, s4, s5, s6⟩ := hb.cells7
    have zs := hb.lt
    clear hb
    by_cases hlt : k < a.st.x.sent.length
    ·have hle : ((k : Int) + 1) ≤ (a.st.x.sent.length : Int) := by omega
     have hsz9 : w2.heap.size + 2 ≤ wr.heap.size := by omega
     go_upto_region 16 with fail
     go_cut [13, 14] from 94 to 134 (fun sp so wx => ∃ o9 : Bool, so = .bool o9 ∧ o9 = (tellB a.st.x y.x ((k : Int) + 1)) ∧ Keeps noBlk wr wx)
     case first =>
      have TKv : True := trivial
      go_region_held3 (fun w' => w'.cell? ⟨w2.heap.size, 0, none⟩ = some (.int .i64 a.id) ∧ w'.cell? ⟨w2.heap.size, 1, none⟩ = some (.slice a.bk.A1 a.bk.b.own.length a.bk.c1) ∧ w'.cell? ⟨w2.heap.size, 2, none⟩ = some (.slice a.bk.A2 a.bk.b.notes.length a.bk.c2) ∧ w'.cell? ⟨w2.heap.size, 3, none⟩ = some (.int .i64 a.bk.b.locked) ∧ w'.cell? ⟨w2.heap.size, 4, none⟩ = some (.int .i64 a.st.x.way) ∧ w'.cell? ⟨w2.heap.size, 5, none⟩ = some (.int .i64 a.st.x.ver) ∧ w'.cell? ⟨w2.heap.size, 6, none⟩ = some (.int .i64 a.st.x.want) ∧ w'.cell? ⟨w2.heap.size, 7, none⟩ = some (.slice a.st.A1 a.st.x.sent.length a.st.c1) ∧ w'.cell? ⟨w2.heap.size, 8, none⟩ = some (.slice a.st.A2 a.st.x.live.length a.st.c2) ∧ w'.cell? ⟨w2.heap.size, 9, none⟩ = some (.slice a.st.A3 a.st.x.back.length a.st.c3) ∧ w'.cell? ⟨w2.heap.size, 10, none⟩ = some (.slice a.st.A4 a.st.x.got.length a.st.c4) ∧ w'.cell? ⟨w2.heap.size, 11, none⟩ = some (.slice a.pA a.past.length a.pc) ∧ w'.cell? ⟨w2.heap.size, 12, none⟩ = some (.slice (some ⟨b2, o2, none⟩) a.knows.length a.kc) ∧ w'.cell? ⟨w2.heap.size + 1, 0, none⟩ = some (.int .i64 y.x.way) ∧ w'.cell? ⟨w2.heap.size + 1, 1, none⟩ = some (.int .i64 y.x.ver) ∧ w'.cell? ⟨w2.heap.size + 1, 2, none⟩ = some (.int .i64 y.x.want) ∧ w'.cell? ⟨w2.heap.size + 1, 3, none⟩ = some (.slice y.A1 y.x.sent.length y.c1) ∧ w'.cell? ⟨w2.heap.size + 1, 4, none⟩ = some (.slice y.A2 y.x.live.length y.c2) ∧ w'.cell? ⟨w2.heap.size + 1, 5, none⟩ = some (.slice y.A3 y.x.back.length y.c3) ∧ w'.cell? ⟨w2.heap.size + 1, 6, none⟩ = some (.slice y.A4 y.x.got.length y.c4))
       (((try dsimp only); (repeat' apply And.intro) <;> (first | with_reducible assumption | (go_keep; done))))
       (first | (go_at_call 96; refine (FC.out _ (HKW.out.drewN 1)).mono ?_; rintro e u1 ⟨d, rfl, sm9, hk9, G, hG9, hch9⟩; dsimp only [ChM.val]; have szk := HKW.out.size; have hq := ((Keeps.refl noBlk wr).drewN 1).trans hk9; have hG8 : ∀ b, b < wr.heap.size → G b = 0 := fun b hb => hG9 b (by first | exact hb | (simp; omega)); have FB := hH (of_tellP (q := (k : Int) + 1) (w0 := w) (Z := fun b => b < wr.heap.size) (fun b hb => hG8 b (by omega)) (fun b hb => .inr (hG8 b hb)) hch9 sm9 HB.out HS.out HY.out (HY.out.kept (HKW.out.trans hq))); unfold OfP at FB; obtain ⟨G1, hm9, hc9⟩ := FB.out; have HC9 := hH hc9; have HM9 := hH hm9; clear FB hm9 hc9; unfold ChM.val StM.val at HC9; have hch8 := (hch9.ext (G' := up G u1.heap.size 0) fun b hb => up_old hb).kept ((Keeps.refl noBlk u1).alloc (.cells zC13 94)); have szq := hq.size; have FB := hH (of_tellP (q := (k : Int) + 1) (w0 := w) (Z := fun b => b < wr.heap.size ∨ b = u1.heap.size) (fun b hb => (up_old (by omega)).trans (hG8 b (by omega))) (fun b hb => (by rcases hb with h | h; exact .inr ((up_old (by omega)).trans (hG8 b h)); exact .inr (up_new (by omega)))) hch8 sm9 HB.out HS.out HY.out (HY.out.kept ((HKW.out.trans hq).alloc (.cells zC13 94)))); unfold OfP at FB; obtain ⟨G1, hm9, hc9⟩ := FB.out; have HC8 := hH hc9; have HM8 := hH hm9; clear FB hm9 hc9; unfold ChM.val StM.val at HC8; clear hch8 szq; have HBc2 := hH (HBc1.out.keeps hq fun h => h); have HBs2 := hH (HBs1.out.keeps hq fun h => h); have HKW2 := hH (HKW.out.trans hq); have HKR2 := hH hq; have sz1 := hq.size; clear sm9 hk9 hq hG9 hch9 hG8 c0 c1 c2 c3 c4 c5 c6 c7 c8 c9 c10 c11 c12 zc s0 s1 s2 s3 s4 s5 s6 zs; have hb := HBc2.out; obtain ⟨c0, c1, c2, c3, c4, c5, c6, c7, c8, c9, c10, c11, c12⟩ := hb.cells13; have zc := hb.lt; clear hb; have hb := HBs2.out; obtain ⟨s0, s1, s2, s3, s4, s5, s6⟩ := hb.cells7; have zs := hb.lt; clear hb) | (go_at_call 96; refine (FC.out _ ((HKW.out.alloc (.cells zC13 94)).drewN 1)).mono ?_; rintro e u1 ⟨d, rfl, sm9, hk9, G, hG9, hch9⟩; dsimp only [ChM.val]; have szk := HKW.out.size; clear TKv; have TKh0 : True := trivial; have : ¬ w2.heap.size = wr.heap.size := (by omega); have : ¬ wr.heap.size = w2.heap.size := (by omega); have : ¬ w2.heap.size + 1 = wr.heap.size := (by omega); have : ¬ wr.heap.size = w2.heap.size + 1 := (by omega); have hraw := ((Keeps.refl noBlk (wr.alloc (.cells zC13 94))).drewN 1).trans hk9; have HBv9 := hH ((Box.new wr _ rfl 94 zC13).keeps hraw (fun h => h)); have hq := ((Keeps.refl noBlk wr).alloc (.cells zC13 94)).trans hraw; have szr := hraw.size; (try simp at szr); clear hraw; have hG8 : ∀ b, b < wr.heap.size + 1 → G b = 0 := fun b hb => hG9 b (by first | exact hb | (simp; omega)); have FB := hH (of_tellP (q := (k : Int) + 1) (w0 := w) (Z := fun b => b < wr.heap.size + 1) (fun b hb => hG8 b (by omega)) (fun b hb => .inr (hG8 b hb)) hch9 sm9 HB.out HS.out HY.out (HY.out.kept (HKW.out.trans hq))); unfold OfP at FB; obtain ⟨G1, hm9, hc9⟩ := FB.out; have HC9 := hH hc9; have HM9 := hH hm9; clear FB hm9 hc9; unfold ChM.val StM.val at HC9; have HBc2 := hH (HBc1.out.keeps hq fun h => h); have HBs2 := hH (HBs1.out.keeps hq fun h => h); have HKW2 := hH (HKW.out.trans hq); have HKR2 := hH hq; have sz1 := hq.size; clear sm9 hk9 hq hG9 hch9 hG8 c0 c1 c2 c3 c4 c5 c6 c7 c8 c9 c10 c11 c12 zc s0 s1 s2 s3 s4 s5 s6 zs; have hb := HBc2.out; obtain ⟨c0, c1, c2, c3, c4, c5, c6, c7, c8, c9, c10, c11, c12⟩ := hb.cells13; have zc := hb.lt; clear hb; have hb := HBs2.out; obtain ⟨s0, s1, s2, s3, s4, s5, s6⟩ := hb.cells7; have zs := hb.lt; clear hb; have hb := HBv9.out; obtain ⟨f90, f91, f92, f93, f94, f95, f96, f97, f98, f99, f910, f911, f912⟩ := hb.fz13; obtain ⟨v90, v91, v92, v93, v94, v95, v96, v97, v98, v99, v910, v911, v912⟩ := hb.cells13; have z9 := hb.lt; clear hb) | (go_at_call 97; have _t := TKh0; clear _t; refine HC9.out.mono ?_; rintro e u2 ⟨G2, rfl, hag, hch2, hk9⟩; dsimp only [ChM.val]; have hv := HBv9.out.keeps hk9 (fun h => HM9.out _ (by omega) h); clear HBv9 v90 f90 v91 f91 v92 f92 v93 f93 v94 f94 v95 f95 v96 f96 v97 f97 v98 f98 v99 f99 v910 f910 v911 f911 v912 f912 z9; have HBv9 := hH hv; clear hv; have HBc3 := hH (HBc2.out.keeps hk9 (fun h => HM9.out _ (by omega) h)); have HBs3 := hH (HBs2.out.keeps hk9 (fun h => HM9.out _ (by omega) h)); have HKW3 := hH (HKW2.out.then hk9 fun i hi h => HM9.out i (by omega) h); have HKR3 := hH (HKR2.out.then hk9 fun i hi h => HM9.out i (by omega) h); have sz2 := hk9.size; (try simp at sz2); clear hag hch2 hk9 c0 c1 c2 c3 c4 c5 c6 c7 c8 c9 c10 c11 c12 zc s0 s1 s2 s3 s4 s5 s6 zs; have hb := HBc3.out; obtain ⟨c0, c1, c2, c3, c4, c5, c6, c7, c8, c9, c10, c11, c12⟩ := hb.cells13; have zc := hb.lt; clear hb; have hb := HBs3.out; obtain ⟨s0, s1, s2, s3, s4, s5, s6⟩ := hb.cells7; have zs := hb.lt; clear hb; have hb := HBv9.out; obtain ⟨f90, f91, f92, f93, f94, f95, f96, f97, f98, f99, f910, f911, f912⟩ := hb.fz13; obtain ⟨v90, v91, v92, v93, v94, v95, v96, v97, v98, v99, v910, v911, v912⟩ := hb.cells13; have z9 := hb.lt; clear hb) | (go_at_call 97; have _t := TKv; clear _t; refine HC9.out.mono ?_; rintro e u2 ⟨G2, rfl, hag, hch2, hk9⟩; dsimp only [ChM.val]; have HBc3 := hH (HBc2.out.keeps hk9 (fun h => HM9.out _ (by omega) h)); have HBs3 := hH (HBs2.out.keeps hk9 (fun h => HM9.out _ (by omega) h)); have HKW3 := hH (HKW2.out.then hk9 fun i hi h => HM9.out i (by omega) h); have HKR3 := hH (HKR2.out.then hk9 fun i hi h => HM9.out i (by omega) h); have sz2 := hk9.size; (try simp at sz2); clear hag hch2 hk9 c0 c1 c2 c3 c4 c5 c6 c7 c8 c9 c10 c11 c12 zc s0 s1 s2 s3 s4 s5 s6 zs; have hb := HBc3.out; obtain ⟨c0, c1, c2, c3, c4, c5, c6, c7, c8, c9, c10, c11, c12⟩ := hb.cells13; have zc := hb.lt; clear hb; have hb := HBs3.out; obtain ⟨s0, s1, s2, s3, s4, s5, s6⟩ := hb.cells7; have zs := hb.lt; clear hb) | (go_at_call 97; have _t := TKv; clear _t; refine HC8.out.mono ?_; rintro e u2 ⟨G2, rfl, hag, hch2, hk9⟩; dsimp only [ChM.val]; clear TKv; have TKh1 : True := trivial; have : ¬ w2.heap.size = u1.heap.size := (by omega); have : ¬ u1.heap.size = w2.heap.size := (by omega); have : ¬ w2.heap.size + 1 = u1.heap.size := (by omega); have : ¬ u1.heap.size = w2.heap.size + 1 := (by omega); have HBv9 := hH ((Box.new u1 _ rfl 94 zC13).keeps hk9 (fun h => HM8.out _ (.inr rfl) h)); have HBc3 := hH ((HBc2.out.alloc (.cells zC13 94)).keeps hk9 (fun h => HM8.out _ (.inl (by omega)) h)); have HBs3 := hH ((HBs2.out.alloc (.cells zC13 94)).keeps hk9 (fun h => HM8.out _ (.inl (by omega)) h)); have HKW3 := hH ((HKW2.out.alloc (.cells zC13 94)).then hk9 fun i hi h => HM8.out i (.inl (by omega)) h); have HKR3 := hH ((HKR2.out.alloc (.cells zC13 94)).then hk9 fun i hi h => HM8.out i (.inl (by omega)) h); have sz2 := hk9.size; (try simp at sz2); clear hag hch2 hk9 c0 c1 c2 c3 c4 c5 c6 c7 c8 c9 c10 c11 c12 zc s0 s1 s2 s3 s4 s5 s6 zs; have hb := HBc3.out; obtain ⟨c0, c1, c2, c3, c4, c5, c6, c7, c8, c9, c10, c11, c12⟩ := hb.cells13; have zc := hb.lt; clear hb; have hb := HBs3.out; obtain ⟨s0, s1, s2, s3, s4, s5, s6⟩ := hb.cells7; have zs := hb.lt; clear hb; have hb := HBv9.out; obtain ⟨f90, f91, f92, f93, f94, f95, f96, f97, f98, f99, f910, f911, f912⟩ := hb.fz13; obtain ⟨v90, v91, v92, v93, v94, v95, v96, v97, v98, v99, v910, v911, v912⟩ := hb.cells13; have z9 := hb.lt; clear hb))
      all_goals go_wp2_with fail
      all_goals go_meet
      all_goals first | (have _t := TKv; exact ⟨_, rfl, rfl, HKR3.out.alloc _⟩) | (have _t := TKh0; exact ⟨_, rfl, rfl, (HKR3.out.new13 (g := wr.heap.size) (Nat.le_refl _))⟩) | (have _t := TKh1; exact ⟨_, rfl, rfl, (HKR3.out.new13 (g := u1.heap.size) (by omega))⟩)
     case rest =>
      obtain ⟨_, rfl, rfl, hkq⟩ := hcut
      obtain ⟨W5, hww⟩ : ∃ x, x = wc := ⟨_, rfl⟩
      subst hww
      clear c0 c1 c2 c3 c4 c5 c6 c7 c8 c9 c10 c11 c12 zc s0 s1 s2 s3 s4 s5 s6 zs
      have HO3 := hH (owns_keeps HO.out hkq fun _ _ h => h)
      have HKW4 := hH (HKW.out.trans hkq)
      have HBc4 := hH (HBc1.out.keeps hkq fun h => h)
      have HBs4 := hH (HBs1.out.keeps hkq fun h => h)
      have HKP4 := hH (HKP.out.trans (hkq.more fun _ _ h => h.elim))
      have hsr5 : P.heap.size ≤ W5.heap.size := HKP4.out.size
      clear hkq HBc1 HBs1 HKW HO HKP hsz9
      (try clear sz1)
      (try clear sz2)
      have HBc1 := HBc4
      have HBs1 := HBs4
      have HKW := HKW4
      have HO := HO3
      have HKP := HKP4
      clear HBc4 HBs4 HKW4 HO3 HKP4
      have hsz9 : w2.heap.size + 2 ≤ W5.heap.size := by omega
      have hb := HBc1.out
      obtain ⟨c0, c1, c2, c3, c4, c5, c6, c7, c8, c9, c10, c11, c12⟩ := hb.cells13
      have zc := hb.lt
      clear hb
      have hb := HBs1.out
      obtain ⟨s0, s1, s2, s3, s4, s5, s6⟩ := hb.cells7
      have zs := hb.lt
      clear hb
      go_upto_region 17 with fail
      go_cut [15, 16] from 94 to 134 (fun sp so wx => ∃ o9 : Bool, so = .bool o9 ∧ o9 = (lateB a.st.x y.x h ((k : Int) + 1)) ∧ Keeps noBlk W5 wx)
      case first =>
       have TKv : True := trivial
       go_region_held3 (fun w' => w'.cell? ⟨w2.heap.size, 0, none⟩ = some (.int .i64 a.id) ∧ w'.cell? ⟨w2.heap.size, 1, none⟩ = some (.slice a.bk.A1 a.bk.b.own.length a.bk.c1) ∧ w'.cell? ⟨w2.heap.size, 2, none⟩ = some (.slice a.bk.A2 a.bk.b.notes.length a.bk.c2) ∧ w'.cell? ⟨w2.heap.size, 3, none⟩ = some (.int .i64 a.bk.b.locked) ∧ w'.cell? ⟨w2.heap.size, 4, none⟩ = some (.int .i64 a.st.x.way) ∧ w'.cell? ⟨w2.heap.size, 5, none⟩ = some (.int .i64 a.st.x.ver) ∧ w'.cell? ⟨w2.heap.size, 6, none⟩ = some (.int .i64 a.st.x.want) ∧ w'.cell? ⟨w2.heap.size, 7, none⟩ = some (.slice a.st.A1 a.st.x.sent.length a.st.c1) ∧ w'.cell? ⟨w2.heap.size, 8, none⟩ = some (.slice a.st.A2 a.st.x.live.length a.st.c2) ∧ w'.cell? ⟨w2.heap.size, 9, none⟩ = some (.slice a.st.A3 a.st.x.back.length a.st.c3) ∧ w'.cell? ⟨w2.heap.size, 10, none⟩ = some (.slice a.st.A4 a.st.x.got.length a.st.c4) ∧ w'.cell? ⟨w2.heap.size, 11, none⟩ = some (.slice a.pA a.past.length a.pc) ∧ w'.cell? ⟨w2.heap.size, 12, none⟩ = some (.slice (some ⟨b2, o2, none⟩) a.knows.length a.kc) ∧ w'.cell? ⟨w2.heap.size + 1, 0, none⟩ = some (.int .i64 y.x.way) ∧ w'.cell? ⟨w2.heap.size + 1, 1, none⟩ = some (.int .i64 y.x.ver) ∧ w'.cell? ⟨w2.heap.size + 1, 2, none⟩ = some (.int .i64 y.x.want) ∧ w'.cell? ⟨w2.heap.size + 1, 3, none⟩ = some (.slice y.A1 y.x.sent.length y.c1) ∧ w'.cell? ⟨w2.heap.size + 1, 4, none⟩ = some (.slice y.A2 y.x.live.length y.c2) ∧ w'.cell? ⟨w2.heap.size + 1, 5, none⟩ = some (.slice y.A3 y.x.back.length y.c3) ∧ w'.cell? ⟨w2.heap.size + 1, 6, none⟩ = some (.slice y.A4 y.x.got.length y.c4))
        (((try dsimp only); (repeat' apply And.intro) <;> (first | with_reducible assumption | (go_keep; done))))
        (first | (go_at_call 96; refine (FC.out _ (HKW.out.drewN 1)).mono ?_; rintro e u1 ⟨d, rfl, sm9, hk9, G, hG9, hch9⟩; dsimp only [ChM.val]; have szk := HKW.out.size; have hq := ((Keeps.refl noBlk W5).drewN 1).trans hk9; have hG8 : ∀ b, b < W5.heap.size → G b = 0 := fun b hb => hG9 b (by first | exact hb | (simp; omega)); have FB := hH (of_lateP (t := h) (q := (k : Int) + 1) (w0 := w) (Z := fun b => b < W5.heap.size) (fun b hb => hG8 b (by omega)) (fun b hb => .inr (hG8 b hb)) hch9 sm9 HB.out HS.out HY.out (HY.out.kept (HKW.out.trans hq))); unfold OfP at FB; obtain ⟨G1, hm9, hc9⟩ := FB.out; have HC9 := hH hc9; have HM9 := hH hm9; clear FB hm9 hc9; unfold ChM.val StM.val at HC9; have hch8 := (hch9.ext (G' := up G u1.heap.size 0) fun b hb => up_old hb).kept ((Keeps.refl noBlk u1).alloc (.cells zC13 94)); have szq := hq.size; have FB := hH (of_lateP (t := h) (q := (k : Int) + 1) (w0 := w) (Z := fun b => b < W5.heap.size ∨ b = u1.heap.size) (fun b hb => (up_old (by omega)).trans (hG8 b (by omega))) (fun b hb => (by rcases hb with h | h; exact .inr ((up_old (by omega)).trans (hG8 b h)); exact .inr (up_new (by omega)))) hch8 sm9 HB.out HS.out HY.out (HY.out.kept ((HKW.out.trans hq).alloc (.cells zC13 94)))); unfold OfP at FB; obtain ⟨G1, hm9, hc9⟩ := FB.out; have HC8 := hH hc9; have HM8 := hH hm9; clear FB hm9 hc9; unfold ChM.val StM.val at HC8; clear hch8 szq; have HBc2 := hH (HBc1.out.keeps hq fun h => h); have HBs2 := hH (HBs1.out.keeps hq fun h => h); have HKW2 := hH (HKW.out.trans hq); have HKR2 := hH hq; have sz1 := hq.size; clear sm9 hk9 hq hG9 hch9 hG8 c0 c1 c2 c3 c4 c5 c6 c7 c8 c9 c10 c11 c12 zc s0 s1 s2 s3 s4 s5 s6 zs; have hb := HBc2.out; obtain ⟨c0, c1, c2, c3, c4, c5, c6, c7, c8, c9, c10, c11, c12⟩ := hb.cells13; have zc := hb.lt; clear hb; have hb := HBs2.out; obtain ⟨s0, s1, s2, s3, s4, s5, s6⟩ := hb.cells7; have zs := hb.lt; clear hb) | (go_at_call 96; refine (FC.out _ ((HKW.out.alloc (.cells zC13 94)).drewN 1)).mono ?_; rintro e u1 ⟨d, rfl, sm9, hk9, G, hG9, hch9⟩; dsimp only [ChM.val]; have szk := HKW.out.size; clear TKv; have TKh0 : True := trivial; have : ¬ w2.heap.size = W5.heap.size := (by omega); have : ¬ W5.heap.size = w2.heap.size := (by omega); have : ¬ w2.heap.size + 1 = W5.heap.size := (by omega); have : ¬ W5.heap.size = w2.heap.size + 1 := (by omega); have hraw := ((Keeps.refl noBlk (W5.alloc (.cells zC13 94))).drewN 1).trans hk9; have HBv9 := hH ((Box.new W5 _ rfl 94 zC13).keeps hraw (fun h => h)); have hq := ((Keeps.refl noBlk W5).alloc (.cells zC13 94)).trans hraw; have szr := hraw.size; (try simp at szr); clear hraw; have hG8 : ∀ b, b < W5.heap.size + 1 → G b = 0 := fun b hb => hG9 b (by first | exact hb | (simp; omega)); have FB := hH (of_lateP (t := h) (q := (k : Int) + 1) (w0 := w) (Z := fun b => b < W5.heap.size + 1) (fun b hb => hG8 b (by omega)) (fun b hb => .inr (hG8 b hb)) hch9 sm9 HB.out HS.out HY.out (HY.out.kept (HKW.out.trans hq))); unfold OfP at FB; obtain ⟨G1, hm9, hc9⟩ := FB.out; have HC9 := hH hc9; have HM9 := hH hm9; clear FB hm9 hc9; unfold ChM.val StM.val at HC9; have HBc2 := hH (HBc1.out.keeps hq fun h => h); have HBs2 := hH (HBs1.out.keeps hq fun h => h); have HKW2 := hH (HKW.out.trans hq); have HKR2 := hH hq; have sz1 := hq.size; clear sm9 hk9 hq hG9 hch9 hG8 c0 c1 c2 c3 c4 c5 c6 c7 c8 c9 c10 c11 c12 zc s0 s1 s2 s3 s4 s5 s6 zs; have hb := HBc2.out; obtain ⟨c0, c1, c2, c3, c4, c5, c6, c7, c8, c9, c10, c11, c12⟩ := hb.cells13; have zc := hb.lt; clear hb; have hb := HBs2.out; obtain ⟨s0, s1, s2, s3, s4, s5, s6⟩ := hb.cells7; have zs := hb.lt; clear hb; have hb := HBv9.out; obtain ⟨f90, f91, f92, f93, f94, f95, f96, f97, f98, f99, f910, f911, f912⟩ := hb.fz13; obtain ⟨v90, v91, v92, v93, v94, v95, v96, v97, v98, v99, v910, v911, v912⟩ := hb.cells13; have z9 := hb.lt; clear hb) | (go_at_call 98; have _t := TKh0; clear _t; refine HC9.out.mono ?_; rintro e u2 ⟨G2, rfl, hag, hch2, hk9⟩; dsimp only [ChM.val]; have hv := HBv9.out.keeps hk9 (fun h => HM9.out _ (by omega) h); clear HBv9 v90 f90 v91 f91 v92 f92 v93 f93 v94 f94 v95 f95 v96 f96 v97 f97 v98 f98 v99 f99 v910 f910 v911 f911 v912 f912 z9; have HBv9 := hH hv; clear hv; have HBc3 := hH (HBc2.out.keeps hk9 (fun h => HM9.out _ (by omega) h)); have HBs3 := hH (HBs2.out.keeps hk9 (fun h => HM9.out _ (by omega) h)); have HKW3 := hH (HKW2.out.then hk9 fun i hi h => HM9.out i (by omega) h); have HKR3 := hH (HKR2.out.then hk9 fun i hi h => HM9.out i (by omega) h); have sz2 := hk9.size; (try simp at sz2); clear hag hch2 hk9 c0 c1 c2 c3 c4 c5 c6 c7 c8 c9 c10 c11 c12 zc s0 s1 s2 s3 s4 s5 s6 zs; have hb := HBc3.out; obtain ⟨c0, c1, c2, c3, c4, c5, c6, c7, c8, c9, c10, c11, c12⟩ := hb.cells13; have zc := hb.lt; clear hb; have hb := HBs3.out; obtain ⟨s0, s1, s2, s3, s4, s5, s6⟩ := hb.cells7; have zs := hb.lt; clear hb; have hb := HBv9.out; obtain ⟨f90, f91, f92, f93, f94, f95, f96, f97, f98, f99, f910, f911, f912⟩ := hb.fz13; obtain ⟨v90, v91, v92, v93, v94, v95, v96, v97, v98, v99, v910, v911, v912⟩ := hb.cells13; have z9 := hb.lt; clear hb) | (go_at_call 98; have _t := TKv; clear _t; refine HC9.out.mono ?_; rintro e u2 ⟨G2, rfl, hag, hch2, hk9⟩; dsimp only [ChM.val]; have HBc3 := hH (HBc2.out.keeps hk9 (fun h => HM9.out _ (by omega) h)); have HBs3 := hH (HBs2.out.keeps hk9 (fun h => HM9.out _ (by omega) h)); have HKW3 := hH (HKW2.out.then hk9 fun i hi h => HM9.out i (by omega) h); have HKR3 := hH (HKR2.out.then hk9 fun i hi h => HM9.out i (by omega) h); have sz2 := hk9.size; (try simp at sz2); clear hag hch2 hk9 c0 c1 c2 c3 c4 c5 c6 c7 c8 c9 c10 c11 c12 zc s0 s1 s2 s3 s4 s5 s6 zs; have hb := HBc3.out; obtain ⟨c0, c1, c2, c3, c4, c5, c6, c7, c8, c9, c10, c11, c12⟩ := hb.cells13; have zc := hb.lt; clear hb; have hb := HBs3.out; obtain ⟨s0, s1, s2, s3, s4, s5, s6⟩ := hb.cells7; have zs := hb.lt; clear hb) | (go_at_call 98; have _t := TKv; clear _t; refine HC8.out.mono ?_; rintro e u2 ⟨G2, rfl, hag, hch2, hk9⟩; dsimp only [ChM.val]; clear TKv; have TKh1 : True := trivial; have : ¬ w2.heap.size = u1.heap.size := (by omega); have : ¬ u1.heap.size = w2.heap.size := (by omega); have : ¬ w2.heap.size + 1 = u1.heap.size := (by omega); have : ¬ u1.heap.size = w2.heap.size + 1 := (by omega); have HBv9 := hH ((Box.new u1 _ rfl 94 zC13).keeps hk9 (fun h => HM8.out _ (.inr rfl) h)); have HBc3 := hH ((HBc2.out.alloc (.cells zC13 94)).keeps hk9 (fun h => HM8.out _ (.inl (by omega)) h)); have HBs3 := hH ((HBs2.out.alloc (.cells zC13 94)).keeps hk9 (fun h => HM8.out _ (.inl (by omega)) h)); have HKW3 := hH ((HKW2.out.alloc (.cells zC13 94)).then hk9 fun i hi h => HM8.out i (.inl (by omega)) h); have HKR3 := hH ((HKR2.out.alloc (.cells zC13 94)).then hk9 fun i hi h => HM8.out i (.inl (by omega)) h); have sz2 := hk9.size; (try simp at sz2); clear hag hch2 hk9 c0 c1 c2 c3 c4 c5 c6 c7 c8 c9 c10 c11 c12 zc s0 s1 s2 s3 s4 s5 s6 zs; have hb := HBc3.out; obtain ⟨c0, c1, c2, c3, c4, c5, c6, c7, c8, c9, c10, c11, c12⟩ := hb.cells13; have zc := hb.lt; clear hb; have hb := HBs3.out; obtain ⟨s0, s1, s2, s3, s4, s5, s6⟩ := hb.cells7; have zs := hb.lt; clear hb; have hb := HBv9.out; obtain ⟨f90, f91, f92, f93, f94, f95, f96, f97, f98, f99, f910, f911, f912⟩ := hb.fz13; obtain ⟨v90, v91, v92, v93, v94, v95, v96, v97, v98, v99, v910, v911, v912⟩ := hb.cells13; have z9 := hb.lt; clear hb))
       all_goals go_wp2_with fail
       all_goals go_meet
       all_goals first | (have _t := TKv; exact ⟨_, rfl, rfl, HKR3.out.alloc _⟩) | (have _t := TKh0; exact ⟨_, rfl, rfl, (HKR3.out.new13 (g := W5.heap.size) (Nat.le_refl _))⟩) | (have _t := TKh1; exact ⟨_, rfl, rfl, (HKR3.out.new13 (g := u1.heap.size) (by omega))⟩)
      case rest =>
       obtain ⟨_, rfl, rfl, hkq⟩ := hcut
       obtain ⟨W6, hww⟩ : ∃ x, x = wc := ⟨_, rfl⟩
       subst hww
       clear c0 c1 c2 c3 c4 c5 c6 c7 c8 c9 c10 c11 c12 zc s0 s1 s2 s3 s4 s5 s6 zs
       have HO3 := hH (owns_keeps HO.out hkq fun _ _ h => h)
       have HKP4 := hH (HKP.out.trans (hkq.more fun _ _ h => h.elim))
       have hsr6 : P.heap.size ≤ W6.heap.size := HKP4.out.size
       clear hkq HBc1 HBs1 HKW HO HKP hsz9
       rcases Bool.eq_false_or_eq_true (tellB a.st.x y.x ((k : Int) + 1)) with ht | ht
       ·have HT1 : Hid (plT1 a y.x 1 h k = [⟨5, 1, h, (k : Int) + 1, pk0⟩]) := hH (by unfold plT1; rw [ht]; rfl)
        generalize tellB a.st.x y.x ((k : Int) + 1) = o8 at ht ⊢
        subst ht
        go_wp2_with (at_builtin; refine wpList_app1 _ rfl _ _ 84 rfl 102 (.agg zC11) 11 88 Tryd.underlying84 info_ev rfl (by decide) (by decide) _ _ _ rfl HO3.out _ rfl #[.int .i64 5, .int .i64 1, .int .i64 h, .int .i64 ((k : Int) + 1), .int .i64 0, .int .i64 0, .int .i64 0, .int .i64 0, .int .i64 0, .int .i64 0, .int .i64 0] _ rfl rfl rfl ?qd ?qe ?_)
        case qd => first | exact one_ev (e := ⟨5, 1, h, (k : Int) + 1, pk0⟩) | (repeat' (first | rfl | apply And.intro))
        case qe => omega
        intro A7 c7 w7 ho7 hk7 hf7
        have HO7 := hH ho7
        have HKP7 := hH (HKP4.out.then hk7 fun i hi h => by rcases HLO.out i h with h | h <;> omega)
        have HLO7 := hH (fun b (hb : (Value.slice A7 (L.length + 1) c7).ownBlock = some b) => (show b = w.heap.size + 1 ∨ P.heap.size ≤ b by rcases hf7 b hb with h | h; exact HLO.out b h; right; omega))
        have hsr7 : P.heap.size ≤ w7.heap.size := HKP7.out.size
        clear ho7 hk7 hf7
        rcases Bool.eq_false_or_eq_true (lateB a.st.x y.x h ((k : Int) + 1)) with hq | hq
        ·have HT2 : Hid (plT2 a y.x 1 h k = [⟨6, 1, h, (k : Int) + 1, pk0⟩]) := hH (by unfold plT2; rw [hq]; rfl)
         generalize lateB a.st.x y.x h ((k : Int) + 1) = o7 at hq ⊢
         subst hq
         have HEQ : Hid ((plG a y.x 1 h y.x.sent.length ++ plT a y.x 1 h (k + 1)) = L ++ [(⟨5, 1, h, (k : Int) + 1, pk0⟩ : Ev)] ++ [(⟨6, 1, h, (k : Int) + 1, pk0⟩ : Ev)]) := hH (by rw [← HLe.out, HST.out, HT1.out, HT2.out]; simp only [List.append_assoc, List.append_nil, List.nil_append])
         have HO8 := hH (show w7.ownsRow 0 102 11 (.slice A7 (L ++ [(⟨5, 1, h, (k : Int) + 1, pk0⟩ : Ev)]).length c7) (L ++ [(⟨5, 1, h, (k : Int) + 1, pk0⟩ : Ev)]).length (vEs (L ++ [(⟨5, 1, h, (k : Int) + 1, pk0⟩ : Ev)])) from by rw [List.length_append, List.length_singleton, vEs_snoc]; exact HO7.out)
         have HO9 := hH (show w7.ownsRow 0 102 11 (.slice A7 (L.length + 1) c7) (L.length + 1) (vEs (L ++ [(⟨5, 1, h, (k : Int) + 1, pk0⟩ : Ev)])) from by (have e : (L ++ [(⟨5, 1, h, (k : Int) + 1, pk0⟩ : Ev)]).length = L.length + 1 := (by rw [List.length_append, List.length_singleton])); (have q := HO8.out); rw [e] at q; exact q)
         go_wp2_with (at_builtin; refine wpList_app1 _ rfl _ _ 84 rfl 102 (.agg zC11) 11 88 Tryd.underlying84 info_ev rfl (by decide) (by decide) _ _ _ rfl HO9.out _ rfl #[.int .i64 6, .int .i64 1, .int .i64 h, .int .i64 ((k : Int) + 1), .int .i64 0, .int .i64 0, .int .i64 0, .int .i64 0, .int .i64 0, .int .i64 0, .int .i64 0] _ rfl rfl rfl ?qd ?qe ?_)
         case qd => first | exact one_ev (e := ⟨6, 1, h, (k : Int) + 1, pk0⟩) | (repeat' (first | rfl | apply And.intro))
         case qe => omega
         intro A8 c8 w8 ho8 hk8 hf8
         go_wp2
         have hkn : Keeps (fun b => b = w.heap.size + 1) P w8 := HKP7.out.then hk8 fun i hi h => by rcases HLO7.out i h with h | h <;> omega
         have hle8 : (L ++ [(⟨5, 1, h, (k : Int) + 1, pk0⟩ : Ev)] ++ [(⟨6, 1, h, (k : Int) + 1, pk0⟩ : Ev)]).length = L.length + 1 + 1 := by simp only [List.length_append, List.length_singleton]
         go_roundg (gk - 1)
         case measure => omega
         case rel =>
         refine ⟨k + 1, A8, c8, by omega, by go_num, ?_, ?_, ?_, hkn⟩
         ·rw [HEQ.out, hle8]
         ·rw [HEQ.out, hle8, vEs_snoc]; exact ho8
         ·intro b hb
          rw [HEQ.out, hle8] at hb
          rcases hf8 b hb with h | h
          ·exact HLO7.out b h
          ·right; omega
        ·have HT2 : Hid (plT2 a y.x 1 h k = []) := hH (by unfold plT2; rw [hq]; rfl)
         generalize lateB a.st.x y.x h ((k : Int) + 1) = o7 at hq ⊢
         subst hq
         have HEQ : Hid ((plG a y.x 1 h y.x.sent.length ++ plT a y.x 1 h (k + 1)) = L ++ [(⟨5, 1, h, (k : Int) + 1, pk0⟩ : Ev)]) := hH (by rw [← HLe.out, HST.out, HT1.out, HT2.out]; simp only [List.append_assoc, List.append_nil, List.nil_append])
         have HO8 := hH (show w7.ownsRow 0 102 11 (.slice A7 (L ++ [(⟨5, 1, h, (k : Int) + 1, pk0⟩ : Ev)]).length c7) (L ++ [(⟨5, 1, h, (k : Int) + 1, pk0⟩ : Ev)]).length (vEs (L ++ [(⟨5, 1, h, (k : Int) + 1, pk0⟩ : Ev)])) from by rw [List.length_append, List.length_singleton, vEs_snoc]; exact HO7.out)
         go_wp2
         go_roundg (gk - 1)
         case measure => omega
         case rel =>
         refine ⟨k + 1, A7, c7, by omega, by go_num, ?_, ?_, ?_, HKP7.out⟩
         ·rw [HEQ.out, List.length_append, List.length_singleton]
         ·rw [HEQ.out]; exact HO8.out
         ·rw [HEQ.out, List.length_append, List.length_singleton]; exact HLO7.out
       ·have HT1 : Hid (plT1 a y.x 1 h k = []) := hH (by unfold plT1; rw [ht]; rfl)
        generalize tellB a.st.x y.x ((k : Int) + 1) = o8 at ht ⊢
        subst ht
        rcases Bool.eq_false_or_eq_true (lateB a.st.x y.x h ((k : Int) + 1)) with hq | hq
        ·have HT2 : Hid (plT2 a y.x 1 h k = [⟨6, 1, h, (k : Int) + 1, pk0⟩]) := hH (by unfold plT2; rw [hq]; rfl)
         generalize lateB a.st.x y.x h ((k : Int) + 1) = o7 at hq ⊢
         subst hq
         have HEQ : Hid ((plG a y.x 1 h y.x.sent.length ++ plT a y.x 1 h (k + 1)) = L ++ [(⟨6, 1, h, (k : Int) + 1, pk0⟩ : Ev)]) := hH (by rw [← HLe.out, HST.out, HT1.out, HT2.out]; simp only [List.append_assoc, List.append_nil, List.nil_append])
         go_wp2_with (at_builtin; refine wpList_app1 _ rfl _ _ 84 rfl 102 (.agg zC11) 11 88 Tryd.underlying84 info_ev rfl (by decide) (by decide) _ _ _ rfl HO3.out _ rfl #[.int .i64 6, .int .i64 1, .int .i64 h, .int .i64 ((k : Int) + 1), .int .i64 0, .int .i64 0, .int .i64 0, .int .i64 0, .int .i64 0, .int .i64 0, .int .i64 0] _ rfl rfl rfl ?qd ?qe ?_)
         case qd => first | exact one_ev (e := ⟨6, 1, h, (k : Int) + 1, pk0⟩) | (repeat' (first | rfl | apply And.intro))
         case qe => omega
         intro A8 c8 w8 ho8 hk8 hf8
         go_wp2
         have hkn : Keeps (fun b => b = w.heap.size + 1) P w8 := HKP4.out.then hk8 fun i hi h => by rcases HLO.out i h with h | h <;> omega
         have hle8 : (L ++ [(⟨6, 1, h, (k : Int) + 1, pk0⟩ : Ev)]).length = L.length + 1 := by simp only [List.length_append, List.length_singleton]
         go_roundg (gk - 1)
         case measure => omega
         case rel =>
         refine ⟨k + 1, A8, c8, by omega, by go_num, ?_, ?_, ?_, hkn⟩
         ·rw [HEQ.out, hle8]
         ·rw [HEQ.out, hle8, vEs_snoc]; exact ho8
         ·intro b hb
          rw [HEQ.out, hle8] at hb
          rcases hf8 b hb with h | h
          ·exact HLO.out b h
          ·right; omega
        ·have HT2 : Hid (plT2 a y.x 1 h k = []) := hH (by unfold plT2; rw [hq]; rfl)
         generalize lateB a.st.x y.x h ((k : Int) + 1) = o7 at hq ⊢
         subst hq
         have HEQ : Hid ((plG a y.x 1 h y.x.sent.length ++ plT a y.x 1 h (k + 1)) = L) := hH (by rw [← HLe.out, HST.out, HT1.out, HT2.out]; simp only [List.append_assoc, List.append_nil, List.nil_append])
         go_wp2
         go_roundg (gk - 1)
         case measure => omega
         case rel =>
         refine ⟨k + 1, A, c, by omega, by go_num, ?_, ?_, ?_, HKP4.out⟩
         ·rw [HEQ.out]
         ·rw [HEQ.out]; exact HO3.out
         ·rw [HEQ.out]; exact HLO.out
    ·obtain rfl : k = a.st.x.sent.length := by omega
     have hle : ¬ ((((a.st.x.sent.length : Nat) : Int)) + 1 ≤ (a.st.x.sent.length : Int)) := by omega
     go_wp2
     go_ret
     have hL2 : L = planL a y.x 1 h := HLe.out.symm
     subst hL2
     exact ⟨A, c, rfl, owns_evs HO.out, fun b hb => by have q1 := HLO.out b (blk_owned hb); have q2 := HK3.out.size; omega, HKW.out⟩
end Go.Proofs.YtjcbeihoeanhaaaDoor
