/- The program's WayNext. The two tables read as the program's text lays them. -/
import Derived.Test.YtjcbeihoeanhaaaDoorUIWy
set_option maxRecDepth 100000
set_option maxHeartbeats 2000000
set_option linter.unusedVariables false
set_option linter.unusedSimpArgs false
namespace Go.Proofs.YtjcbeihoeanhaaaDoor
open Go.RowKit
theorem implNext_any (x y : StL) (A1 A2 A3 A4 B1 B2 B3 B4 : Option Addr) (c1 c2 c3 c4 d1 d2 d3 d4 : Nat) (w : World) (hx : StAt w x A1 A2 A3 A4) (hy : StAt w y B1 B2 B3 B4) (ht : Tabs w) :
  Calls Tryd.prog 38 #[stV x A1 A2 A3 A4 c1 c2 c3 c4, stV y B1 B2 B3 B4 d1 d2 d3 d4] w (RetInts w (nextL x y)) := by
 have HX := hH hx; have HY := hH hy; have HT := hH ht; have HMY := hH (fun (k : Int) W (h : StAt W x A1 A2 A3 A4) (h' : StAt W y B1 B2 B3 B4) hT => implMay_any x y A1 A2 A3 A4 B1 B2 B3 B4 c1 c2 c3 c4 d1 d2 d3 d4 k W h h' hT); have HBX := hH ((Box.new w _ rfl 27 (stC x A1 A2 A3 A4 c1 c2 c3 c4)).alloc (.cells (stC y B1 B2 B3 B4 d1 d2 d3 d4) 27)); have HBY := hH (Box.new (w.alloc (.cells (stC x A1 A2 A3 A4 c1 c2 c3 c4) 27)) (w.heap.size + 1) (by simp) 27 (stC y B1 B2 B3 B4 d1 d2 d3 d4)); have HK0 := hH (((Keeps.refl noBlk w).alloc (.cells (stC x A1 A2 A3 A4 c1 c2 c3 c4) 27)).alloc (.cells (stC y B1 B2 B3 B4 d1 d2 d3 d4) 27)); have HE0 := hH (fun W : World => World.ownsRow_nil W 0 3 1); clear hx hy ht; unfold stV at HMY ⊢
 go_enter Tryd.func38, Tryd.ntmps38
 go_wp2
 go_loopw [5, 6] (fun V i wr => ∃ k : Nat, k ≤ 7 ∧ i = .int .i64 ((k : Int) + 1) ∧ wr.ownsRow 0 3 1 V (nextTo x y k).length (vIs (nextTo x y k)) ∧ (∀ g, V.ownBlock = some g → w.heap.size + 2 ≤ g) ∧ Box wr w.heap.size 27 (stC x A1 A2 A3 A4 c1 c2 c3 c4) ∧ Box wr (w.heap.size + 1) 27 (stC y B1 B2 B3 B4 d1 d2 d3 d4) ∧ Keeps noBlk w wr) (fun _ i _ => 8 - (intOf i).toNat)
 case atStart => exact ⟨0, by omega, rfl, HE0.out _, fun g hg => by simp [Value.ownBlock] at hg, HBX.out, HBY.out, HK0.out⟩
 case round =>
  obtain ⟨k, hk, rfl, hown, hlo, hbx, hby, hkp⟩ := hrel; have HO := hH hown; have HLO := hH hlo; have HK := hH hkp; have HBx := hH hbx; have HBy := hH hby; have hll := nextTo_len x y k; have x0 := hbx.cell 0; have y0 := hby.cell 0; have x1 := hbx.cell 1; have y1 := hby.cell 1; have x2 := hbx.cell 2; have y2 := hby.cell 2; have x3 := hbx.cell 3; have y3 := hby.cell 3; have x4 := hbx.cell 4; have y4 := hby.cell 4; have x5 := hbx.cell 5; have y5 := hby.cell 5; have x6 := hbx.cell 6; have y6 := hby.cell 6; simp at x0 y0 x1 y1 x2 y2 x3 y3 x4 y4 x5 y5 x6 y6; clear hown hlo hbx hby hkp
  by_cases hlt : k < 7
  ·have hle : (k : Int) + 1 ≤ 7 := by omega
   have HYES := hH (@nextTo_yes x y k); have HNO := hH (@nextTo_no x y k); have HM := hH (HMY.out ((k : Int) + 1)); generalize wmayB x y ((k : Int) + 1) = o at HYES HNO HM; go_wp2_with fail; refine (HM.out _ (HX.out.kept HK.out) (HY.out.kept HK.out) (HT.out.keeps HK.out)).mono ?_; rintro e w1 ⟨rfl, hk1⟩; have HK1 := hH (HK.out.trans hk1); have HO1 := hH (owns_keeps HO.out hk1 fun _ _ h => h); have HBx1 := hH (HBx.out.keeps hk1 fun h => h); have HBy1 := hH (HBy.out.keeps hk1 fun h => h); have hs1 := HBy1.out.lt; clear hk1 x0 y0 x1 y1 x2 y2 x3 y3 x4 y4 x5 y5 x6 y6
   cases o with
   | false =>
    go_wp2; refine ⟨⟨k + 1, by omega, by go_num, ?_, HLO.out, HBx1.out, HBy1.out, HK1.out⟩, by simp [intOf]; omega⟩; rw [HNO.out (by simp)]; exact HO1.out
   | true =>
    go_wp2_with (at_builtin; refine wpList_app1 _ rfl _ _ 25 rfl 3 (.int .i64 0) 1 8 Tryd.underlying25 info_int3 rfl (by decide) (by decide) _ _ _ rfl HO1.out _ rfl #[.int .i64 ((k : Int) + 1)] _ rfl rfl rfl ?qd ?qe ?_)
    case qd => first | rfl | exact one_ints (xs := [(k : Int) + 1])
    case qe => omega
    intro A' c' w3 ho3 hk3 hf3; have HO3 := hH ho3; have HK3 := hH (HK1.out.then hk3 fun i hi h => by have := HLO.out i h; omega); have HBx3 := hH (HBx1.out.keeps hk3 fun h => by have := HLO.out _ h; omega); have HBy3 := hH (HBy1.out.keeps hk3 fun h => by have := HLO.out _ h; omega); have HLO3 := hH (fun g (hg : (Value.slice A' ((nextTo x y k).length + 1) c').ownBlock = some g) => (show w.heap.size + 2 ≤ g by rcases hf3 g hg with h | h; exact HLO.out g h; omega)); clear ho3 hk3 hf3; go_wp2; refine ⟨⟨k + 1, by omega, by go_num, ?_, HLO3.out, HBx3.out, HBy3.out, HK3.out⟩, by simp [intOf]; omega⟩; rw [HYES.out (by simp), List.length_append, vIs_snoc]; exact HO3.out
  ·obtain rfl : k = 7 := by omega
   go_wp2; obtain ⟨A, c, rfl⟩ := (show Rw (fun _ => 0) 0 wr 3 1 u5 _ _ from ⟨HO.out, fun _ _ => rfl⟩).shape; go_ret; exact ⟨A, c, rfl, HO.out, fun g hg => by have := HLO.out g hg; omega, HK.out⟩
end Go.Proofs.YtjcbeihoeanhaaaDoor
