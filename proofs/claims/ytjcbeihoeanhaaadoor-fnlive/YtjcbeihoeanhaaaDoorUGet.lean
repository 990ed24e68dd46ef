/- l13Get of the model: a packet comes to a chain. l13Get of the model: a packet comes to a chain (too late). l13Get of the model: a packet comes to a chain (it comes). -/
import Derived.Test.YtjcbeihoeanhaaaDoorULate
import Derived.Test.YtjcbeihoeanhaaaDoorUHas
set_option linter.unusedVariables false
set_option linter.unusedSimpArgs false
/-! GGetA -/
set_option maxHeartbeats 4000000
set_option maxRecDepth 100000
namespace Go.Proofs.YtjcbeihoeanhaaaDoor
open Go.RowKit

def getB (c : ChM) (y : StL) (p : Pk) : Bool := decide (3 ≤ c.st.x.way) && l3B y p && decide (c.st.x.got.getD (p.s - 1).toNat 0 = 0) && decide (p.v = c.st.x.ver) && decide ((c.past.length : Int) + 1 < p.u)
theorem l13Get_shut (G : Nat → Nat) (i : Nat) (c : ChM) (y : StM) (p : Pk) (w : World) (hc : ChR G i w c) (hy : StI G w y) (hx : StFit c.st.x) (hyl : y.x.live.length = y.x.sent.length) (hy8 : y.x.sent.length ≤ 8) (hq : okB c.bk.b = true) (hpl : c.past.length ≤ 1000) (h1 : c.st.x.way < 3) :
  Calls Tryd.prog 95 #[c.val, y.val, p.val] w (RetLate G i w c false) := by
 have hc := hc.ext (G' := up G w.heap.size 0) fun b hb => up_old hb
 have hy := hy.ext (G' := up G w.heap.size 0) fun b hb => up_old hb
 have HG := hH (show ∀ b, w.heap.size ≤ b → up G w.heap.size 0 b = 0 from fun b hb => up_new hb)
 have HG' := hH (show ∀ b, b < w.heap.size → up G w.heap.size 0 b = G b from fun b hb => up_old hb)
 generalize up G w.heap.size 0 = G0 at hc hy HG HG'
 have HC := hH hc
 have HYR := hH hy
 clear hc hy
 have HX := hH hx
 have HQ := hH hq
 clear hx hq
 have HBC := hH (((((Box.new w (w.heap.size) (by simp) 94 (chC c)).alloc (.cells (smC y) 27)).alloc (.cells (pkC p) 29)).alloc (.cells zC13 94)).alloc (.cells (smC c.st) 27))
 have HBY := hH ((((Box.new (w.alloc (.cells (chC c) 94)) (w.heap.size + 1) (by simp) 27 (smC y)).alloc (.cells (pkC p) 29)).alloc (.cells zC13 94)).alloc (.cells (smC c.st) 27))
 have HBP := hH (((Box.new ((w.alloc (.cells (chC c) 94)).alloc (.cells (smC y) 27)) (w.heap.size + 1 + 1) (by simp) 29 (pkC p)).alloc (.cells zC13 94)).alloc (.cells (smC c.st) 27))
 have HBZ := hH ((Box.new (((w.alloc (.cells (chC c) 94)).alloc (.cells (smC y) 27)).alloc (.cells (pkC p) 29)) (w.heap.size + 1 + 1 + 1) (by simp) 94 zC13).alloc (.cells (smC c.st) 27))
 have HBS := hH (Box.new ((((w.alloc (.cells (chC c) 94)).alloc (.cells (smC y) 27)).alloc (.cells (pkC p) 29)).alloc (.cells zC13 94)) (w.heap.size + 1 + 1 + 1 + 1) (by simp) 27 (smC c.st))
 have HK := hH ((((((Keeps.refl (noBlk) w).alloc (.cells (chC c) 94)).alloc (.cells (smC y) 27)).alloc (.cells (pkC p) 29)).alloc (.cells zC13 94)).alloc (.cells (smC c.st) 27))
 have hsz : w.heap.size + 5 ≤ (((((w.alloc (.cells (chC c) 94)).alloc (.cells (smC y) 27)).alloc (.cells (pkC p) 29)).alloc (.cells zC13 94)).alloc (.cells (smC c.st) 27)).heap.size := by simp
 have e1 : decide (c.st.x.way < 3) = true := by simpa using h1
 clear h1 hyl hy8
 unfold ChM.val StM.val Pk.val
 go_enter Tryd.func95, Tryd.ntmps95
 go_wp2
 refine bodyPost_ret (v := .tuple #[.agg (chC c), .bool false]) (by simp [results, Tryd.results95, go_sem, *]) rfl ?_
 exact late_end HG'.out HC.out (((((((Keeps.refl _ _).alloc _).alloc _).alloc _).alloc _).alloc _))
theorem l13Get_none (G : Nat → Nat) (i : Nat) (c : ChM) (y : StM) (p : Pk) (w : World) (hc : ChR G i w c) (hy : StI G w y) (hx : StFit c.st.x) (hyl : y.x.live.length = y.x.sent.length) (hy8 : y.x.sent.length ≤ 8) (hq : okB c.bk.b = true) (hpl : c.past.length ≤ 1000) (h1 : 3 ≤ c.st.x.way) (h2 : l3B y.x p = false) :
  Calls Tryd.prog 95 #[c.val, y.val, p.val] w (RetLate G i w c false) := by
 have hc := hc.ext (G' := up G w.heap.size 0) fun b hb => up_old hb
 have hy := hy.ext (G' := up G w.heap.size 0) fun b hb => up_old hb
 have HG := hH (show ∀ b, w.heap.size ≤ b → up G w.heap.size 0 b = 0 from fun b hb => up_new hb)
 have HG' := hH (show ∀ b, b < w.heap.size → up G w.heap.size 0 b = G b from fun b hb => up_old hb)
 generalize up G w.heap.size 0 = G0 at hc hy HG HG'
 have HC := hH hc
 have HYR := hH hy
 clear hc hy
 have HX := hH hx
 have HQ := hH hq
 clear hx hq
 have HBC := hH (((((Box.new w (w.heap.size) (by simp) 94 (chC c)).alloc (.cells (smC y) 27)).alloc (.cells (pkC p) 29)).alloc (.cells zC13 94)).alloc (.cells (smC c.st) 27))
 have HBY := hH ((((Box.new (w.alloc (.cells (chC c) 94)) (w.heap.size + 1) (by simp) 27 (smC y)).alloc (.cells (pkC p) 29)).alloc (.cells zC13 94)).alloc (.cells (smC c.st) 27))
 have HBP := hH (((Box.new ((w.alloc (.cells (chC c) 94)).alloc (.cells (smC y) 27)) (w.heap.size + 1 + 1) (by simp) 29 (pkC p)).alloc (.cells zC13 94)).alloc (.cells (smC c.st) 27))
 have HBZ := hH ((Box.new (((w.alloc (.cells (chC c) 94)).alloc (.cells (smC y) 27)).alloc (.cells (pkC p) 29)) (w.heap.size + 1 + 1 + 1) (by simp) 94 zC13).alloc (.cells (smC c.st) 27))
 have HBS := hH (Box.new ((((w.alloc (.cells (chC c) 94)).alloc (.cells (smC y) 27)).alloc (.cells (pkC p) 29)).alloc (.cells zC13 94)) (w.heap.size + 1 + 1 + 1 + 1) (by simp) 27 (smC c.st))
 have HK := hH ((((((Keeps.refl (noBlk) w).alloc (.cells (chC c) 94)).alloc (.cells (smC y) 27)).alloc (.cells (pkC p) 29)).alloc (.cells zC13 94)).alloc (.cells (smC c.st) 27))
 have hsz : w.heap.size + 5 ≤ (((((w.alloc (.cells (chC c) 94)).alloc (.cells (smC y) 27)).alloc (.cells (pkC p) 29)).alloc (.cells zC13 94)).alloc (.cells (smC c.st) 27)).heap.size := by simp
 have e1 : decide (c.st.x.way < 3) = false := by simp; omega
 clear h1
 have HLH := hH (fun W (hh : Keeps noBlk w W) => (show Calls Tryd.prog 47 #[y.val, Pk.val p] W (fun e w' => e = .returned (.bool false) ∧ Keeps noBlk W w') from by rw [← h2]; exact l3Has_any y.x y.A1 y.A2 y.A3 y.A4 y.c1 y.c2 y.c3 y.c4 p W (HYR.out.kept hh).at_ hyl))
 clear h2 hyl hy8
 unfold StM.val Pk.val at HLH
 unfold ChM.val StM.val Pk.val
 (try dsimp only at HLH)
 (try dsimp only)
 go_enter Tryd.func95, Tryd.ntmps95
 go_wp2_with fail
 refine (HLH.out _ HK.out).mono ?_
 rintro e w1 ⟨rfl, hk1⟩
 replace HBC := hH (HBC.out.keeps hk1 (fun h => h))
 replace HBY := hH (HBY.out.keeps hk1 (fun h => h))
 replace HBP := hH (HBP.out.keeps hk1 (fun h => h))
 replace HBZ := hH (HBZ.out.keeps hk1 (fun h => h))
 replace HBS := hH (HBS.out.keeps hk1 (fun h => h))
 replace HK := hH (HK.out.trans hk1)
 have hb := HBC.out
 obtain ⟨C0, C1, C2, C3, C4, C5, C6, C7, C8, C9, C10, C11, C12⟩ := hb.cells13
 have Cz := hb.lt
 clear hb
 have hb := HBP.out
 obtain ⟨P0, P1, P2, P3, P4, P5, P6⟩ := hb.cells7
 have Pz := hb.lt
 clear hb
 have hb := HBS.out
 have S0 := hb.cell 0
 have S1 := hb.cell 1
 have S6 := hb.cell 6
 simp at S0 S1 S6
 have Sz := hb.lt
 clear hb
 have hb := HBZ.out
 obtain ⟨Z0, Z1, Z2, Z3, Z4, Z5, Z6, Z7, Z8, Z9, Z10, Z11, Z12⟩ := hb.cells13
 obtain ⟨Zf0, Zf1, Zf2, Zf3, Zf4, Zf5, Zf6, Zf7, Zf8, Zf9, Zf10, Zf11, Zf12⟩ := hb.fz13
 have Zz := hb.lt
 clear hb
 have hz3 : w.heap.size ≤ w.heap.size + 1 + 1 + 1 := by omega
 go_wp2
 refine bodyPost_ret (v := .tuple #[.agg (chC c), .bool false]) (by simp [results, Tryd.results95, go_sem, *]) rfl ?_
 exact late_end HG'.out HC.out ((HK.out).new13 hz3)
theorem l13Get_came (G : Nat → Nat) (i : Nat) (c : ChM) (y : StM) (p : Pk) (w : World) (hc : ChR G i w c) (hy : StI G w y) (hx : StFit c.st.x) (hyl : y.x.live.length = y.x.sent.length) (hy8 : y.x.sent.length ≤ 8) (hq : okB c.bk.b = true) (hpl : c.past.length ≤ 1000) (h1 : 3 ≤ c.st.x.way) (h2 : l3B y.x p = true) (k : Nat) (hk : p.s = (k : Int) + 1) (hk8 : k < 8) (h3 : c.st.x.got.getD k 0 ≠ 0) :
  Calls Tryd.prog 95 #[c.val, y.val, p.val] w (RetLate G i w c false) := by
 have HKQ := hH hk
 clear hk
 have hc := hc.ext (G' := up G w.heap.size 0) fun b hb => up_old hb
 have hy := hy.ext (G' := up G w.heap.size 0) fun b hb => up_old hb
 have HG := hH (show ∀ b, w.heap.size ≤ b → up G w.heap.size 0 b = 0 from fun b hb => up_new hb)
 have HG' := hH (show ∀ b, b < w.heap.size → up G w.heap.size 0 b = G b from fun b hb => up_old hb)
 generalize up G w.heap.size 0 = G0 at hc hy HG HG'
 have HC := hH hc
 have HYR := hH hy
 clear hc hy
 have HX := hH hx
 have HQ := hH hq
 clear hx hq
 have HBC := hH (((((Box.new w (w.heap.size) (by simp) 94 (chC c)).alloc (.cells (smC y) 27)).alloc (.cells (pkC p) 29)).alloc (.cells zC13 94)).alloc (.cells (smC c.st) 27))
 have HBY := hH ((((Box.new (w.alloc (.cells (chC c) 94)) (w.heap.size + 1) (by simp) 27 (smC y)).alloc (.cells (pkC p) 29)).alloc (.cells zC13 94)).alloc (.cells (smC c.st) 27))
 have HBP := hH (((Box.new ((w.alloc (.cells (chC c) 94)).alloc (.cells (smC y) 27)) (w.heap.size + 1 + 1) (by simp) 29 (pkC p)).alloc (.cells zC13 94)).alloc (.cells (smC c.st) 27))
 have HBZ := hH ((Box.new (((w.alloc (.cells (chC c) 94)).alloc (.cells (smC y) 27)).alloc (.cells (pkC p) 29)) (w.heap.size + 1 + 1 + 1) (by simp) 94 zC13).alloc (.cells (smC c.st) 27))
 have HBS := hH (Box.new ((((w.alloc (.cells (chC c) 94)).alloc (.cells (smC y) 27)).alloc (.cells (pkC p) 29)).alloc (.cells zC13 94)) (w.heap.size + 1 + 1 + 1 + 1) (by simp) 27 (smC c.st))
 have HK := hH ((((((Keeps.refl (noBlk) w).alloc (.cells (chC c) 94)).alloc (.cells (smC y) 27)).alloc (.cells (pkC p) 29)).alloc (.cells zC13 94)).alloc (.cells (smC c.st) 27))
 have hsz : w.heap.size + 5 ≤ (((((w.alloc (.cells (chC c) 94)).alloc (.cells (smC y) 27)).alloc (.cells (pkC p) 29)).alloc (.cells zC13 94)).alloc (.cells (smC c.st) 27)).heap.size := by simp
 have e1 : decide (c.st.x.way < 3) = false := by simp; omega
 clear h1
 have HLH := hH (fun W (hh : Keeps noBlk w W) => (show Calls Tryd.prog 47 #[y.val, Pk.val p] W (fun e w' => e = .returned (.bool true) ∧ Keeps noBlk W w') from by rw [← h2]; exact l3Has_any y.x y.A1 y.A2 y.A3 y.A4 y.c1 y.c2 y.c3 y.c4 p W (HYR.out.kept hh).at_ hyl))
 clear h2 hyl hy8
 unfold StM.val Pk.val at HLH
 unfold ChM.val StM.val Pk.val
 (try dsimp only at HLH)
 (try dsimp only)
 go_enter Tryd.func95, Tryd.ntmps95
 go_wp2_with fail
 refine (HLH.out _ HK.out).mono ?_
 rintro e w1 ⟨rfl, hk1⟩
 replace HBC := hH (HBC.out.keeps hk1 (fun h => h))
 replace HBY := hH (HBY.out.keeps hk1 (fun h => h))
 replace HBP := hH (HBP.out.keeps hk1 (fun h => h))
 replace HBZ := hH (HBZ.out.keeps hk1 (fun h => h))
 replace HBS := hH (HBS.out.keeps hk1 (fun h => h))
 replace HK := hH (HK.out.trans hk1)
 have hb := HBC.out
 obtain ⟨C0, C1, C2, C3, C4, C5, C6, C7, C8, C9, C10, C11, C12⟩ := hb.cells13
 have Cz := hb.lt
 clear hb
 have hb := HBP.out
 obtain ⟨P0, P1, P2, P3, P4, P5, P6⟩ := hb.cells7
 have Pz := hb.lt
 clear hb
 have hb := HBS.out
 have S0 := hb.cell 0
 have S1 := hb.cell 1
 have S6 := hb.cell 6
 simp at S0 S1 S6
 have Sz := hb.lt
 clear hb
 have hb := HBZ.out
 obtain ⟨Z0, Z1, Z2, Z3, Z4, Z5, Z6, Z7, Z8, Z9, Z10, Z11, Z12⟩ := hb.cells13
 obtain ⟨Zf0, Zf1, Zf2, Zf3, Zf4, Zf5, Zf6, Zf7, Zf8, Zf9, Zf10, Zf11, Zf12⟩ := hb.fz13
 have Zz := hb.lt
 clear hb
 have hz3 : w.heap.size ≤ w.heap.size + 1 + 1 + 1 := by omega
 have hk := HKQ.out
 obtain ⟨gg, eg, lg, rg⟩ := HC.out.2.1.2.2.2.at_ (by rw [HX.out.got]; decide)
 obtain ⟨_, _, e9, _, y0⟩ := (HC.out.kept HK.out).2.1.at_.1.2.2.2.at_ (k := k) (by rw [HX.out.got]; exact hk8)
 rw [eg] at e9
 cases e9
 rw [Nat.zero_add] at y0
 have hgl : k < c.st.x.got.length := by rw [HX.out.got]; exact hk8
 generalize c.st.x.got.getD k 0 = gv at y0 h3
 have e3 : (gv != 0) = true := by simpa using h3
 clear h3
 have HES := hH eg
 go_wp2
 refine bodyPost_ret (v := .tuple #[.agg #[.int .i64 c.id, .slice c.bk.A1 c.bk.b.own.length c.bk.c1, .slice c.bk.A2 c.bk.b.notes.length c.bk.c2, .int .i64 c.bk.b.locked, .int .i64 c.st.x.way, .int .i64 c.st.x.ver, .int .i64 c.st.x.want, .slice c.st.A1 c.st.x.sent.length c.st.c1, .slice c.st.A2 c.st.x.live.length c.st.c2, .slice c.st.A3 c.st.x.back.length c.st.c3, .slice (some ⟨gg, 0, none⟩) c.st.x.got.length c.st.c4, .slice c.pA c.past.length c.pc, .slice c.kA c.knows.length c.kc], .bool false]) (by simp [results, Tryd.results95, go_sem, *]) rfl ?_
 rw [show (Value.agg #[.int .i64 c.id, .slice c.bk.A1 c.bk.b.own.length c.bk.c1, .slice c.bk.A2 c.bk.b.notes.length c.bk.c2, .int .i64 c.bk.b.locked, .int .i64 c.st.x.way, .int .i64 c.st.x.ver, .int .i64 c.st.x.want, .slice c.st.A1 c.st.x.sent.length c.st.c1, .slice c.st.A2 c.st.x.live.length c.st.c2, .slice c.st.A3 c.st.x.back.length c.st.c3, .slice (some ⟨gg, 0, none⟩) c.st.x.got.length c.st.c4, .slice c.pA c.past.length c.pc, .slice c.kA c.knows.length c.kc]) = c.val by unfold ChM.val; rw [HES.out]]
 exact late_end HG'.out HC.out ((HK.out).new13 hz3)
theorem l13Get_ver (G : Nat → Nat) (i : Nat) (c : ChM) (y : StM) (p : Pk) (w : World) (hc : ChR G i w c) (hy : StI G w y) (hx : StFit c.st.x) (hyl : y.x.live.length = y.x.sent.length) (hy8 : y.x.sent.length ≤ 8) (hq : okB c.bk.b = true) (hpl : c.past.length ≤ 1000) (h1 : 3 ≤ c.st.x.way) (h2 : l3B y.x p = true) (k : Nat) (hk : p.s = (k : Int) + 1) (hk8 : k < 8) (h3 : c.st.x.got.getD k 0 = 0) (h4 : p.v ≠ c.st.x.ver) :
  Calls Tryd.prog 95 #[c.val, y.val, p.val] w (RetLate G i w c false) := by
 have HKQ := hH hk
 clear hk
 have hc := hc.ext (G' := up G w.heap.size 0) fun b hb => up_old hb
 have hy := hy.ext (G' := up G w.heap.size 0) fun b hb => up_old hb
 have HG := hH (show ∀ b, w.heap.size ≤ b → up G w.heap.size 0 b = 0 from fun b hb => up_new hb)
 have HG' := hH (show ∀ b, b < w.heap.size → up G w.heap.size 0 b = G b from fun b hb => up_old hb)
 generalize up G w.heap.size 0 = G0 at hc hy HG HG'
 have HC := hH hc
 have HYR := hH hy
 clear hc hy
 have HX := hH hx
 have HQ := hH hq
 clear hx hq
 have HBC := hH (((((Box.new w (w.heap.size) (by simp) 94 (chC c)).alloc (.cells (smC y) 27)).alloc (.cells (pkC p) 29)).alloc (.cells zC13 94)).alloc (.cells (smC c.st) 27))
 have HBY := hH ((((Box.new (w.alloc (.cells (chC c) 94)) (w.heap.size + 1) (by simp) 27 (smC y)).alloc (.cells (pkC p) 29)).alloc (.cells zC13 94)).alloc (.cells (smC c.st) 27))
 have HBP := hH (((Box.new ((w.alloc (.cells (chC c) 94)).alloc (.cells (smC y) 27)) (w.heap.size + 1 + 1) (by simp) 29 (pkC p)).alloc (.cells zC13 94)).alloc (.cells (smC c.st) 27))
 have HBZ := hH ((Box.new (((w.alloc (.cells (chC c) 94)).alloc (.cells (smC y) 27)).alloc (.cells (pkC p) 29)) (w.heap.size + 1 + 1 + 1) (by simp) 94 zC13).alloc (.cells (smC c.st) 27))
 have HBS := hH (Box.new ((((w.alloc (.cells (chC c) 94)).alloc (.cells (smC y) 27)).alloc (.cells (pkC p) 29)).alloc (.cells zC13 94)) (w.heap.size + 1 + 1 + 1 + 1) (by simp) 27 (smC c.st))
 have HK := hH ((((((Keeps.refl (noBlk) w).alloc (.cells (chC c) 94)).alloc (.cells (smC y) 27)).alloc (.cells (pkC p) 29)).alloc (.cells zC13 94)).alloc (.cells (smC c.st) 27))
 have hsz : w.heap.size + 5 ≤ (((((w.alloc (.cells (chC c) 94)).alloc (.cells (smC y) 27)).alloc (.cells (pkC p) 29)).alloc (.cells zC13 94)).alloc (.cells (smC c.st) 27)).heap.size := by simp
 have e1 : decide (c.st.x.way < 3) = false := by simp; omega
 clear h1
 have HLH := hH (fun W (hh : Keeps noBlk w W) => (show Calls Tryd.prog 47 #[y.val, Pk.val p] W (fun e w' => e = .returned (.bool true) ∧ Keeps noBlk W w') from by rw [← h2]; exact l3Has_any y.x y.A1 y.A2 y.A3 y.A4 y.c1 y.c2 y.c3 y.c4 p W (HYR.out.kept hh).at_ hyl))
 clear h2 hyl hy8
 unfold StM.val Pk.val at HLH
 unfold ChM.val StM.val Pk.val
 (try dsimp only at HLH)
 (try dsimp only)
 go_enter Tryd.func95, Tryd.ntmps95
 go_wp2_with fail
 refine (HLH.out _ HK.out).mono ?_
 rintro e w1 ⟨rfl, hk1⟩
 replace HBC := hH (HBC.out.keeps hk1 (fun h => h))
 replace HBY := hH (HBY.out.keeps hk1 (fun h => h))
 replace HBP := hH (HBP.out.keeps hk1 (fun h => h))
 replace HBZ := hH (HBZ.out.keeps hk1 (fun h => h))
 replace HBS := hH (HBS.out.keeps hk1 (fun h => h))
 replace HK := hH (HK.out.trans hk1)
 have hb := HBC.out
 obtain ⟨C0, C1, C2, C3, C4, C5, C6, C7, C8, C9, C10, C11, C12⟩ := hb.cells13
 have Cz := hb.lt
 clear hb
 have hb := HBP.out
 obtain ⟨P0, P1, P2, P3, P4, P5, P6⟩ := hb.cells7
 have Pz := hb.lt
 clear hb
 have hb := HBS.out
 have S0 := hb.cell 0
 have S1 := hb.cell 1
 have S6 := hb.cell 6
 simp at S0 S1 S6
 have Sz := hb.lt
 clear hb
 have hb := HBZ.out
 obtain ⟨Z0, Z1, Z2, Z3, Z4, Z5, Z6, Z7, Z8, Z9, Z10, Z11, Z12⟩ := hb.cells13
 obtain ⟨Zf0, Zf1, Zf2, Zf3, Zf4, Zf5, Zf6, Zf7, Zf8, Zf9, Zf10, Zf11, Zf12⟩ := hb.fz13
 have Zz := hb.lt
 clear hb
 have hz3 : w.heap.size ≤ w.heap.size + 1 + 1 + 1 := by omega
 have hk := HKQ.out
 obtain ⟨gg, eg, lg, rg⟩ := HC.out.2.1.2.2.2.at_ (by rw [HX.out.got]; decide)
 obtain ⟨_, _, e9, _, y0⟩ := (HC.out.kept HK.out).2.1.at_.1.2.2.2.at_ (k := k) (by rw [HX.out.got]; exact hk8)
 rw [eg] at e9
 cases e9
 rw [Nat.zero_add] at y0
 have hgl : k < c.st.x.got.length := by rw [HX.out.got]; exact hk8
 generalize c.st.x.got.getD k 0 = gv at y0 h3
 have e3 : (gv != 0) = false := by simpa using h3
 clear h3
 have e4 : (p.v != c.st.x.ver) = true := by simpa using h4
 have H4 := hH h4
 clear h4
 have HES := hH eg
 go_wp2
 refine bodyPost_ret (v := .tuple #[.agg #[.int .i64 c.id, .slice c.bk.A1 c.bk.b.own.length c.bk.c1, .slice c.bk.A2 c.bk.b.notes.length c.bk.c2, .int .i64 c.bk.b.locked, .int .i64 c.st.x.way, .int .i64 c.st.x.ver, .int .i64 c.st.x.want, .slice c.st.A1 c.st.x.sent.length c.st.c1, .slice c.st.A2 c.st.x.live.length c.st.c2, .slice c.st.A3 c.st.x.back.length c.st.c3, .slice (some ⟨gg, 0, none⟩) c.st.x.got.length c.st.c4, .slice c.pA c.past.length c.pc, .slice c.kA c.knows.length c.kc], .bool false]) (by simp [results, Tryd.results95, go_sem, *]) rfl ?_
 rw [show (Value.agg #[.int .i64 c.id, .slice c.bk.A1 c.bk.b.own.length c.bk.c1, .slice c.bk.A2 c.bk.b.notes.length c.bk.c2, .int .i64 c.bk.b.locked, .int .i64 c.st.x.way, .int .i64 c.st.x.ver, .int .i64 c.st.x.want, .slice c.st.A1 c.st.x.sent.length c.st.c1, .slice c.st.A2 c.st.x.live.length c.st.c2, .slice c.st.A3 c.st.x.back.length c.st.c3, .slice (some ⟨gg, 0, none⟩) c.st.x.got.length c.st.c4, .slice c.pA c.past.length c.pc, .slice c.kA c.knows.length c.kc]) = c.val by unfold ChM.val; rw [HES.out]]
 exact late_end HG'.out HC.out ((HK.out).new13 hz3)
set_option maxHeartbeats 4000000
set_option maxRecDepth 100000

theorem l13Get_time (G : Nat → Nat) (i : Nat) (c : ChM) (y : StM) (k : Nat) (kd pf pt pm pu : Int) (w : World) (hc : ChR G i w c) (hy : StI G w y) (hx : StFit c.st.x) (hyl : y.x.live.length = y.x.sent.length) (hy8 : y.x.sent.length ≤ 8) (hq : okB c.bk.b = true) (hpl : c.past.length ≤ 1000) (h1 : 3 ≤ c.st.x.way) (h2 : l3B y.x (⟨(k : Int) + 1, kd, pf, pt, pm, pu, c.st.x.ver⟩ : Pk) = true) (hk8 : k < 8) (h3 : c.st.x.got.getD k 0 = 0) (h5 : pu ≤ (c.past.length : Int) + 1) :
  Calls Tryd.prog 95 #[c.val, y.val, Pk.val (⟨(k : Int) + 1, kd, pf, pt, pm, pu, c.st.x.ver⟩ : Pk)] w (RetLate G i w c false) := by
 have H5 := hH h5
 clear h5
 have hc := hc.ext (G' := up G w.heap.size 0) fun b hb => up_old hb
 have hy := hy.ext (G' := up G w.heap.size 0) fun b hb => up_old hb
 have HG := hH (show ∀ b, w.heap.size ≤ b → up G w.heap.size 0 b = 0 from fun b hb => up_new hb)
 have HG' := hH (show ∀ b, b < w.heap.size → up G w.heap.size 0 b = G b from fun b hb => up_old hb)
 generalize up G w.heap.size 0 = G0 at hc hy HG HG'
 have HC := hH hc
 have HYR := hH hy
 clear hc hy
 have HX := hH hx
 have HQ := hH hq
 clear hx hq
 have HBC := hH (((((Box.new w (w.heap.size) (by simp) 94 (chC c)).alloc (.cells (smC y) 27)).alloc (.cells #[.int .i64 ((k : Int) + 1), .int .i64 kd, .int .i64 pf, .int .i64 pt, .int .i64 pm, .int .i64 pu, .int .i64 c.st.x.ver] 29)).alloc (.cells zC13 94)).alloc (.cells (smC c.st) 27))
 have HBY := hH ((((Box.new (w.alloc (.cells (chC c) 94)) (w.heap.size + 1) (by simp) 27 (smC y)).alloc (.cells #[.int .i64 ((k : Int) + 1), .int .i64 kd, .int .i64 pf, .int .i64 pt, .int .i64 pm, .int .i64 pu, .int .i64 c.st.x.ver] 29)).alloc (.cells zC13 94)).alloc (.cells (smC c.st) 27))
 have HBP := hH (((Box.new ((w.alloc (.cells (chC c) 94)).alloc (.cells (smC y) 27)) (w.heap.size + 1 + 1) (by simp) 29 #[.int .i64 ((k : Int) + 1), .int .i64 kd, .int .i64 pf, .int .i64 pt, .int .i64 pm, .int .i64 pu, .int .i64 c.st.x.ver]).alloc (.cells zC13 94)).alloc (.cells (smC c.st) 27))
 have HBZ := hH ((Box.new (((w.alloc (.cells (chC c) 94)).alloc (.cells (smC y) 27)).alloc (.cells #[.int .i64 ((k : Int) + 1), .int .i64 kd, .int .i64 pf, .int .i64 pt, .int .i64 pm, .int .i64 pu, .int .i64 c.st.x.ver] 29)) (w.heap.size + 1 + 1 + 1) (by simp) 94 zC13).alloc (.cells (smC c.st) 27))
 have HBS := hH (Box.new ((((w.alloc (.cells (chC c) 94)).alloc (.cells (smC y) 27)).alloc (.cells #[.int .i64 ((k : Int) + 1), .int .i64 kd, .int .i64 pf, .int .i64 pt, .int .i64 pm, .int .i64 pu, .int .i64 c.st.x.ver] 29)).alloc (.cells zC13 94)) (w.heap.size + 1 + 1 + 1 + 1) (by simp) 27 (smC c.st))
 have HK := hH ((((((Keeps.refl (noBlk) w).alloc (.cells (chC c) 94)).alloc (.cells (smC y) 27)).alloc (.cells #[.int .i64 ((k : Int) + 1), .int .i64 kd, .int .i64 pf, .int .i64 pt, .int .i64 pm, .int .i64 pu, .int .i64 c.st.x.ver] 29)).alloc (.cells zC13 94)).alloc (.cells (smC c.st) 27))
 have hsz : w.heap.size + 5 ≤ (((((w.alloc (.cells (chC c) 94)).alloc (.cells (smC y) 27)).alloc (.cells #[.int .i64 ((k : Int) + 1), .int .i64 kd, .int .i64 pf, .int .i64 pt, .int .i64 pm, .int .i64 pu, .int .i64 c.st.x.ver] 29)).alloc (.cells zC13 94)).alloc (.cells (smC c.st) 27)).heap.size := by simp
 have e1 : decide (c.st.x.way < 3) = false := by simp; omega
 clear h1
 have HLH := hH (fun W (hh : Keeps noBlk w W) => (show Calls Tryd.prog 47 #[y.val, Pk.val (⟨(k : Int) + 1, kd, pf, pt, pm, pu, c.st.x.ver⟩ : Pk)] W (fun e w' => e = .returned (.bool true) ∧ Keeps noBlk W w') from by rw [← h2]; exact l3Has_any y.x y.A1 y.A2 y.A3 y.A4 y.c1 y.c2 y.c3 y.c4 (⟨(k : Int) + 1, kd, pf, pt, pm, pu, c.st.x.ver⟩ : Pk) W (HYR.out.kept hh).at_ hyl))
 clear h2 hyl hy8
 unfold StM.val Pk.val at HLH
 unfold ChM.val StM.val Pk.val
 (try dsimp only at HLH)
 (try dsimp only)
 go_enter Tryd.func95, Tryd.ntmps95
 go_wp2_with fail
 refine (HLH.out _ HK.out).mono ?_
 rintro e w1 ⟨rfl, hk1⟩
 replace HBC := hH (HBC.out.keeps hk1 (fun h => h))
 replace HBY := hH (HBY.out.keeps hk1 (fun h => h))
 replace HBP := hH (HBP.out.keeps hk1 (fun h => h))
 replace HBZ := hH (HBZ.out.keeps hk1 (fun h => h))
 replace HBS := hH (HBS.out.keeps hk1 (fun h => h))
 replace HK := hH (HK.out.trans hk1)
 have hb := HBC.out
 obtain ⟨C0, C1, C2, C3, C4, C5, C6, C7, C8, C9, C10, C11, C12⟩ := hb.cells13
 have Cz := hb.lt
 clear hb
 have hb := HBP.out
 obtain ⟨P0, P1, P2, P3, P4, P5, P6⟩ := hb.cells7
 have Pz := hb.lt
 clear hb
 have hb := HBS.out
 have S0 := hb.cell 0
 have S1 := hb.cell 1
 have S6 := hb.cell 6
 simp at S0 S1 S6
 have Sz := hb.lt
 clear hb
 have hb := HBZ.out
 obtain ⟨Z0, Z1, Z2, Z3, Z4, Z5, Z6, Z7, Z8, Z9, Z10, Z11, Z12⟩ := hb.cells13
 obtain ⟨Zf0, Zf1, Zf2, Zf3, Zf4, Zf5, Zf6, Zf7, Zf8, Zf9, Zf10, Zf11, Zf12⟩ := hb.fz13
 have Zz := hb.lt
 clear hb
 have hz3 : w.heap.size ≤ w.heap.size + 1 + 1 + 1 := by omega
 obtain ⟨gg, eg, lg, rg⟩ := HC.out.2.1.2.2.2.at_ (by rw [HX.out.got]; decide)
 obtain ⟨_, _, e9, _, y0⟩ := (HC.out.kept HK.out).2.1.at_.1.2.2.2.at_ (k := k) (by rw [HX.out.got]; exact hk8)
 rw [eg] at e9
 cases e9
 rw [Nat.zero_add] at y0
 have hgl : k < c.st.x.got.length := by rw [HX.out.got]; exact hk8
 rw [h3] at y0
 clear h3
 have HES := hH eg
 have e5 : decide (pu ≤ (c.past.length : Int) + 1) = true := by simpa using H5.out
 go_wp2
 refine bodyPost_ret (v := .tuple #[.agg #[.int .i64 c.id, .slice c.bk.A1 c.bk.b.own.length c.bk.c1, .slice c.bk.A2 c.bk.b.notes.length c.bk.c2, .int .i64 c.bk.b.locked, .int .i64 c.st.x.way, .int .i64 c.st.x.ver, .int .i64 c.st.x.want, .slice c.st.A1 c.st.x.sent.length c.st.c1, .slice c.st.A2 c.st.x.live.length c.st.c2, .slice c.st.A3 c.st.x.back.length c.st.c3, .slice (some ⟨gg, 0, none⟩) c.st.x.got.length c.st.c4, .slice c.pA c.past.length c.pc, .slice c.kA c.knows.length c.kc], .bool false]) (by simp [results, Tryd.results95, go_sem, *]) rfl ?_
 rw [show (Value.agg #[.int .i64 c.id, .slice c.bk.A1 c.bk.b.own.length c.bk.c1, .slice c.bk.A2 c.bk.b.notes.length c.bk.c2, .int .i64 c.bk.b.locked, .int .i64 c.st.x.way, .int .i64 c.st.x.ver, .int .i64 c.st.x.want, .slice c.st.A1 c.st.x.sent.length c.st.c1, .slice c.st.A2 c.st.x.live.length c.st.c2, .slice c.st.A3 c.st.x.back.length c.st.c3, .slice (some ⟨gg, 0, none⟩) c.st.x.got.length c.st.c4, .slice c.pA c.past.length c.pc, .slice c.kA c.knows.length c.kc]) = c.val by unfold ChM.val; rw [HES.out]]
 exact late_end HG'.out HC.out ((HK.out).new13 hz3)
set_option maxHeartbeats 4000000
set_option maxRecDepth 100000

def getCh (c : ChM) (k : Nat) (b : BankL) (n : Int) : ChM := { c with bk := { c.bk with b := b }, st := { c.st with x := { c.st.x with got := c.st.x.got.set k n } } }
theorem Rw.setI {G : Nat → Nat} {r : Nat} {w : World} {e : TypeId} {g c k : Nat} {xs : List Int} (h : Rw G r w e 1 (.slice (some ⟨g, 0, none⟩) xs.length c) xs.length (vIs xs)) (hk : k < xs.length) (y : Int) :
  Rw G r (w.setCell ⟨g, k, none⟩ (.int .i64 y)) e 1 (.slice (some ⟨g, 0, none⟩) (xs.set k y).length c) (xs.set k y).length (vIs (xs.set k y)) := by
 refine ⟨?_, fun b hb => h.2 b (by simpa [Value.ownBlock] using hb)⟩
 obtain ⟨hl, h2⟩ := h.1
 rcases h2 with ⟨h0, _⟩ | ⟨g', cap', cur, hv, hb, hg, hc, hm, hs, ht⟩
 ·cases h0
 ·cases hv
  have hB : Box w g e cur := hg
  have hB2 := hB.set_ k (.int .i64 y)
  refine ⟨by simp [vIs_length], .inr ⟨g, c, _, by rw [List.length_set], hb, hB2, by rw [List.length_set]; exact hc, hm, by simpa using hs, ?_⟩⟩
  rw [List.length_set]
  apply List.ext_getElem?
  intro j
  have hj0 : (cur.toList.take (xs.length * 1))[j]? = (vIs xs)[j]? := by rw [ht]
  rw [List.getElem?_take] at hj0 ⊢
  simp only [vIs, List.getElem?_map, List.getElem?_set, Array.toList_setIfInBounds, Nat.mul_one] at hj0 ⊢
  by_cases hjk : k = j
  ·subst hjk
   have hks : k < cur.size := by omega
   simp [hk, hks]
  ·rw [if_neg hjk, if_neg hjk]
   exact hj0
theorem l13Get_yes (G : Nat → Nat) (i : Nat) (c : ChM) (y : StM) (k : Nat) (kd pf pt pm pu : Int) (w : World) (hc : ChR G i w c) (hy : StI G w y) (hx : StFit c.st.x) (hyl : y.x.live.length = y.x.sent.length) (hy8 : y.x.sent.length ≤ 8) (hq : okB c.bk.b = true) (hpl : c.past.length ≤ 1000) (h1 : 3 ≤ c.st.x.way) (h2 : l3B y.x (⟨(k : Int) + 1, kd, pf, pt, pm, pu, c.st.x.ver⟩ : Pk) = true) (hk8 : k < 8) (h3 : c.st.x.got.getD k 0 = 0) (h5 : (c.past.length : Int) + 1 < pu) (hu : pt = 0 ∨ userB pt = true) (hm0 : 0 ≤ pm) (hm1 : pm ≤ 1000) :
  Calls Tryd.prog 95 #[c.val, y.val, Pk.val (⟨(k : Int) + 1, kd, pf, pt, pm, pu, c.st.x.ver⟩ : Pk)] w (RetLate G i w (getCh c k (payB c.bk.b (⟨(k : Int) + 1, kd, pf, pt, pm, pu, c.st.x.ver⟩ : Pk)) (payN c.bk.b (⟨(k : Int) + 1, kd, pf, pt, pm, pu, c.st.x.ver⟩ : Pk))) true) := by
 have H5 := hH h5
 clear h5
 have hc := hc.ext (G' := up G w.heap.size 0) fun b hb => up_old hb
 have hy := hy.ext (G' := up G w.heap.size 0) fun b hb => up_old hb
 have HG := hH (show ∀ b, w.heap.size ≤ b → up G w.heap.size 0 b = 0 from fun b hb => up_new hb)
 have HG' := hH (show ∀ b, b < w.heap.size → up G w.heap.size 0 b = G b from fun b hb => up_old hb)
 generalize up G w.heap.size 0 = G0 at hc hy HG HG'
 have HC := hH hc
 have HYR := hH hy
 clear hc hy
 have HX := hH hx
 have HQ := hH hq
 clear hx hq
 have HBC := hH (((((Box.new w (w.heap.size) (by simp) 94 (chC c)).alloc (.cells (smC y) 27)).alloc (.cells #[.int .i64 ((k : Int) + 1), .int .i64 kd, .int .i64 pf, .int .i64 pt, .int .i64 pm, .int .i64 pu, .int .i64 c.st.x.ver] 29)).alloc (.cells zC13 94)).alloc (.cells (smC c.st) 27))
 have HBY := hH ((((Box.new (w.alloc (.cells (chC c) 94)) (w.heap.size + 1) (by simp) 27 (smC y)).alloc (.cells #[.int .i64 ((k : Int) + 1), .int .i64 kd, .int .i64 pf, .int .i64 pt, .int .i64 pm, .int .i64 pu, .int .i64 c.st.x.ver] 29)).alloc (.cells zC13 94)).alloc (.cells (smC c.st) 27))
 have HBP := hH (((Box.new ((w.alloc (.cells (chC c) 94)).alloc (.cells (smC y) 27)) (w.heap.size + 1 + 1) (by simp) 29 #[.int .i64 ((k : Int) + 1), .int .i64 kd, .int .i64 pf, .int .i64 pt, .int .i64 pm, .int .i64 pu, .int .i64 c.st.x.ver]).alloc (.cells zC13 94)).alloc (.cells (smC c.st) 27))
 have HBZ := hH ((Box.new (((w.alloc (.cells (chC c) 94)).alloc (.cells (smC y) 27)).alloc (.cells #[.int .i64 ((k : Int) + 1), .int .i64 kd, .int .i64 pf, .int .i64 pt, .int .i64 pm, .int .i64 pu, .int .i64 c.st.x.ver] 29)) (w.heap.size + 1 + 1 + 1) (by simp) 94 zC13).alloc (.cells (smC c.st) 27))
 have HBS := hH (Box.new ((((w.alloc (.cells (chC c) 94)).alloc (.cells (smC y) 27)).alloc (.cells #[.int .i64 ((k : Int) + 1), .int .i64 kd, .int .i64 pf, .int .i64 pt, .int .i64 pm, .int .i64 pu, .int .i64 c.st.x.ver] 29)).alloc (.cells zC13 94)) (w.heap.size + 1 + 1 + 1 + 1) (by simp) 27 (smC c.st))
 have HK := hH ((((((Keeps.refl (noBlk) w).alloc (.cells (chC c) 94)).alloc (.cells (smC y) 27)).alloc (.cells #[.int .i64 ((k : Int) + 1), .int .i64 kd, .int .i64 pf, .int .i64 pt, .int .i64 pm, .int .i64 pu, .int .i64 c.st.x.ver] 29)).alloc (.cells zC13 94)).alloc (.cells (smC c.st) 27))
 have hsz : w.heap.size + 5 ≤ (((((w.alloc (.cells (chC c) 94)).alloc (.cells (smC y) 27)).alloc (.cells #[.int .i64 ((k : Int) + 1), .int .i64 kd, .int .i64 pf, .int .i64 pt, .int .i64 pm, .int .i64 pu, .int .i64 c.st.x.ver] 29)).alloc (.cells zC13 94)).alloc (.cells (smC c.st) 27)).heap.size := by simp
 have e1 : decide (c.st.x.way < 3) = false := by simp; omega
 clear h1
 have HLH := hH (fun W (hh : Keeps noBlk w W) => (show Calls Tryd.prog 47 #[y.val, Pk.val (⟨(k : Int) + 1, kd, pf, pt, pm, pu, c.st.x.ver⟩ : Pk)] W (fun e w' => e = .returned (.bool true) ∧ Keeps noBlk W w') from by rw [← h2]; exact l3Has_any y.x y.A1 y.A2 y.A3 y.A4 y.c1 y.c2 y.c3 y.c4 (⟨(k : Int) + 1, kd, pf, pt, pm, pu, c.st.x.ver⟩ : Pk) W (HYR.out.kept hh).at_ hyl))
 clear h2 hyl hy8
 unfold StM.val Pk.val at HLH
 unfold ChM.val StM.val Pk.val
 (try dsimp only at HLH)
 (try dsimp only)
 go_enter Tryd.func95, Tryd.ntmps95
 go_wp2_with fail
 refine (HLH.out _ HK.out).mono ?_
 rintro e w1 ⟨rfl, hk1⟩
 replace HBC := hH (HBC.out.keeps hk1 (fun h => h))
 replace HBY := hH (HBY.out.keeps hk1 (fun h => h))
 replace HBP := hH (HBP.out.keeps hk1 (fun h => h))
 replace HBZ := hH (HBZ.out.keeps hk1 (fun h => h))
 replace HBS := hH (HBS.out.keeps hk1 (fun h => h))
 replace HK := hH (HK.out.trans hk1)
 have hb := HBC.out
 obtain ⟨C0, C1, C2, C3, C4, C5, C6, C7, C8, C9, C10, C11, C12⟩ := hb.cells13
 have Cz := hb.lt
 clear hb
 have hb := HBP.out
 obtain ⟨P0, P1, P2, P3, P4, P5, P6⟩ := hb.cells7
 have Pz := hb.lt
 clear hb
 have hb := HBS.out
 have S0 := hb.cell 0
 have S1 := hb.cell 1
 have S6 := hb.cell 6
 simp at S0 S1 S6
 have Sz := hb.lt
 clear hb
 have hb := HBZ.out
 obtain ⟨Z0, Z1, Z2, Z3, Z4, Z5, Z6, Z7, Z8, Z9, Z10, Z11, Z12⟩ := hb.cells13
 obtain ⟨Zf0, Zf1, Zf2, Zf3, Zf4, Zf5, Zf6, Zf7, Zf8, Zf9, Zf10, Zf11, Zf12⟩ := hb.fz13
 have Zz := hb.lt
 clear hb
 have hz3 : w.heap.size ≤ w.heap.size + 1 + 1 + 1 := by omega
 obtain ⟨gg, eg, lg, rg⟩ := HC.out.2.1.2.2.2.at_ (by rw [HX.out.got]; decide)
 obtain ⟨_, _, e9, _, y0⟩ := (HC.out.kept HK.out).2.1.at_.1.2.2.2.at_ (k := k) (by rw [HX.out.got]; exact hk8)
 rw [eg] at e9
 cases e9
 rw [Nat.zero_add] at y0
 have hgl : k < c.st.x.got.length := by rw [HX.out.got]; exact hk8
 rw [h3] at y0
 clear h3
 have HES := hH eg
 have e5 : decide (pu ≤ (c.past.length : Int) + 1) = false := by have := H5.out; simp; omega
 have HTP := hH (l13Pay_any G0 i c.bk (⟨(k : Int) + 1, kd, pf, pt, pm, pu, c.st.x.ver⟩ : Pk) w1 (HC.out.1.keeps HK.out (fun _ _ _ _ _ h => h)) (fun b hb => HG.out b (by have := HK.out.size; omega)) HQ.out hu hm0 hm1)
 have HCW := hH (HC.out.kept HK.out)
 generalize hEB : payB c.bk.b (⟨(k : Int) + 1, kd, pf, pt, pm, pu, c.st.x.ver⟩ : Pk) = b' at HTP
 have HEB := hH hEB
 clear hEB
 generalize hEN : payN c.bk.b (⟨(k : Int) + 1, kd, pf, pt, pm, pu, c.st.x.ver⟩ : Pk) = n' at HTP
 have HEN := hH hEN
 clear hEN
 obtain ⟨own', notes', lk'⟩ := b'
 unfold RetPay BkM.val Pk.val at HTP
 dsimp only at HTP
 go_wp2_with fail
 refine HTP.out.mono ?_
 rintro e w2 ⟨rfl, hb2, hk2⟩
 clear C0 C1 C2 C3 C4 C5 C6 C7 C8 C9 C10 C11 C12 Cz P0 P1 P2 P3 P4 P5 P6 Pz S0 S1 S6 Sz Z0 Z1 Z2 Z3 Z4 Z5 Z6 Z7 Z8 Z9 Z10 Z11 Z12 Zf0 Zf1 Zf2 Zf3 Zf4 Zf5 Zf6 Zf7 Zf8 Zf9 Zf10 Zf11 Zf12 Zz
 have hbC := HBC.out.keeps hk2 (fun e' => by rcases e' with e' | e' <;> (rw [HG.out _ (by omega)] at e'; unfold rl at e'; omega))
 have hbZ := HBZ.out.keeps hk2 (fun e' => by rcases e' with e' | e' <;> (rw [HG.out _ (by omega)] at e'; unfold rl at e'; omega))
 have hbP := HBP.out.keeps hk2 (fun e' => by rcases e' with e' | e' <;> (rw [HG.out _ (by omega)] at e'; unfold rl at e'; omega))
 have hbS := HBS.out.keeps hk2 (fun e' => by rcases e' with e' | e' <;> (rw [HG.out _ (by omega)] at e'; unfold rl at e'; omega))
 have HK2 := hH ((HK.out.more (T := Mt G0 i) fun _ _ h => h.elim).then hk2 fun b _ e => e.mt)
 obtain ⟨hB, ⟨hS1, hS2, hS3, hS4⟩, hP, hI, hN⟩ := HCW.out
 rw [eg] at hS4
 have HS1 := hH (hS1.keeps hk2 (fun b e e' => by rcases e' with e' | e' <;> (rw [e] at e'; unfold rl at e'; omega)))
 have HS2 := hH (hS2.keeps hk2 (fun b e e' => by rcases e' with e' | e' <;> (rw [e] at e'; unfold rl at e'; omega)))
 have HS3 := hH (hS3.keeps hk2 (fun b e e' => by rcases e' with e' | e' <;> (rw [e] at e'; unfold rl at e'; omega)))
 have HS4 := hH (hS4.keeps hk2 (fun b e e' => by rcases e' with e' | e' <;> (rw [e] at e'; unfold rl at e'; omega)))
 have HP := hH (hP.keeps hk2 (fun b e e' => by rcases e' with e' | e' <;> (rw [e] at e'; unfold rl at e'; omega)))
 have HN := hH (hN.keeps hk2 (fun b e e' => by rcases e' with e' | e' <;> (rw [e] at e'; unfold rl at e'; omega)))
 have HI := hH (fun s hs => (hI s hs).keeps hk2 (fun b j _ e e' => by rcases e' with e' | e' <;> (rw [e] at e'; unfold rl im at e'; omega)))
 have HB := hH hb2
 clear hB hS1 hS2 hS3 hS4 hP hI hN
 obtain ⟨_, _, el, _, t0⟩ := (owns_ints HS4.out.1).at_ (k := k) hgl
 cases el
 rw [Nat.zero_add] at t0
 have tf := (owns_cells HS4.out.1).2.2 _ rfl
 obtain ⟨_, ev, _, _, tf⟩ := tf
 cases ev
 have tf := tf k
 rw [Nat.zero_add] at tf
 have x0 := hbC.cell 0
 have z0 := hbZ.cell 0
 have zf0 := hbZ.frozen 0
 have x1 := hbC.cell 1
 have z1 := hbZ.cell 1
 have zf1 := hbZ.frozen 1
 have x2 := hbC.cell 2
 have z2 := hbZ.cell 2
 have zf2 := hbZ.frozen 2
 have x3 := hbC.cell 3
 have z3 := hbZ.cell 3
 have zf3 := hbZ.frozen 3
 have x4 := hbC.cell 4
 have z4 := hbZ.cell 4
 have zf4 := hbZ.frozen 4
 have x5 := hbC.cell 5
 have z5 := hbZ.cell 5
 have zf5 := hbZ.frozen 5
 have x6 := hbC.cell 6
 have z6 := hbZ.cell 6
 have zf6 := hbZ.frozen 6
 have x7 := hbC.cell 7
 have z7 := hbZ.cell 7
 have zf7 := hbZ.frozen 7
 have x8 := hbC.cell 8
 have z8 := hbZ.cell 8
 have zf8 := hbZ.frozen 8
 have x9 := hbC.cell 9
 have z9 := hbZ.cell 9
 have zf9 := hbZ.frozen 9
 have x10 := hbC.cell 10
 have z10 := hbZ.cell 10
 have zf10 := hbZ.frozen 10
 have x11 := hbC.cell 11
 have z11 := hbZ.cell 11
 have zf11 := hbZ.frozen 11
 have x12 := hbC.cell 12
 have z12 := hbZ.cell 12
 have zf12 := hbZ.frozen 12
 have p0 := hbP.cell 0
 have p1 := hbP.cell 1
 have p2 := hbP.cell 2
 have p3 := hbP.cell 3
 have p4 := hbP.cell 4
 have p5 := hbP.cell 5
 have p6 := hbP.cell 6
 simp at x0 z0 x1 z1 x2 z2 x3 z3 x4 z4 x5 z5 x6 z6 x7 z7 x8 z8 x9 z9 x10 z10 x11 z11 x12 z12 p0 p1 p2 p3 p4 p5 p6
 have f1 := hbC.frozen 1
 have f2 := hbC.frozen 2
 have f3 := hbC.frozen 3
 have z2 := hbS.lt
 have hw1 := HK.out.size
 have : gg < w2.heap.size := by omega
 have : gg < w2.heap.size + 1 := by omega
 have : ¬ gg = w2.heap.size := by omega
 have : ¬ w2.heap.size = gg := by omega
 have : w.heap.size < w2.heap.size := by omega
 have : w.heap.size < w2.heap.size + 1 := by omega
 have : ¬ w.heap.size = w2.heap.size := by omega
 have : ¬ w2.heap.size = w.heap.size := by omega
 have : w.heap.size + 1 + 1 + 1 < w2.heap.size := by omega
 have : w.heap.size + 1 + 1 + 1 < w2.heap.size + 1 := by omega
 have : ¬ w.heap.size + 1 + 1 + 1 = w2.heap.size := by omega
 have : ¬ w2.heap.size = w.heap.size + 1 + 1 + 1 := by omega
 have : w.heap.size + 1 + 1 < w2.heap.size := by omega
 have : w.heap.size + 1 + 1 < w2.heap.size + 1 := by omega
 have : ¬ w.heap.size + 1 + 1 = w2.heap.size := by omega
 have : ¬ w2.heap.size = w.heap.size + 1 + 1 := by omega
 have : ¬ gg = w.heap.size := by omega
 have : ¬ w.heap.size = gg := by omega
 have : ¬ gg = w.heap.size + 1 + 1 + 1 := by omega
 have : ¬ w.heap.size + 1 + 1 + 1 = gg := by omega
 clear hbC hbZ hbP hbS hk2 hb2 HBC HBZ HBP HBS HBY HTP HCW HK y0
 go_wp2
 refine bodyPost_ret (v := .tuple #[.agg #[.int .i64 c.id, .slice c.bk.A1 own'.length c.bk.c1, .slice c.bk.A2 notes'.length c.bk.c2, .int .i64 lk', .int .i64 c.st.x.way, .int .i64 c.st.x.ver, .int .i64 c.st.x.want, .slice c.st.A1 c.st.x.sent.length c.st.c1, .slice c.st.A2 c.st.x.live.length c.st.c2, .slice c.st.A3 c.st.x.back.length c.st.c3, .slice (some ⟨gg, 0, none⟩) c.st.x.got.length c.st.c4, .slice c.pA c.past.length c.pc, .slice c.kA c.knows.length c.kc], .bool true]) (by simp [results, Tryd.results95, go_sem, *]) rfl ?_
 have kC : Keeps (fun b => w.heap.size ≤ b) w2 (((w2.setCell ⟨w.heap.size, 1, none⟩ (.slice c.bk.A1 own'.length c.bk.c1)).setCell ⟨w.heap.size, 2, none⟩ (.slice c.bk.A2 notes'.length c.bk.c2)).setCell ⟨w.heap.size, 3, none⟩ (.int .i64 lk')) := ((((Keeps.refl (fun b => w.heap.size ≤ b) w2).setCell (p := ⟨w.heap.size, 1, none⟩) (.inr (Nat.le_refl _)) _).setCell (p := ⟨w.heap.size, 2, none⟩) (.inr (Nat.le_refl _)) _).setCell (p := ⟨w.heap.size, 3, none⟩) (.inr (Nat.le_refl _)) _)
 have kB : Keeps (fun b => G0 b = rl i 3) (((w2.setCell ⟨w.heap.size, 1, none⟩ (.slice c.bk.A1 own'.length c.bk.c1)).setCell ⟨w.heap.size, 2, none⟩ (.slice c.bk.A2 notes'.length c.bk.c2)).setCell ⟨w.heap.size, 3, none⟩ (.int .i64 lk')) ((((w2.setCell ⟨w.heap.size, 1, none⟩ (.slice c.bk.A1 own'.length c.bk.c1)).setCell ⟨w.heap.size, 2, none⟩ (.slice c.bk.A2 notes'.length c.bk.c2)).setCell ⟨w.heap.size, 3, none⟩ (.int .i64 lk')).setCell ⟨gg, k, none⟩ (.int .i64 n')) := (Keeps.refl _ _).setCell (p := ⟨gg, k, none⟩) (.inr rg) _
 have kZ : Keeps (fun b => w.heap.size ≤ b) ((((w2.setCell ⟨w.heap.size, 1, none⟩ (.slice c.bk.A1 own'.length c.bk.c1)).setCell ⟨w.heap.size, 2, none⟩ (.slice c.bk.A2 notes'.length c.bk.c2)).setCell ⟨w.heap.size, 3, none⟩ (.int .i64 lk')).setCell ⟨gg, k, none⟩ (.int .i64 n')) ((((((((((((((((((w2.setCell ⟨w.heap.size, 1, none⟩ (.slice c.bk.A1 own'.length c.bk.c1)).setCell ⟨w.heap.size, 2, none⟩ (.slice c.bk.A2 notes'.length c.bk.c2)).setCell ⟨w.heap.size, 3, none⟩ (.int .i64 lk')).setCell ⟨gg, k, none⟩ (.int .i64 n')).setCell ⟨w.heap.size + 1 + 1 + 1, 0, none⟩ (.int .i64 c.id)).setCell ⟨w.heap.size + 1 + 1 + 1, 1, none⟩ (.slice c.bk.A1 own'.length c.bk.c1)).setCell ⟨w.heap.size + 1 + 1 + 1, 2, none⟩ (.slice c.bk.A2 notes'.length c.bk.c2)).setCell ⟨w.heap.size + 1 + 1 + 1, 3, none⟩ (.int .i64 lk')).setCell ⟨w.heap.size + 1 + 1 + 1, 4, none⟩ (.int .i64 c.st.x.way)).setCell ⟨w.heap.size + 1 + 1 + 1, 5, none⟩ (.int .i64 c.st.x.ver)).setCell ⟨w.heap.size + 1 + 1 + 1, 6, none⟩ (.int .i64 c.st.x.want)).setCell ⟨w.heap.size + 1 + 1 + 1, 7, none⟩ (.slice c.st.A1 c.st.x.sent.length c.st.c1)).setCell ⟨w.heap.size + 1 + 1 + 1, 8, none⟩ (.slice c.st.A2 c.st.x.live.length c.st.c2)).setCell ⟨w.heap.size + 1 + 1 + 1, 9, none⟩ (.slice c.st.A3 c.st.x.back.length c.st.c3)).setCell ⟨w.heap.size + 1 + 1 + 1, 10, none⟩ (.slice (some ⟨gg, 0, none⟩) c.st.x.got.length c.st.c4)).setCell ⟨w.heap.size + 1 + 1 + 1, 11, none⟩ (.slice c.pA c.past.length c.pc)).setCell ⟨w.heap.size + 1 + 1 + 1, 12, none⟩ (.slice c.kA c.knows.length c.kc)).alloc (.cells #[.slice c.bk.A1 own'.length c.bk.c1, .slice c.bk.A2 notes'.length c.bk.c2, .int .i64 lk'] 91)) := (((Keeps.refl (fun b => w.heap.size ≤ b) ((((w2.setCell ⟨w.heap.size, 1, none⟩ (.slice c.bk.A1 own'.length c.bk.c1)).setCell ⟨w.heap.size, 2, none⟩ (.slice c.bk.A2 notes'.length c.bk.c2)).setCell ⟨w.heap.size, 3, none⟩ (.int .i64 lk')).setCell ⟨gg, k, none⟩ (.int .i64 n'))).put13 (w.heap.size + 1 + 1 + 1) (.inr (by first | omega | (dsimp only; omega))))).alloc _
 generalize ((((((((((((((((((w2.setCell ⟨w.heap.size, 1, none⟩ (.slice c.bk.A1 own'.length c.bk.c1)).setCell ⟨w.heap.size, 2, none⟩ (.slice c.bk.A2 notes'.length c.bk.c2)).setCell ⟨w.heap.size, 3, none⟩ (.int .i64 lk')).setCell ⟨gg, k, none⟩ (.int .i64 n')).setCell ⟨w.heap.size + 1 + 1 + 1, 0, none⟩ (.int .i64 c.id)).setCell ⟨w.heap.size + 1 + 1 + 1, 1, none⟩ (.slice c.bk.A1 own'.length c.bk.c1)).setCell ⟨w.heap.size + 1 + 1 + 1, 2, none⟩ (.slice c.bk.A2 notes'.length c.bk.c2)).setCell ⟨w.heap.size + 1 + 1 + 1, 3, none⟩ (.int .i64 lk')).setCell ⟨w.heap.size + 1 + 1 + 1, 4, none⟩ (.int .i64 c.st.x.way)).setCell ⟨w.heap.size + 1 + 1 + 1, 5, none⟩ (.int .i64 c.st.x.ver)).setCell ⟨w.heap.size + 1 + 1 + 1, 6, none⟩ (.int .i64 c.st.x.want)).setCell ⟨w.heap.size + 1 + 1 + 1, 7, none⟩ (.slice c.st.A1 c.st.x.sent.length c.st.c1)).setCell ⟨w.heap.size + 1 + 1 + 1, 8, none⟩ (.slice c.st.A2 c.st.x.live.length c.st.c2)).setCell ⟨w.heap.size + 1 + 1 + 1, 9, none⟩ (.slice c.st.A3 c.st.x.back.length c.st.c3)).setCell ⟨w.heap.size + 1 + 1 + 1, 10, none⟩ (.slice (some ⟨gg, 0, none⟩) c.st.x.got.length c.st.c4)).setCell ⟨w.heap.size + 1 + 1 + 1, 11, none⟩ (.slice c.pA c.past.length c.pc)).setCell ⟨w.heap.size + 1 + 1 + 1, 12, none⟩ (.slice c.kA c.knows.length c.kc)).alloc (.cells #[.slice c.bk.A1 own'.length c.bk.c1, .slice c.bk.A2 notes'.length c.bk.c2, .int .i64 lk'] 91)) = WF at kZ ⊢
 rw [HEB.out, HEN.out]
 refine ⟨G0, by simp [getCh, ChM.val, HES.out], HG'.out, ?_, ?_⟩
 ·refine ⟨((HB.out.keeps kC (fun b j h4 h6 e e' => by rw [HG.out b e'] at e; unfold rl at e; omega)).keeps kB (fun b j h4 h6 e e' => by rw [e] at e'; unfold rl at e'; omega)).keeps kZ (fun b j h4 h6 e e' => by rw [HG.out b e'] at e; unfold rl at e; omega),
   ⟨(((HS1.out.keeps kC (fun b e e' => by rw [HG.out b e'] at e; unfold rl at e; omega)).keeps kB (fun b e e' => by rw [e] at e'; unfold rl at e'; omega)).keeps kZ (fun b e e' => by rw [HG.out b e'] at e; unfold rl at e; omega)), (((HS2.out.keeps kC (fun b e e' => by rw [HG.out b e'] at e; unfold rl at e; omega)).keeps kB (fun b e e' => by rw [e] at e'; unfold rl at e'; omega)).keeps kZ (fun b e e' => by rw [HG.out b e'] at e; unfold rl at e; omega)), (((HS3.out.keeps kC (fun b e e' => by rw [HG.out b e'] at e; unfold rl at e; omega)).keeps kB (fun b e e' => by rw [e] at e'; unfold rl at e'; omega)).keeps kZ (fun b e e' => by rw [HG.out b e'] at e; unfold rl at e; omega)), ?_⟩, (((HP.out.keeps kC (fun b e e' => by rw [HG.out b e'] at e; unfold rl at e; omega)).keeps kB (fun b e e' => by rw [e] at e'; unfold rl at e'; omega)).keeps kZ (fun b e e' => by rw [HG.out b e'] at e; unfold rl at e; omega)),
   fun s hs => (((HI.out s hs).keeps kC (fun b j _ e e' => by rw [HG.out b e'] at e; unfold im at e; omega)).keeps kB (fun b j _ e e' => by rw [e] at e'; unfold rl im at e'; omega)).keeps kZ (fun b j _ e e' => by rw [HG.out b e'] at e; unfold im at e; omega),
   (((HN.out.keeps kC (fun b e e' => by rw [HG.out b e'] at e; omega)).keeps kB (fun b e e' => by rw [e] at e'; unfold rl at e'; omega)).keeps kZ (fun b e e' => by rw [HG.out b e'] at e; omega))⟩
  unfold getCh
  dsimp only
  rw [HES.out]
  exact ((HS4.out.keeps kC (fun b e e' => by rw [HG.out b e'] at e; unfold rl at e; omega)).setI hgl n').keeps kZ (fun b e e' => by rw [HG.out b e'] at e; unfold rl at e; omega)
 ·refine ((((HK2.out.then kC fun b hb e => by omega).then kB fun b _ e => ⟨3, by decide, e⟩).then kZ fun b hb e => by omega)).more fun b hb e => ?_
  obtain ⟨j, hj, e⟩ := e
  exact ⟨j, hj, by rw [← HG'.out b hb]; exact e⟩
def getOk (c : ChM) (y : StL) (p : Pk) : Bool := decide (3 ≤ c.st.x.way) && l3B y p && decide (c.st.x.got.getD (p.s - 1).toNat 0 = 0) && decide (p.v = c.st.x.ver) && decide ((c.past.length : Int) + 1 < p.u)
def getTo (c : ChM) (y : StL) (p : Pk) : ChM := if getOk c y p = true then getCh c (p.s - 1).toNat (payB c.bk.b p) (payN c.bk.b p) else c
theorem l13Get_any (G : Nat → Nat) (i : Nat) (c : ChM) (y : StM) (p : Pk) (w : World) (hc : ChR G i w c) (hy : StI G w y) (hx : StFit c.st.x) (hyl : y.x.live.length = y.x.sent.length) (hy8 : y.x.sent.length ≤ 8) (hq : okB c.bk.b = true) (hpl : c.past.length ≤ 1000) (hp : p.ok = true) :
  Calls Tryd.prog 95 #[c.val, y.val, p.val] w (RetLate G i w (getTo c y.x p) (getOk c y.x p)) := by
 have pp := pkB_parts hp
 have hno : ∀ {o : Bool}, getOk c y.x p = o → o = false → RetLate G i w c false = RetLate G i w (getTo c y.x p) (getOk c y.x p) := by
  intro o h1 h2
  rw [h2] at h1
  unfold getTo
  rw [h1]
  rfl
 by_cases h1 : 3 ≤ c.st.x.way
 ·cases h2 : l3B y.x p with
  | false =>
   rw [← hno (o := getOk c y.x p) rfl (by simp [getOk, h2])]
   exact l13Get_none G i c y p w hc hy hx hyl hy8 hq hpl h1 h2
  | true =>
   obtain ⟨k, hk⟩ : ∃ k : Nat, p.s = (k : Int) + 1 := ⟨(p.s - 1).toNat, by omega⟩
   have hkn : (p.s - 1).toNat = k := by omega
   have hk8 : k < 8 := by omega
   by_cases h3 : c.st.x.got.getD k 0 = 0
   ·by_cases h4 : p.v = c.st.x.ver
    ·obtain ⟨ps, kd, pf, pt, pm, pu, pv⟩ := p
     dsimp only at *
     subst hk
     subst h4
     by_cases h5 : (c.past.length : Int) + 1 < pu
     ·have hg : getOk c y.x ⟨(k : Int) + 1, kd, pf, pt, pm, pu, c.st.x.ver⟩ = true := by unfold getOk; dsimp only; rw [hkn, decide_eq_true h1, h2, decide_eq_true h3, decide_eq_true h5]; simp
      unfold getTo
      rw [hg, if_pos rfl, hkn]
      refine l13Get_yes G i c y k kd pf pt pm pu w hc hy hx hyl hy8 hq hpl h1 h2 hk8 h3 h5 ?_ (by omega) (by omega)
      by_cases ht : pt = 0
      ·exact .inl ht
      ·exact .inr (by simp [userB]; omega)
     ·rw [← hno (o := getOk c y.x _) rfl (by simp [getOk, h5])]
      exact l13Get_time G i c y k kd pf pt pm pu w hc hy hx hyl hy8 hq hpl h1 h2 hk8 h3 (by omega)
    ·rw [← hno (o := getOk c y.x p) rfl (by simp [getOk, h4])]
     exact l13Get_ver G i c y p w hc hy hx hyl hy8 hq hpl h1 h2 k hk hk8 h3 h4
   ·rw [← hno (o := getOk c y.x p) rfl (by unfold getOk; rw [hkn, decide_eq_false h3]; simp)]
    exact l13Get_came G i c y p w hc hy hx hyl hy8 hq hpl h1 h2 k hk hk8 h3
 ·rw [← hno (o := getOk c y.x p) rfl (by simp [getOk, h1])]
  exact l13Get_shut G i c y p w hc hy hx hyl hy8 hq hpl (by omega)
end Go.Proofs.YtjcbeihoeanhaaaDoor
