/- l21Do of the model: something happens in a world of two chains. -/
import Derived.Test.YtjcbeihoeanhaaaDoorUChF
set_option maxRecDepth 100000
set_option maxHeartbeats 8000000
set_option linter.unusedVariables false
set_option linter.unusedSimpArgs false
namespace Go.Proofs.YtjcbeihoeanhaaaDoor
open Go.RowKit

structure WdM where
 a : ChM
 b : ChM
 g : Nat
def WdM.val (m : WdM) : Value := .agg #[.slice (some ⟨m.g, 0, none⟩) 2 2]
def WdR (G : Nat → Nat) (w : World) (m : WdM) : Prop := Box w m.g 94 (m.a.cs ++ m.b.cs).toArray ∧ G m.g = 2 ∧ ChR G 0 w m.a ∧ ChR G 1 w m.b
structure WdOk (m : WdM) (q : Nat) : Prop where
 a : ChOk m.a
 b : ChOk m.b
 ka : m.a.knows.length ≤ q
 kb : m.b.knows.length ≤ q
def MtW (G : Nat → Nat) (b : Nat) : Prop := Mt G 0 b ∨ Mt G 1 b ∨ G b = 2
def RetWd (G : Nat → Nat) (w : World) (q : Nat) (e : Ending) (w' : World) : Prop :=
 ∃ (G' : Nat → Nat) (m : WdM), e = .returned m.val ∧ WdOk m q ∧ (∀ b, b < w.heap.size → G' b = G b) ∧ WdR G' w' m ∧ Keeps (MtW G) w w'
def chS (W : World) (b o : Nat) (c : ChM) : World := (((((((((((((W.setCell ⟨b, o, none⟩ (.int .i64 c.id)).setCell ⟨b, o + 1, none⟩ (.slice c.bk.A1 c.bk.b.own.length c.bk.c1)).setCell ⟨b, o + 2, none⟩ (.slice c.bk.A2 c.bk.b.notes.length c.bk.c2)).setCell ⟨b, o + 3, none⟩ (.int .i64 c.bk.b.locked)).setCell ⟨b, o + 4, none⟩ (.int .i64 c.st.x.way)).setCell ⟨b, o + 5, none⟩ (.int .i64 c.st.x.ver)).setCell ⟨b, o + 6, none⟩ (.int .i64 c.st.x.want)).setCell ⟨b, o + 7, none⟩ (.slice c.st.A1 c.st.x.sent.length c.st.c1)).setCell ⟨b, o + 8, none⟩ (.slice c.st.A2 c.st.x.live.length c.st.c2)).setCell ⟨b, o + 9, none⟩ (.slice c.st.A3 c.st.x.back.length c.st.c3)).setCell ⟨b, o + 10, none⟩ (.slice c.st.A4 c.st.x.got.length c.st.c4)).setCell ⟨b, o + 11, none⟩ (.slice c.pA c.past.length c.pc)).setCell ⟨b, o + 12, none⟩ (.slice c.kA c.knows.length c.kc))
theorem chS_keeps (W : World) (b o : Nat) (c : ChM) : Keeps (fun i => i = b) W (chS W b o c) := ((((((((((((((Keeps.refl (fun i => i = b) W).setCell (p := ⟨b, o, none⟩) (.inr rfl) (.int .i64 c.id)).setCell (p := ⟨b, o + 1, none⟩) (.inr rfl) (.slice c.bk.A1 c.bk.b.own.length c.bk.c1)).setCell (p := ⟨b, o + 2, none⟩) (.inr rfl) (.slice c.bk.A2 c.bk.b.notes.length c.bk.c2)).setCell (p := ⟨b, o + 3, none⟩) (.inr rfl) (.int .i64 c.bk.b.locked)).setCell (p := ⟨b, o + 4, none⟩) (.inr rfl) (.int .i64 c.st.x.way)).setCell (p := ⟨b, o + 5, none⟩) (.inr rfl) (.int .i64 c.st.x.ver)).setCell (p := ⟨b, o + 6, none⟩) (.inr rfl) (.int .i64 c.st.x.want)).setCell (p := ⟨b, o + 7, none⟩) (.inr rfl) (.slice c.st.A1 c.st.x.sent.length c.st.c1)).setCell (p := ⟨b, o + 8, none⟩) (.inr rfl) (.slice c.st.A2 c.st.x.live.length c.st.c2)).setCell (p := ⟨b, o + 9, none⟩) (.inr rfl) (.slice c.st.A3 c.st.x.back.length c.st.c3)).setCell (p := ⟨b, o + 10, none⟩) (.inr rfl) (.slice c.st.A4 c.st.x.got.length c.st.c4)).setCell (p := ⟨b, o + 11, none⟩) (.inr rfl) (.slice c.pA c.past.length c.pc)).setCell (p := ⟨b, o + 12, none⟩) (.inr rfl) (.slice c.kA c.knows.length c.kc))
def WdM.at_ (m : WdM) (x : Nat) (c : ChM) : WdM := if x = 0 then ⟨c, m.b, m.g⟩ else ⟨m.a, c, m.g⟩
theorem WdM.at_g (m : WdM) (x : Nat) (c : ChM) : (m.at_ x c).g = m.g := by unfold WdM.at_; split <;> rfl
theorem chS_box {W : World} {m : WdM} (h : Box W m.g 94 (m.a.cs ++ m.b.cs).toArray) {x : Nat} (hx : x < 2) (c : ChM) : Box (chS W m.g (x * 13) c) m.g 94 ((m.at_ x c).a.cs ++ (m.at_ x c).b.cs).toArray := by
 have h2 : x = 0 ∨ x = 1 := by omega
 rcases h2 with rfl | rfl
 ·have hb := (((((((((((((h.set_ 0 (.int .i64 c.id)).set_ 1 (.slice c.bk.A1 c.bk.b.own.length c.bk.c1)).set_ 2 (.slice c.bk.A2 c.bk.b.notes.length c.bk.c2)).set_ 3 (.int .i64 c.bk.b.locked)).set_ 4 (.int .i64 c.st.x.way)).set_ 5 (.int .i64 c.st.x.ver)).set_ 6 (.int .i64 c.st.x.want)).set_ 7 (.slice c.st.A1 c.st.x.sent.length c.st.c1)).set_ 8 (.slice c.st.A2 c.st.x.live.length c.st.c2)).set_ 9 (.slice c.st.A3 c.st.x.back.length c.st.c3)).set_ 10 (.slice c.st.A4 c.st.x.got.length c.st.c4)).set_ 11 (.slice c.pA c.past.length c.pc)).set_ 12 (.slice c.kA c.knows.length c.kc))
  simp only [ChM.cs, List.cons_append, List.nil_append, sx] at hb; exact hb
 ·have hb := (((((((((((((h.set_ 13 (.int .i64 c.id)).set_ 14 (.slice c.bk.A1 c.bk.b.own.length c.bk.c1)).set_ 15 (.slice c.bk.A2 c.bk.b.notes.length c.bk.c2)).set_ 16 (.int .i64 c.bk.b.locked)).set_ 17 (.int .i64 c.st.x.way)).set_ 18 (.int .i64 c.st.x.ver)).set_ 19 (.int .i64 c.st.x.want)).set_ 20 (.slice c.st.A1 c.st.x.sent.length c.st.c1)).set_ 21 (.slice c.st.A2 c.st.x.live.length c.st.c2)).set_ 22 (.slice c.st.A3 c.st.x.back.length c.st.c3)).set_ 23 (.slice c.st.A4 c.st.x.got.length c.st.c4)).set_ 24 (.slice c.pA c.past.length c.pc)).set_ 25 (.slice c.kA c.knows.length c.kc))
  simp only [ChM.cs, List.cons_append, List.nil_append, sx] at hb; exact hb
theorem l21Do_g (G : Nat → Nat) (m : WdM) (kd h n : Int) (p : Pk) (q : Nat) (w : World) (hw : WdR G w m) (ok : WdOk m q) (ch : Int) (xm xo : Nat) (me ot : ChM) (hx1 : ch - 1 = (xm : Int)) (hx2 : 2 - ch = (xo : Int)) (hx3 : xm < 2) (hx4 : xo < 2) (hxn : xm ≠ xo) (hin : in2 ch 1 2 = true)
  (hcm : ∀ (q : Nat) v, me.cs[q]? = some v → (m.a.cs ++ m.b.cs).toArray[xm * 13 + q]? = some v) (hco : ∀ (q : Nat) v, ot.cs[q]? = some v → (m.a.cs ++ m.b.cs).toArray[xo * 13 + q]? = some v)
  (ha : ChR G xm w me) (hbb : ChR G xo w ot) (hfin : ∀ c1 G1 w2, ChR G1 xm w2 c1 → ChR G1 xo w2 ot → Nxt me c1 → WdOk (m.at_ xm c1) (q + 1) ∧ ChR G1 0 w2 (m.at_ xm c1).a ∧ ChR G1 1 w2 (m.at_ xm c1).b) (hmt : ∀ b, Mt G xm b → MtW G b)
  (hcl : ∀ G0 : Nat → Nat, ∀ W, ChR G0 xm W me → ChR G0 xo W ot → Calls Tryd.prog 84 #[me.val, ot.val, Ev.val ⟨kd, ch, h, n, p⟩] W (RetCh G0 xm W (Nxt me))) :
  Calls Tryd.prog 79 #[m.val, Ev.val ⟨kd, ch, h, n, p⟩] w (RetWd G w (q + 1)) := by
 obtain ⟨hb, hg, _, _⟩ := hw
 have hwx1 : IntKind.i64.wrap (ch - 1) = (xm : Int) := by rw [hx1]; exact IntWalk.i64_in _ (by omega)
 have hwx2 : IntKind.i64.wrap (2 - ch) = (xo : Int) := by rw [hx2]; exact IntWalk.i64_in _ (by omega)
 have hwx3 : IntKind.i64.wrap (xm : Int) = (xm : Int) := IntWalk.i64_in _ (by omega); have hwx4 : IntKind.i64.wrap (xo : Int) = (xo : Int) := IntWalk.i64_in _ (by omega)
 have hxi : (xm : Int) < 2 := by omega
 have hxo : (xo : Int) < 2 := by omega
 have HFN := hH hfin; have HMT := hH hmt; have HXN := hH hxn; clear hfin hmt hxn
 have ha := ha.ext (G' := up G w.heap.size 0) fun b hb => up_old hb
 have hbb := hbb.ext (G' := up G w.heap.size 0) fun b hb => up_old hb
 have hg0 : up G w.heap.size 0 m.g = 2 := by rw [up_old hb.lt]; exact hg
 have HG := hH (show ∀ b, w.heap.size ≤ b → up G w.heap.size 0 b = 0 from fun b hb => up_new hb); have HG' := hH (show ∀ b, b < w.heap.size → up G w.heap.size 0 b = G b from fun b hb => up_old hb); generalize up G w.heap.size 0 = G0 at ha hbb hg0 HG HG'; have HCL := hH (fun W (hk : Keeps noBlk w W) => hcl G0 W (ha.kept hk) (hbb.kept hk)); have HA := hH ha; have HB := hH hbb; have HGG := hH hg0; have HBB := hH hb; have HOK := hH ok; have lg := hb.lt; have HIN := hH (fun W => (show Calls Tryd.prog 50 #[.int .i64 ch, .int .i64 1, .int .i64 2] W (fun e w' => e = .returned (.bool true) ∧ W = w') from by have h9 := l6In_any ch 1 2 W; rw [hin] at h9; exact h9)); have g0 : w.cell? ⟨m.g, xm * 13, none⟩ = some (.int .i64 me.id) := (hb.cell _).trans (hcm 0 _ rfl); have g1 : w.cell? ⟨m.g, xm * 13 + 1, none⟩ = some (.slice me.bk.A1 me.bk.b.own.length me.bk.c1) := (hb.cell _).trans (hcm 1 _ rfl); have g2 : w.cell? ⟨m.g, xm * 13 + 2, none⟩ = some (.slice me.bk.A2 me.bk.b.notes.length me.bk.c2) := (hb.cell _).trans (hcm 2 _ rfl); have g3 : w.cell? ⟨m.g, xm * 13 + 3, none⟩ = some (.int .i64 me.bk.b.locked) := (hb.cell _).trans (hcm 3 _ rfl); have g4 : w.cell? ⟨m.g, xm * 13 + 4, none⟩ = some (.int .i64 me.st.x.way) := (hb.cell _).trans (hcm 4 _ rfl); have g5 : w.cell? ⟨m.g, xm * 13 + 5, none⟩ = some (.int .i64 me.st.x.ver) := (hb.cell _).trans (hcm 5 _ rfl); have g6 : w.cell? ⟨m.g, xm * 13 + 6, none⟩ = some (.int .i64 me.st.x.want) := (hb.cell _).trans (hcm 6 _ rfl); have g7 : w.cell? ⟨m.g, xm * 13 + 7, none⟩ = some (.slice me.st.A1 me.st.x.sent.length me.st.c1) := (hb.cell _).trans (hcm 7 _ rfl); have g8 : w.cell? ⟨m.g, xm * 13 + 8, none⟩ = some (.slice me.st.A2 me.st.x.live.length me.st.c2) := (hb.cell _).trans (hcm 8 _ rfl); have g9 : w.cell? ⟨m.g, xm * 13 + 9, none⟩ = some (.slice me.st.A3 me.st.x.back.length me.st.c3) := (hb.cell _).trans (hcm 9 _ rfl); have g10 : w.cell? ⟨m.g, xm * 13 + 10, none⟩ = some (.slice me.st.A4 me.st.x.got.length me.st.c4) := (hb.cell _).trans (hcm 10 _ rfl); have g11 : w.cell? ⟨m.g, xm * 13 + 11, none⟩ = some (.slice me.pA me.past.length me.pc) := (hb.cell _).trans (hcm 11 _ rfl); have g12 : w.cell? ⟨m.g, xm * 13 + 12, none⟩ = some (.slice me.kA me.knows.length me.kc) := (hb.cell _).trans (hcm 12 _ rfl); have g13 : w.cell? ⟨m.g, xo * 13, none⟩ = some (.int .i64 ot.id) := (hb.cell _).trans (hco 0 _ rfl); have g14 : w.cell? ⟨m.g, xo * 13 + 1, none⟩ = some (.slice ot.bk.A1 ot.bk.b.own.length ot.bk.c1) := (hb.cell _).trans (hco 1 _ rfl); have g15 : w.cell? ⟨m.g, xo * 13 + 2, none⟩ = some (.slice ot.bk.A2 ot.bk.b.notes.length ot.bk.c2) := (hb.cell _).trans (hco 2 _ rfl); have g16 : w.cell? ⟨m.g, xo * 13 + 3, none⟩ = some (.int .i64 ot.bk.b.locked) := (hb.cell _).trans (hco 3 _ rfl); have g17 : w.cell? ⟨m.g, xo * 13 + 4, none⟩ = some (.int .i64 ot.st.x.way) := (hb.cell _).trans (hco 4 _ rfl); have g18 : w.cell? ⟨m.g, xo * 13 + 5, none⟩ = some (.int .i64 ot.st.x.ver) := (hb.cell _).trans (hco 5 _ rfl); have g19 : w.cell? ⟨m.g, xo * 13 + 6, none⟩ = some (.int .i64 ot.st.x.want) := (hb.cell _).trans (hco 6 _ rfl); have g20 : w.cell? ⟨m.g, xo * 13 + 7, none⟩ = some (.slice ot.st.A1 ot.st.x.sent.length ot.st.c1) := (hb.cell _).trans (hco 7 _ rfl); have g21 : w.cell? ⟨m.g, xo * 13 + 8, none⟩ = some (.slice ot.st.A2 ot.st.x.live.length ot.st.c2) := (hb.cell _).trans (hco 8 _ rfl); have g22 : w.cell? ⟨m.g, xo * 13 + 9, none⟩ = some (.slice ot.st.A3 ot.st.x.back.length ot.st.c3) := (hb.cell _).trans (hco 9 _ rfl); have g23 : w.cell? ⟨m.g, xo * 13 + 10, none⟩ = some (.slice ot.st.A4 ot.st.x.got.length ot.st.c4) := (hb.cell _).trans (hco 10 _ rfl); have g24 : w.cell? ⟨m.g, xo * 13 + 11, none⟩ = some (.slice ot.pA ot.past.length ot.pc) := (hb.cell _).trans (hco 11 _ rfl); have g25 : w.cell? ⟨m.g, xo * 13 + 12, none⟩ = some (.slice ot.kA ot.knows.length ot.kc) := (hb.cell _).trans (hco 12 _ rfl)
 clear hb hg ha hbb hg0 hcl ok hin hco; unfold RetCh at HCL; unfold ChM.val Ev.val at HCL; dsimp only at HCL; have HBV := hH (((Box.new w (w.heap.size) (by simp) 87 #[.slice (some ⟨m.g, 0, none⟩) 2 2]).alloc (.cells (evC kd ch h n p) 102)).alloc (.cells #[.slice none 0 0] 87)); have HBE := hH ((Box.new (w.alloc (.cells #[.slice (some ⟨m.g, 0, none⟩) 2 2] 87)) (w.heap.size + 1) (by simp) 102 (evC kd ch h n p)).alloc (.cells #[.slice none 0 0] 87)); have HBZ := hH (Box.new ((w.alloc (.cells #[.slice (some ⟨m.g, 0, none⟩) 2 2] 87)).alloc (.cells (evC kd ch h n p) 102)) (w.heap.size + 1 + 1) (by simp) 87 #[.slice none 0 0]); have HK := hH ((((Keeps.refl (noBlk) w).alloc (.cells #[.slice (some ⟨m.g, 0, none⟩) 2 2] 87)).alloc (.cells (evC kd ch h n p) 102)).alloc (.cells #[.slice none 0 0] 87))
 have hsz : w.heap.size + 3 ≤ (((w.alloc (.cells #[.slice (some ⟨m.g, 0, none⟩) 2 2] 87)).alloc (.cells (evC kd ch h n p) 102)).alloc (.cells #[.slice none 0 0] 87)).heap.size := by simp
 have : ¬ m.g = w.heap.size := by omega
 have : ¬ w.heap.size = m.g := by omega
 have : ¬ m.g = w.heap.size + 1 := by omega
 have : ¬ w.heap.size + 1 = m.g := by omega
 have : ¬ m.g = w.heap.size + 1 + 1 := by omega
 have : ¬ w.heap.size + 1 + 1 = m.g := by omega
 have : m.g < w.heap.size + 1 := by omega
 have : m.g < w.heap.size + 1 + 1 := by omega
 unfold WdM.val Ev.val; dsimp only
 go_enter Tryd.func79, Tryd.ntmps79
 go_wp2_with fail; refine (HIN.out _).mono ?_; rintro e _ ⟨rfl, rfl⟩; go_wp2_with fail; generalize (((w.alloc (.cells #[.slice (some ⟨m.g, 0, none⟩) 2 2] 87)).alloc (.cells (evC kd ch h n p) 102)).alloc (.cells #[.slice none 0 0] 87)) = WW at HBV HBE HBZ HK hsz ⊢; have hv := HBV.out; have V0 := hv.cell 0; have he := HBE.out; have E0 := he.cell 0; have E1 := he.cell 1; have E2 := he.cell 2; have E3 := he.cell 3; have E4 := he.cell 4; have E5 := he.cell 5; have E6 := he.cell 6; have E7 := he.cell 7; have E8 := he.cell 8; have E9 := he.cell 9; have E10 := he.cell 10; simp at V0 E0 E1 E2 E3 E4 E5 E6 E7 E8 E9 E10; clear hv he; obtain ⟨g0, g1, g2, g3, g4, g5, g6, g7, g8, g9, g10, g11, g12, g13, g14, g15, g16, g17, g18, g19, g20, g21, g22, g23, g24, g25⟩ := kc26 HK.out lg g0 g1 g2 g3 g4 g5 g6 g7 g8 g9 g10 g11 g12 g13 g14 g15 g16 g17 g18 g19 g20 g21 g22 g23 g24 g25; refine wp_region_held_drew (S := (fun w' : World => w'.cell? ⟨w.heap.size, 0, none⟩ = some (.slice (some ⟨m.g, 0, none⟩) 2 2) ∧ w'.cell? ⟨w.heap.size + 1, 0, none⟩ = some (.int .i64 kd) ∧ w'.cell? ⟨w.heap.size + 1, 1, none⟩ = some (.int .i64 ch) ∧ w'.cell? ⟨w.heap.size + 1, 2, none⟩ = some (.int .i64 h) ∧ w'.cell? ⟨w.heap.size + 1, 3, none⟩ = some (.int .i64 n) ∧ w'.cell? ⟨w.heap.size + 1, 4, none⟩ = some (.int .i64 p.s) ∧ w'.cell? ⟨w.heap.size + 1, 5, none⟩ = some (.int .i64 p.k) ∧ w'.cell? ⟨w.heap.size + 1, 6, none⟩ = some (.int .i64 p.f) ∧ w'.cell? ⟨w.heap.size + 1, 7, none⟩ = some (.int .i64 p.t) ∧ w'.cell? ⟨w.heap.size + 1, 8, none⟩ = some (.int .i64 p.m) ∧ w'.cell? ⟨w.heap.size + 1, 9, none⟩ = some (.int .i64 p.u) ∧ w'.cell? ⟨w.heap.size + 1, 10, none⟩ = some (.int .i64 p.v))) (by kernel_rfl) ?_ (fun hHeld => ?_)
 ·(try dsimp only); (repeat' apply And.intro) <;> (first | with_reducible assumption | (go_keep; done))
 have hw0 : IntKind.i64.wrap 0 = 0 := rfl; have hw1 : IntKind.i64.wrap 1 = 1 := rfl; refine wpAnyH_take (i := 0) (oi := { dst := some 10, op := Op.fieldAddr 87 (Operand.tmp 2) 0, type := 0, pos := "l21_world.go:113", after := #[], guard := none }) (v := ?_) rfl (by kernel_rfl) (by kernel_rfl) (by kernel_rfl) (fun _ _ _ h => h) (Or.inl ⟨by rfl, ?_⟩) (by assumption) ?_
 rotate_left
 ·intro w9 hSw
  (try dsimp only at hSw)
  go_simp
  try with_reducible rfl
 try simp only [Act.put, sx]
 refine wpAnyH_take (i := 1) (oi := { dst := some 11, op := Op.load 85 (Operand.tmp 10), type := 85, pos := "l21_world.go:113", after := #[{ on := 0, ground := Ground.data }], guard := none }) (v := ?_) rfl (by kernel_rfl) (by kernel_rfl) (by kernel_rfl) (fun _ _ _ h => h) (Or.inl ⟨by rfl, ?_⟩) (by assumption) ?_
 rotate_left
 ·intro w9 hSw
  (try dsimp only at hSw)
  go_simp
  try with_reducible rfl
 try simp only [Act.put, sx]
 refine wpAnyH_take (i := 2) (oi := { dst := some 12, op := Op.fieldAddr 102 (Operand.tmp 3) 1, type := 0, pos := "l21_world.go:113", after := #[], guard := none }) (v := ?_) rfl (by kernel_rfl) (by kernel_rfl) (by kernel_rfl) (fun _ _ _ h => h) (Or.inl ⟨by rfl, ?_⟩) (by assumption) ?_
 rotate_left
 ·intro w9 hSw
  (try dsimp only at hSw)
  go_simp
  try with_reducible rfl
 try simp only [Act.put, sx]
 refine wpAnyH_take (i := 3) (oi := { dst := some 13, op := Op.load 3 (Operand.tmp 12), type := 3, pos := "l21_world.go:113", after := #[{ on := 2, ground := Ground.data }], guard := none }) (v := ?_) rfl (by kernel_rfl) (by kernel_rfl) (by kernel_rfl) (fun _ _ _ h => h) (Or.inl ⟨by rfl, ?_⟩) (by assumption) ?_
 rotate_left
 ·intro w9 hSw
  (try dsimp only at hSw)
  go_simp
  try with_reducible rfl
 try simp only [Act.put, sx]
 refine wpAnyH_take (i := 4) (oi := { dst := some 14, op := Op.binOp BinOp.sub 3 (Operand.tmp 13) (Operand.const (Value.int IntKind.i64 1)) 3, type := 3, pos := "l21_world.go:113", after := #[{ on := 3, ground := Ground.data }], guard := none }) (v := ?_) rfl (by kernel_rfl) (by kernel_rfl) (by kernel_rfl) (fun _ _ _ h => h) (Or.inl ⟨by rfl, ?_⟩) (by assumption) ?_
 rotate_left
 ·intro w9 hSw
  (try dsimp only at hSw)
  go_simp
  try with_reducible rfl
 try simp only [Act.put, sx]
 refine wpAnyH_take (i := 5) (oi := { dst := some 15, op := Op.fieldAddr 87 (Operand.tmp 2) 0, type := 0, pos := "l21_world.go:113", after := #[], guard := none }) (v := ?_) rfl (by kernel_rfl) (by kernel_rfl) (by kernel_rfl) (fun _ _ _ h => h) (Or.inl ⟨by rfl, ?_⟩) (by assumption) ?_
 rotate_left
 ·intro w9 hSw
  (try dsimp only at hSw)
  go_simp
  try with_reducible rfl
 try simp only [Act.put, sx]
 refine wpAnyH_take (i := 6) (oi := { dst := some 16, op := Op.load 85 (Operand.tmp 15), type := 85, pos := "l21_world.go:113", after := #[{ on := 5, ground := Ground.data }], guard := none }) (v := ?_) rfl (by kernel_rfl) (by kernel_rfl) (by kernel_rfl) (fun _ _ _ h => h) (Or.inl ⟨by rfl, ?_⟩) (by assumption) ?_
 rotate_left
 ·intro w9 hSw
  (try dsimp only at hSw)
  go_simp
  try with_reducible rfl
 try simp only [Act.put, sx]
 refine wpAnyH_take (i := 7) (oi := { dst := some 17, op := Op.fieldAddr 102 (Operand.tmp 3) 1, type := 0, pos := "l21_world.go:113", after := #[], guard := none }) (v := ?_) rfl (by kernel_rfl) (by kernel_rfl) (by kernel_rfl) (fun _ _ _ h => h) (Or.inl ⟨by rfl, ?_⟩) (by assumption) ?_
 rotate_left
 ·intro w9 hSw
  (try dsimp only at hSw)
  go_simp
  try with_reducible rfl
 try simp only [Act.put, sx]
 refine wpAnyH_take (i := 8) (oi := { dst := some 18, op := Op.load 3 (Operand.tmp 17), type := 3, pos := "l21_world.go:113", after := #[{ on := 7, ground := Ground.data }], guard := none }) (v := ?_) rfl (by kernel_rfl) (by kernel_rfl) (by kernel_rfl) (fun _ _ _ h => h) (Or.inl ⟨by rfl, ?_⟩) (by assumption) ?_
 rotate_left
 ·intro w9 hSw
  (try dsimp only at hSw)
  go_simp
  try with_reducible rfl
 try simp only [Act.put, sx]
 refine wpAnyH_take (i := 9) (oi := { dst := some 19, op := Op.binOp BinOp.sub 3 (Operand.tmp 18) (Operand.const (Value.int IntKind.i64 1)) 3, type := 3, pos := "l21_world.go:113", after := #[{ on := 8, ground := Ground.data }], guard := none }) (v := ?_) rfl (by kernel_rfl) (by kernel_rfl) (by kernel_rfl) (fun _ _ _ h => h) (Or.inl ⟨by rfl, ?_⟩) (by assumption) ?_
 rotate_left
 ·intro w9 hSw
  (try dsimp only at hSw)
  go_simp
  try with_reducible rfl
 try simp only [Act.put, sx]
 refine wpAnyH_take (i := 10) (oi := { dst := some 20, op := Op.indexAddr 85 (Operand.tmp 16) (Operand.tmp 19), type := 0, pos := "l21_world.go:113", after := #[{ on := 6, ground := Ground.data }, { on := 9, ground := Ground.data }], guard := none }) (v := ?_) rfl (by kernel_rfl) (by kernel_rfl) (by kernel_rfl) (fun _ _ _ h => h) (Or.inl ⟨by rfl, ?_⟩) (by assumption) ?_
 rotate_left
 ·intro w9 hSw
  (try dsimp only at hSw)
  go_simp
  try with_reducible rfl
 try simp only [Act.put, sx]
 refine wpAnyH_take (i := 12) (oi := { dst := some 22, op := Op.fieldAddr 87 (Operand.tmp 2) 0, type := 0, pos := "l21_world.go:113", after := #[], guard := none }) (v := ?_) rfl (by kernel_rfl) (by kernel_rfl) (by kernel_rfl) (fun _ _ _ h => h) (Or.inl ⟨by rfl, ?_⟩) (by assumption) ?_
 rotate_left
 ·intro w9 hSw
  (try dsimp only at hSw)
  go_simp
  try with_reducible rfl
 try simp only [Act.put, sx]
 refine wpAnyH_take (i := 13) (oi := { dst := some 23, op := Op.load 85 (Operand.tmp 22), type := 85, pos := "l21_world.go:113", after := #[{ on := 12, ground := Ground.data }], guard := none }) (v := ?_) rfl (by kernel_rfl) (by kernel_rfl) (by kernel_rfl) (fun _ _ _ h => h) (Or.inl ⟨by rfl, ?_⟩) (by assumption) ?_
 rotate_left
 ·intro w9 hSw
  (try dsimp only at hSw)
  go_simp
  try with_reducible rfl
 try simp only [Act.put, sx]
 refine wpAnyH_take (i := 14) (oi := { dst := some 24, op := Op.fieldAddr 102 (Operand.tmp 3) 1, type := 0, pos := "l21_world.go:113", after := #[], guard := none }) (v := ?_) rfl (by kernel_rfl) (by kernel_rfl) (by kernel_rfl) (fun _ _ _ h => h) (Or.inl ⟨by rfl, ?_⟩) (by assumption) ?_
 rotate_left
 ·intro w9 hSw
  (try dsimp only at hSw)
  go_simp
  try with_reducible rfl
 try simp only [Act.put, sx]
 refine wpAnyH_take (i := 15) (oi := { dst := some 25, op := Op.load 3 (Operand.tmp 24), type := 3, pos := "l21_world.go:113", after := #[{ on := 14, ground := Ground.data }], guard := none }) (v := ?_) rfl (by kernel_rfl) (by kernel_rfl) (by kernel_rfl) (fun _ _ _ h => h) (Or.inl ⟨by rfl, ?_⟩) (by assumption) ?_
 rotate_left
 ·intro w9 hSw
  (try dsimp only at hSw)
  go_simp
  try with_reducible rfl
 try simp only [Act.put, sx]
 refine wpAnyH_take (i := 16) (oi := { dst := some 26, op := Op.binOp BinOp.sub 3 (Operand.const (Value.int IntKind.i64 2)) (Operand.tmp 25) 3, type := 3, pos := "l21_world.go:113", after := #[{ on := 15, ground := Ground.data }], guard := none }) (v := ?_) rfl (by kernel_rfl) (by kernel_rfl) (by kernel_rfl) (fun _ _ _ h => h) (Or.inl ⟨by rfl, ?_⟩) (by assumption) ?_
 rotate_left
 ·intro w9 hSw
  (try dsimp only at hSw)
  go_simp
  try with_reducible rfl
 try simp only [Act.put, sx]
 refine wpAnyH_take (i := 17) (oi := { dst := some 27, op := Op.indexAddr 85 (Operand.tmp 23) (Operand.tmp 26), type := 0, pos := "l21_world.go:113", after := #[{ on := 13, ground := Ground.data }, { on := 16, ground := Ground.data }], guard := none }) (v := ?_) rfl (by kernel_rfl) (by kernel_rfl) (by kernel_rfl) (fun _ _ _ h => h) (Or.inl ⟨by rfl, ?_⟩) (by assumption) ?_
 rotate_left
 ·intro w9 hSw
  (try dsimp only at hSw)
  go_simp
  try with_reducible rfl
 try simp only [Act.put, sx]
 refine wpAnyH_take (i := 19) (oi := { dst := some 29, op := Op.load 102 (Operand.tmp 3), type := 102, pos := "l21_world.go:113", after := #[], guard := none }) (v := ?_) rfl (by kernel_rfl) (by kernel_rfl) (by kernel_rfl) (fun _ _ _ h => h) (Or.inl ⟨by rfl, ?_⟩) (by assumption) ?_
 rotate_left
 ·intro w9 hSw
  (try dsimp only at hSw)
  go_simp
  try with_reducible rfl
 try simp only [Act.put, sx]
 refine wpAnyH_ready (rs := [11, 18]) (by kernel_rfl) (by simp) ?_; refine AllReadyH.cons (o := { dst := some 21, op := Op.load 94 (Operand.tmp 20), type := 94, pos := "l21_world.go:113", after := #[{ on := 10, ground := Ground.data }], guard := none }) rfl (fun K hK => ?_) (AllReadyH.cons (o := { dst := some 28, op := Op.load 94 (Operand.tmp 27), type := 94, pos := "l21_world.go:113", after := #[{ on := 17, ground := Ground.data }], guard := none }) rfl (fun K hK => ?_) AllReadyH.nil)
 ·skip
  go_simp
  refine hK.out _ _ ?_ (fun hHeld2 => ?_)
  ·(try dsimp only); (repeat' apply And.intro) <;> (first | with_reducible assumption | (go_keep; done))
  clear hK K
  try simp only [Act.put, sx]
  refine wpAnyH_ready (rs := [18]) (by kernel_rfl) (by simp) ?_; refine AllReadyH.cons (o := { dst := some 28, op := Op.load 94 (Operand.tmp 27), type := 94, pos := "l21_world.go:113", after := #[{ on := 17, ground := Ground.data }], guard := none }) rfl (fun K hK => ?_) AllReadyH.nil
  go_simp
  refine hK.out _ _ ?_ (fun hHeld2 => ?_)
  ·(try dsimp only); (repeat' apply And.intro) <;> (first | with_reducible assumption | (go_keep; done))
  clear hK K
  try simp only [Act.put, sx]
  refine wpAnyH_ready (rs := [20]) (by kernel_rfl) (by simp) ?_; refine AllReadyH.cons (o := { dst := some 30, op := Op.call { callee := Callee.value (Operand.func 84), args := #[Operand.tmp 21, Operand.tmp 28, Operand.tmp 29], argTypes := #[ 94, 94, 102 ] }, type := 94, pos := "l21_world.go:113", after := #[{ on := 11, ground := Ground.data }, { on := 18, ground := Ground.data }, { on := 19, ground := Ground.data }], guard := none }) rfl (fun K hK => ?_) AllReadyH.nil
  go_simp
  refine (HCL.out _ (HK.out.drewN 1)).mono ?_; rintro e w1 ⟨G1, c1, rfl, hN, hag, hch, hk1⟩; dsimp only [ChM.val]; have HNX := hH hN; have HAG := hH hag; have HCH := hH hch; have hkq := ((Keeps.refl (Mt G0 xm) WW).drewN 1).trans hk1
  have hnz : ∀ b, w.heap.size ≤ b → ¬ Mt G0 xm b := fun b hb hm => by obtain ⟨k, _, hk⟩ := hm; rw [HG.out b hb] at hk; unfold rl at hk; omega
  have hng : ¬ Mt G0 xm m.g := fun hm => by obtain ⟨k, _, hk⟩ := hm; rw [HGG.out] at hk; unfold rl at hk; omega
  have HBV1 := hH (HBV.out.keeps hkq (hnz _ (by omega))); have HBE1 := hH (HBE.out.keeps hkq (hnz _ (by omega))); have HBZ1 := hH (HBZ.out.keeps hkq (hnz _ (by omega))); have HBB1 := hH ((HBB.out.keeps HK.out (fun h => h)).keeps hkq hng); have HKQ := hH hkq; have sz1 := hkq.size; clear hk1 hN hag hch V0 E0 E1 E2 E3 E4 E5 E6 E7 E8 E9 E10 g0 g1 g2 g3 g4 g5 g6 g7 g8 g9 g10 g11 g12 g13 g14 g15 g16 g17 g18 g19 g20 g21 g22 g23 g24 g25; have hv := HBV1.out; have V0 := hv.cell 0; have he := HBE1.out; have E0 := he.cell 0; have E1 := he.cell 1; have E2 := he.cell 2; have E3 := he.cell 3; have E4 := he.cell 4; have E5 := he.cell 5; have E6 := he.cell 6; have E7 := he.cell 7; have E8 := he.cell 8; have E9 := he.cell 9; have E10 := he.cell 10; simp at V0 E0 E1 E2 E3 E4 E5 E6 E7 E8 E9 E10; clear hv he; have hb9 := HBB1.out; have g0 := (hb9.cell (xm * 13)).trans (hcm 0 _ rfl); have g1 := (hb9.cell (xm * 13 + 1)).trans (hcm 1 _ rfl); have g2 := (hb9.cell (xm * 13 + 2)).trans (hcm 2 _ rfl); have g3 := (hb9.cell (xm * 13 + 3)).trans (hcm 3 _ rfl); have g4 := (hb9.cell (xm * 13 + 4)).trans (hcm 4 _ rfl); have g5 := (hb9.cell (xm * 13 + 5)).trans (hcm 5 _ rfl); have g6 := (hb9.cell (xm * 13 + 6)).trans (hcm 6 _ rfl); have g7 := (hb9.cell (xm * 13 + 7)).trans (hcm 7 _ rfl); have g8 := (hb9.cell (xm * 13 + 8)).trans (hcm 8 _ rfl); have g9 := (hb9.cell (xm * 13 + 9)).trans (hcm 9 _ rfl); have g10 := (hb9.cell (xm * 13 + 10)).trans (hcm 10 _ rfl); have g11 := (hb9.cell (xm * 13 + 11)).trans (hcm 11 _ rfl); have g12 := (hb9.cell (xm * 13 + 12)).trans (hcm 12 _ rfl); have gf0 := hb9.frozen (xm * 13); have gf1 := hb9.frozen (xm * 13 + 1); have gf2 := hb9.frozen (xm * 13 + 2); have gf3 := hb9.frozen (xm * 13 + 3); have gf4 := hb9.frozen (xm * 13 + 4); have gf5 := hb9.frozen (xm * 13 + 5); have gf6 := hb9.frozen (xm * 13 + 6); have gf7 := hb9.frozen (xm * 13 + 7); have gf8 := hb9.frozen (xm * 13 + 8); have gf9 := hb9.frozen (xm * 13 + 9); have gf10 := hb9.frozen (xm * 13 + 10); have gf11 := hb9.frozen (xm * 13 + 11); have gf12 := hb9.frozen (xm * 13 + 12); have zg := hb9.lt; clear hb9 hkq; refine hK.out _ _ ?_ (fun hHeld2 => ?_)
  ·(try dsimp only); (repeat' apply And.intro) <;> (first | with_reducible assumption | (go_keep; done))
  clear hK K
  try simp only [Act.put, sx]
  refine wpAnyH_ready (rs := [21]) (by kernel_rfl) (by simp) ?_; refine AllReadyH.cons (o := { dst := some 31, op := Op.indexAddr 85 (Operand.tmp 11) (Operand.tmp 14), type := 0, pos := "l21_world.go:113", after := #[{ on := 1, ground := Ground.data }, { on := 4, ground := Ground.data }, { on := 0, ground := Ground.phase }, { on := 1, ground := Ground.phase }, { on := 2, ground := Ground.phase }, { on := 3, ground := Ground.phase }, { on := 4, ground := Ground.phase }, { on := 5, ground := Ground.phase }, { on := 6, ground := Ground.phase }, { on := 7, ground := Ground.phase }, { on := 8, ground := Ground.phase }, { on := 9, ground := Ground.phase }, { on := 10, ground := Ground.phase }, { on := 11, ground := Ground.phase }, { on := 12, ground := Ground.phase }, { on := 13, ground := Ground.phase }, { on := 14, ground := Ground.phase }, { on := 15, ground := Ground.phase }, { on := 16, ground := Ground.phase }, { on := 17, ground := Ground.phase }, { on := 18, ground := Ground.phase }, { on := 19, ground := Ground.phase }, { on := 20, ground := Ground.phase }], guard := none }) rfl (fun K hK => ?_) AllReadyH.nil
  go_simp
  refine hK.out _ _ ?_ (fun hHeld2 => ?_)
  ·(try dsimp only); (repeat' apply And.intro) <;> (first | with_reducible assumption | (go_keep; done))
  clear hK K
  try simp only [Act.put, sx]
  refine wpAnyH_ready (rs := [22]) (by kernel_rfl) (by simp) ?_; refine AllReadyH.cons (o := { dst := none, op := Op.store 94 (Operand.tmp 31) (Operand.tmp 30), type := 0, pos := "l21_world.go:113", after := #[{ on := 21, ground := Ground.data }, { on := 20, ground := Ground.data }, { on := 20, ground := Ground.chain }, { on := 0, ground := Ground.phase }, { on := 1, ground := Ground.phase }, { on := 2, ground := Ground.phase }, { on := 3, ground := Ground.phase }, { on := 4, ground := Ground.phase }, { on := 5, ground := Ground.phase }, { on := 6, ground := Ground.phase }, { on := 7, ground := Ground.phase }, { on := 8, ground := Ground.phase }, { on := 9, ground := Ground.phase }, { on := 10, ground := Ground.phase }, { on := 11, ground := Ground.phase }, { on := 12, ground := Ground.phase }, { on := 13, ground := Ground.phase }, { on := 14, ground := Ground.phase }, { on := 15, ground := Ground.phase }, { on := 16, ground := Ground.phase }, { on := 17, ground := Ground.phase }, { on := 18, ground := Ground.phase }, { on := 19, ground := Ground.phase }, { on := 20, ground := Ground.phase }], guard := none }) rfl (fun K hK => ?_) AllReadyH.nil
  go_simp
  refine hK.out _ _ ?_ (fun hHeld2 => ?_)
  ·(try dsimp only); (repeat' apply And.intro) <;> (first | with_reducible assumption | (go_keep; done) | ((repeat rw [World.cell?_setCell_other _ _ _ _ (by intro e; injection e with e _; omega)]); with_reducible assumption))
  clear hK K
  try simp only [Act.put, sx]
  refine wpAnyH_done (by kernel_rfl) ?_ _
  try clear hHeld2
  try clear hHeld
  have kS := chS_keeps w1 m.g (xm * 13) c1; have HBN := hH (chS_box HBB1.out hx3 c1); have HBV2 := hH (HBV1.out.keeps kS fun h => by omega); have HBZ2 := hH (HBZ1.out.keeps kS fun h => by omega); have KS := hH kS; clear kS V0 E0 E1 E2 E3 E4 E5 E6 E7 E8 E9 E10 g0 g1 g2 g3 g4 g5 g6 g7 g8 g9 g10 g11 g12 gf0 gf1 gf2 gf3 gf4 gf5 gf6 gf7 gf8 gf9 gf10 gf11 gf12
  change Exit.then _ _ _ _ (chS w1 m.g (xm * 13) c1)
  generalize (chS w1 m.g (xm * 13) c1) = V2 at *; have hv := HBV2.out; have V0 := hv.cell 0; have hz9 := HBZ2.out; have Z0 := hz9.cell 0; have Zf := hz9.frozen 0; simp at V0 Z0; have zz := hz9.lt; clear hv hz9; go_wp2; have kT : Keeps (fun b => b = w.heap.size + 1 + 1) V2 (V2.setCell ⟨w.heap.size + 1 + 1, 0, none⟩ (.slice (some ⟨m.g, 0, none⟩) 2 2)) := (Keeps.refl (fun b => b = w.heap.size + 1 + 1) V2).setCell (p := ⟨w.heap.size + 1 + 1, 0, none⟩) (.inr rfl) _; have hbz := HBZ2.out.set_ 0 (.slice (some ⟨m.g, 0, none⟩) 2 2); simp only [sx] at hbz; have s10 := hbz.cell 0; simp at s10; clear hbz; generalize V2.setCell ⟨w.heap.size + 1 + 1, 0, none⟩ (.slice (some ⟨m.g, 0, none⟩) 2 2) = V3 at *; refine bodyPost_ret (v := WdM.val (m.at_ xm c1)) (by unfold WdM.val; rw [WdM.at_g]; simp [results, Tryd.results79, go_sem, WdM.val, s10]) rfl ?_
  have hag' : ∀ b, b < WW.heap.size → G1 b = G0 b := fun b hb => HAG.out b hb
  have hg2 : G1 m.g = 2 := (hag' _ (by omega)).trans HGG.out; have hgz : G1 (w.heap.size + 1 + 1) = 0 := (hag' _ (by omega)).trans (HG.out _ (by omega))
  have hk9 : Keeps (Mt G1 xm) WW w1 := HKQ.out.more fun b hb ⟨k, hk, e⟩ => ⟨k, hk, (hag' b hb).trans e⟩
  have c2 : ChR G1 xo w1 ot := ((HB.out.kept HK.out).ext hag').other hk9 HXN.out
  have ng : ∀ i b, (Mt G1 i b ∨ G1 b = 1) → b ≠ m.g := fun i b hb e => by
   subst e
   rcases hb with ⟨k, _, hk⟩ | hb
   ·rw [hg2] at hk
    unfold rl at hk
    omega
   ·rw [hg2] at hb
    cases hb
  have nz : ∀ i b, (Mt G1 i b ∨ G1 b = 1) → b ≠ w.heap.size + 1 + 1 := fun i b hb e => by
   subst e
   rcases hb with ⟨k, _, hk⟩ | hb
   ·rw [hgz] at hk
    unfold rl at hk
    omega
   ·rw [hgz] at hb
    cases hb
  have d1 := (HCH.out.keeps KS.out (fun b hb h => ng xm b hb h)).keeps kT (fun b hb h => nz xm b hb h); have d2 := (c2.keeps KS.out (fun b hb h => ng xo b hb h)).keeps kT (fun b hb h => nz xo b hb h); have hbf := HBN.out.keeps kT (fun h => by omega); have hkf : Keeps (MtW G) w V3 := ((((HK.out.more (T := MtW G) fun _ _ h => h.elim).then HKQ.out (fun i hi h => HMT.out i (by obtain ⟨k, hk, e⟩ := h; exact ⟨k, hk, by rw [← HG'.out i hi]; exact e⟩))).then KS.out (fun i hi h => .inr (.inr (by rw [h, ← HG'.out _ (by omega)]; exact HGG.out)))).then kT (fun i hi h => by omega)); obtain ⟨f1, f2, f3⟩ := HFN.out c1 G1 V3 d1 d2 HNX.out; have egm : (m.at_ xm c1).g = m.g := WdM.at_g m xm c1; exact ⟨G1, (m.at_ xm c1), rfl, f1, fun b hb => (hag' b (by omega)).trans (HG'.out b hb), ⟨by rw [egm]; exact hbf, by rw [egm]; exact hg2, f2, f3⟩, hkf⟩
 ·skip
  go_simp
  refine hK.out _ _ ?_ (fun hHeld2 => ?_)
  ·(try dsimp only); (repeat' apply And.intro) <;> (first | with_reducible assumption | (go_keep; done))
  clear hK K
  try simp only [Act.put, sx]
  refine wpAnyH_ready (rs := [11]) (by kernel_rfl) (by simp) ?_; refine AllReadyH.cons (o := { dst := some 21, op := Op.load 94 (Operand.tmp 20), type := 94, pos := "l21_world.go:113", after := #[{ on := 10, ground := Ground.data }], guard := none }) rfl (fun K hK => ?_) AllReadyH.nil
  go_simp
  refine hK.out _ _ ?_ (fun hHeld2 => ?_)
  ·(try dsimp only); (repeat' apply And.intro) <;> (first | with_reducible assumption | (go_keep; done))
  clear hK K
  try simp only [Act.put, sx]
  refine wpAnyH_ready (rs := [20]) (by kernel_rfl) (by simp) ?_; refine AllReadyH.cons (o := { dst := some 30, op := Op.call { callee := Callee.value (Operand.func 84), args := #[Operand.tmp 21, Operand.tmp 28, Operand.tmp 29], argTypes := #[ 94, 94, 102 ] }, type := 94, pos := "l21_world.go:113", after := #[{ on := 11, ground := Ground.data }, { on := 18, ground := Ground.data }, { on := 19, ground := Ground.data }], guard := none }) rfl (fun K hK => ?_) AllReadyH.nil
  go_simp
  refine (HCL.out _ (HK.out.drewN 1)).mono ?_; rintro e w1 ⟨G1, c1, rfl, hN, hag, hch, hk1⟩; dsimp only [ChM.val]; have HNX := hH hN; have HAG := hH hag; have HCH := hH hch; have hkq := ((Keeps.refl (Mt G0 xm) WW).drewN 1).trans hk1
  have hnz : ∀ b, w.heap.size ≤ b → ¬ Mt G0 xm b := fun b hb hm => by obtain ⟨k, _, hk⟩ := hm; rw [HG.out b hb] at hk; unfold rl at hk; omega
  have hng : ¬ Mt G0 xm m.g := fun hm => by obtain ⟨k, _, hk⟩ := hm; rw [HGG.out] at hk; unfold rl at hk; omega
  have HBV1 := hH (HBV.out.keeps hkq (hnz _ (by omega))); have HBE1 := hH (HBE.out.keeps hkq (hnz _ (by omega))); have HBZ1 := hH (HBZ.out.keeps hkq (hnz _ (by omega))); have HBB1 := hH ((HBB.out.keeps HK.out (fun h => h)).keeps hkq hng); have HKQ := hH hkq; have sz1 := hkq.size; clear hk1 hN hag hch V0 E0 E1 E2 E3 E4 E5 E6 E7 E8 E9 E10 g0 g1 g2 g3 g4 g5 g6 g7 g8 g9 g10 g11 g12 g13 g14 g15 g16 g17 g18 g19 g20 g21 g22 g23 g24 g25; have hv := HBV1.out; have V0 := hv.cell 0; have he := HBE1.out; have E0 := he.cell 0; have E1 := he.cell 1; have E2 := he.cell 2; have E3 := he.cell 3; have E4 := he.cell 4; have E5 := he.cell 5; have E6 := he.cell 6; have E7 := he.cell 7; have E8 := he.cell 8; have E9 := he.cell 9; have E10 := he.cell 10; simp at V0 E0 E1 E2 E3 E4 E5 E6 E7 E8 E9 E10; clear hv he; have hb9 := HBB1.out; have g0 := (hb9.cell (xm * 13)).trans (hcm 0 _ rfl); have g1 := (hb9.cell (xm * 13 + 1)).trans (hcm 1 _ rfl); have g2 := (hb9.cell (xm * 13 + 2)).trans (hcm 2 _ rfl); have g3 := (hb9.cell (xm * 13 + 3)).trans (hcm 3 _ rfl); have g4 := (hb9.cell (xm * 13 + 4)).trans (hcm 4 _ rfl); have g5 := (hb9.cell (xm * 13 + 5)).trans (hcm 5 _ rfl); have g6 := (hb9.cell (xm * 13 + 6)).trans (hcm 6 _ rfl); have g7 := (hb9.cell (xm * 13 + 7)).trans (hcm 7 _ rfl); have g8 := (hb9.cell (xm * 13 + 8)).trans (hcm 8 _ rfl); have g9 := (hb9.cell (xm * 13 + 9)).trans (hcm 9 _ rfl); have g10 := (hb9.cell (xm * 13 + 10)).trans (hcm 10 _ rfl); have g11 := (hb9.cell (xm * 13 + 11)).trans (hcm 11 _ rfl); have g12 := (hb9.cell (xm * 13 + 12)).trans (hcm 12 _ rfl); have gf0 := hb9.frozen (xm * 13); have gf1 := hb9.frozen (xm * 13 + 1); have gf2 := hb9.frozen (xm * 13 + 2); have gf3 := hb9.frozen (xm * 13 + 3); have gf4 := hb9.frozen (xm * 13 + 4); have gf5 := hb9.frozen (xm * 13 + 5); have gf6 := hb9.frozen (xm * 13 + 6); have gf7 := hb9.frozen (xm * 13 + 7); have gf8 := hb9.frozen (xm * 13 + 8); have gf9 := hb9.frozen (xm * 13 + 9); have gf10 := hb9.frozen (xm * 13 + 10); have gf11 := hb9.frozen (xm * 13 + 11); have gf12 := hb9.frozen (xm * 13 + 12); have zg := hb9.lt; clear hb9 hkq; refine hK.out _ _ ?_ (fun hHeld2 => ?_)
  ·(try dsimp only); (repeat' apply And.intro) <;> (first | with_reducible assumption | (go_keep; done))
  clear hK K
  try simp only [Act.put, sx]
  refine wpAnyH_ready (rs := [21]) (by kernel_rfl) (by simp) ?_; refine AllReadyH.cons (o := { dst := some 31, op := Op.indexAddr 85 (Operand.tmp 11) (Operand.tmp 14), type := 0, pos := "l21_world.go:113", after := #[{ on := 1, ground := Ground.data }, { on := 4, ground := Ground.data }, { on := 0, ground := Ground.phase }, { on := 1, ground := Ground.phase }, { on := 2, ground := Ground.phase }, { on := 3, ground := Ground.phase }, { on := 4, ground := Ground.phase }, { on := 5, ground := Ground.phase }, { on := 6, ground := Ground.phase }, { on := 7, ground := Ground.phase }, { on := 8, ground := Ground.phase }, { on := 9, ground := Ground.phase }, { on := 10, ground := Ground.phase }, { on := 11, ground := Ground.phase }, { on := 12, ground := Ground.phase }, { on := 13, ground := Ground.phase }, { on := 14, ground := Ground.phase }, { on := 15, ground := Ground.phase }, { on := 16, ground := Ground.phase }, { on := 17, ground := Ground.phase }, { on := 18, ground := Ground.phase }, { on := 19, ground := Ground.phase }, { on := 20, ground := Ground.phase }], guard := none }) rfl (fun K hK => ?_) AllReadyH.nil
  go_simp
  refine hK.out _ _ ?_ (fun hHeld2 => ?_)
  ·(try dsimp only); (repeat' apply And.intro) <;> (first | with_reducible assumption | (go_keep; done))
  clear hK K
  try simp only [Act.put, sx]
  refine wpAnyH_ready (rs := [22]) (by kernel_rfl) (by simp) ?_; refine AllReadyH.cons (o := { dst := none, op := Op.store 94 (Operand.tmp 31) (Operand.tmp 30), type := 0, pos := "l21_world.go:113", after := #[{ on := 21, ground := Ground.data }, { on := 20, ground := Ground.data }, { on := 20, ground := Ground.chain }, { on := 0, ground := Ground.phase }, { on := 1, ground := Ground.phase }, { on := 2, ground := Ground.phase }, { on := 3, ground := Ground.phase }, { on := 4, ground := Ground.phase }, { on := 5, ground := Ground.phase }, { on := 6, ground := Ground.phase }, { on := 7, ground := Ground.phase }, { on := 8, ground := Ground.phase }, { on := 9, ground := Ground.phase }, { on := 10, ground := Ground.phase }, { on := 11, ground := Ground.phase }, { on := 12, ground := Ground.phase }, { on := 13, ground := Ground.phase }, { on := 14, ground := Ground.phase }, { on := 15, ground := Ground.phase }, { on := 16, ground := Ground.phase }, { on := 17, ground := Ground.phase }, { on := 18, ground := Ground.phase }, { on := 19, ground := Ground.phase }, { on := 20, ground := Ground.phase }], guard := none }) rfl (fun K hK => ?_) AllReadyH.nil
  go_simp
  refine hK.out _ _ ?_ (fun hHeld2 => ?_)
  ·(try dsimp only); (repeat' apply And.intro) <;> (first | with_reducible assumption | (go_keep; done) | ((repeat rw [World.cell?_setCell_other _ _ _ _ (by intro e; injection e with e _; omega)]); with_reducible assumption))
  clear hK K
  try simp only [Act.put, sx]
  refine wpAnyH_done (by kernel_rfl) ?_ _
  try clear hHeld2
  try clear hHeld
  have kS := chS_keeps w1 m.g (xm * 13) c1; have HBN := hH (chS_box HBB1.out hx3 c1); have HBV2 := hH (HBV1.out.keeps kS fun h => by omega); have HBZ2 := hH (HBZ1.out.keeps kS fun h => by omega); have KS := hH kS; clear kS V0 E0 E1 E2 E3 E4 E5 E6 E7 E8 E9 E10 g0 g1 g2 g3 g4 g5 g6 g7 g8 g9 g10 g11 g12 gf0 gf1 gf2 gf3 gf4 gf5 gf6 gf7 gf8 gf9 gf10 gf11 gf12
  change Exit.then _ _ _ _ (chS w1 m.g (xm * 13) c1)
  generalize (chS w1 m.g (xm * 13) c1) = V2 at *; have hv := HBV2.out; have V0 := hv.cell 0; have hz9 := HBZ2.out; have Z0 := hz9.cell 0; have Zf := hz9.frozen 0; simp at V0 Z0; have zz := hz9.lt; clear hv hz9; go_wp2; have kT : Keeps (fun b => b = w.heap.size + 1 + 1) V2 (V2.setCell ⟨w.heap.size + 1 + 1, 0, none⟩ (.slice (some ⟨m.g, 0, none⟩) 2 2)) := (Keeps.refl (fun b => b = w.heap.size + 1 + 1) V2).setCell (p := ⟨w.heap.size + 1 + 1, 0, none⟩) (.inr rfl) _; have hbz := HBZ2.out.set_ 0 (.slice (some ⟨m.g, 0, none⟩) 2 2); simp only [sx] at hbz; have s10 := hbz.cell 0; simp at s10; clear hbz; generalize V2.setCell ⟨w.heap.size + 1 + 1, 0, none⟩ (.slice (some ⟨m.g, 0, none⟩) 2 2) = V3 at *; refine bodyPost_ret (v := WdM.val (m.at_ xm c1)) (by unfold WdM.val; rw [WdM.at_g]; simp [results, Tryd.results79, go_sem, WdM.val, s10]) rfl ?_
  have hag' : ∀ b, b < WW.heap.size → G1 b = G0 b := fun b hb => HAG.out b hb
  have hg2 : G1 m.g = 2 := (hag' _ (by omega)).trans HGG.out; have hgz : G1 (w.heap.size + 1 + 1) = 0 := (hag' _ (by omega)).trans (HG.out _ (by omega))
  have hk9 : Keeps (Mt G1 xm) WW w1 := HKQ.out.more fun b hb ⟨k, hk, e⟩ => ⟨k, hk, (hag' b hb).trans e⟩
  have c2 : ChR G1 xo w1 ot := ((HB.out.kept HK.out).ext hag').other hk9 HXN.out
  have ng : ∀ i b, (Mt G1 i b ∨ G1 b = 1) → b ≠ m.g := fun i b hb e => by
   subst e
   rcases hb with ⟨k, _, hk⟩ | hb
   ·rw [hg2] at hk
    unfold rl at hk
    omega
   ·rw [hg2] at hb
    cases hb
  have nz : ∀ i b, (Mt G1 i b ∨ G1 b = 1) → b ≠ w.heap.size + 1 + 1 := fun i b hb e => by
   subst e
   rcases hb with ⟨k, _, hk⟩ | hb
   ·rw [hgz] at hk
    unfold rl at hk
    omega
   ·rw [hgz] at hb
    cases hb
  have d1 := (HCH.out.keeps KS.out (fun b hb h => ng xm b hb h)).keeps kT (fun b hb h => nz xm b hb h); have d2 := (c2.keeps KS.out (fun b hb h => ng xo b hb h)).keeps kT (fun b hb h => nz xo b hb h); have hbf := HBN.out.keeps kT (fun h => by omega); have hkf : Keeps (MtW G) w V3 := ((((HK.out.more (T := MtW G) fun _ _ h => h.elim).then HKQ.out (fun i hi h => HMT.out i (by obtain ⟨k, hk, e⟩ := h; exact ⟨k, hk, by rw [← HG'.out i hi]; exact e⟩))).then KS.out (fun i hi h => .inr (.inr (by rw [h, ← HG'.out _ (by omega)]; exact HGG.out)))).then kT (fun i hi h => by omega)); obtain ⟨f1, f2, f3⟩ := HFN.out c1 G1 V3 d1 d2 HNX.out; have egm : (m.at_ xm c1).g = m.g := WdM.at_g m xm c1; exact ⟨G1, (m.at_ xm c1), rfl, f1, fun b hb => (hag' b (by omega)).trans (HG'.out b hb), ⟨by rw [egm]; exact hbf, by rw [egm]; exact hg2, f2, f3⟩, hkf⟩
theorem l21Do_no (G : Nat → Nat) (m : WdM) (kd ch h n : Int) (p : Pk) (q : Nat) (w : World) (hw : WdR G w m) (ok : WdOk m q) (hch : in2 ch 1 2 = false) :
  Calls Tryd.prog 79 #[m.val, Ev.val ⟨kd, ch, h, n, p⟩] w (RetWd G w (q + 1)) := by
 have HW := hH hw; have HOK := hH ok; have HIN := hH (fun W => (show Calls Tryd.prog 50 #[.int .i64 ch, .int .i64 1, .int .i64 2] W (fun e w' => e = .returned (.bool false) ∧ W = w') from by rw [← hch]; exact l6In_any ch 1 2 W)); clear hw ok hch; have HBV := hH (((Box.new w (w.heap.size) (by simp) 87 #[.slice (some ⟨m.g, 0, none⟩) 2 2]).alloc (.cells (evC kd ch h n p) 102)).alloc (.cells #[.slice none 0 0] 87)); have HBE := hH ((Box.new (w.alloc (.cells #[.slice (some ⟨m.g, 0, none⟩) 2 2] 87)) (w.heap.size + 1) (by simp) 102 (evC kd ch h n p)).alloc (.cells #[.slice none 0 0] 87)); have HBZ := hH (Box.new ((w.alloc (.cells #[.slice (some ⟨m.g, 0, none⟩) 2 2] 87)).alloc (.cells (evC kd ch h n p) 102)) (w.heap.size + 1 + 1) (by simp) 87 #[.slice none 0 0]); have HK := hH ((((Keeps.refl (noBlk) w).alloc (.cells #[.slice (some ⟨m.g, 0, none⟩) 2 2] 87)).alloc (.cells (evC kd ch h n p) 102)).alloc (.cells #[.slice none 0 0] 87))
 have hsz : w.heap.size + 3 ≤ (((w.alloc (.cells #[.slice (some ⟨m.g, 0, none⟩) 2 2] 87)).alloc (.cells (evC kd ch h n p) 102)).alloc (.cells #[.slice none 0 0] 87)).heap.size := by simp
 unfold WdM.val Ev.val; dsimp only
 go_enter Tryd.func79, Tryd.ntmps79
 go_wp2_with fail; refine (HIN.out _).mono ?_; rintro e _ ⟨rfl, rfl⟩; generalize (((w.alloc (.cells #[.slice (some ⟨m.g, 0, none⟩) 2 2] 87)).alloc (.cells (evC kd ch h n p) 102)).alloc (.cells #[.slice none 0 0] 87)) = WW at HBV HBE HBZ HK hsz ⊢; have hv := HBV.out; have V0 := hv.cell 0; have hz9 := HBZ.out; have Z0 := hz9.cell 0; have Zf := hz9.frozen 0; simp at V0 Z0; have zz := hz9.lt; clear hv hz9; go_wp2; have kT : Keeps (fun b => b = w.heap.size + 1 + 1) WW (WW.setCell ⟨w.heap.size + 1 + 1, 0, none⟩ (.slice (some ⟨m.g, 0, none⟩) 2 2)) := (Keeps.refl (fun b => b = w.heap.size + 1 + 1) WW).setCell (p := ⟨w.heap.size + 1 + 1, 0, none⟩) (.inr rfl) _; have hbz := HBZ.out.set_ 0 (.slice (some ⟨m.g, 0, none⟩) 2 2); simp only [sx] at hbz; have s10 := hbz.cell 0; simp at s10; clear hbz; generalize WW.setCell ⟨w.heap.size + 1 + 1, 0, none⟩ (.slice (some ⟨m.g, 0, none⟩) 2 2) = V3 at *; refine bodyPost_ret (v := WdM.val m) (by simp [results, Tryd.results79, go_sem, WdM.val, s10]) rfl ?_
 have hk9 : Keeps noBlk w V3 := HK.out.then kT fun i hi h => by omega
 exact ⟨G, m, rfl, ⟨HOK.out.a, HOK.out.b, Nat.le_succ_of_le HOK.out.ka, Nat.le_succ_of_le HOK.out.kb⟩, fun _ _ => rfl, ⟨HW.out.1.keeps hk9 (fun h => h), HW.out.2.1, HW.out.2.2.1.kept hk9, HW.out.2.2.2.kept hk9⟩, hk9.more fun _ _ h => h.elim⟩
theorem l21Do_any (G : Nat → Nat) (m : WdM) (e : Ev) (q : Nat) (w : World) (hw : WdR G w m) (ok : WdOk m q) (hq : q ≤ 1000) : Calls Tryd.prog 79 #[m.val, e.val] w (RetWd G w (q + 1)) := by
 obtain ⟨kd, ch, h, n, p⟩ := e; have ka := ok.ka; have kb := ok.kb
 by_cases h1 : ch = 1
 ·subst h1
  exact l21Do_g G m kd h n p q w hw ok 1 0 1 m.a m.b rfl rfl (by decide) (by decide) (by decide) rfl (fun q v hv => by rw [show 0 * 13 + q = q by omega, List.getElem?_toArray, List.getElem?_append_left (List.getElem?_eq_some_iff.1 hv).1]; exact hv) (fun q v hv => by rw [List.getElem?_toArray, List.getElem?_append_right (by show 13 ≤ 1 * 13 + q; omega)]; rw [show 1 * 13 + q - m.a.cs.length = q by show 1 * 13 + q - 13 = q; omega]; exact hv) hw.2.2.1 hw.2.2.2
   (fun c1 G1 w2 h1 h2 hn => ⟨⟨hn.1, ok.b, by have := hn.2.1; show c1.knows.length ≤ _; omega, by show m.b.knows.length ≤ _; omega⟩, h1, h2⟩) (fun b hb => .inl hb) fun G0 W ha hb => l21Chain_any G0 0 1 m.a m.b _ W ha hb (by omega) ok.a ok.b
 by_cases h2 : ch = 2
 ·subst h2
  exact l21Do_g G m kd h n p q w hw ok 2 1 0 m.b m.a rfl rfl (by decide) (by decide) (by decide) rfl (fun q v hv => by rw [List.getElem?_toArray, List.getElem?_append_right (by show 13 ≤ 1 * 13 + q; omega)]; rw [show 1 * 13 + q - m.a.cs.length = q by show 1 * 13 + q - 13 = q; omega]; exact hv) (fun q v hv => by rw [show 0 * 13 + q = q by omega, List.getElem?_toArray, List.getElem?_append_left (List.getElem?_eq_some_iff.1 hv).1]; exact hv) hw.2.2.2 hw.2.2.1
   (fun c1 G1 w2 h1 h2 hn => ⟨⟨ok.a, hn.1, by show m.a.knows.length ≤ _; omega, by have := hn.2.1; show c1.knows.length ≤ _; omega⟩, h2, h1⟩) (fun b hb => .inr (.inl hb)) fun G0 W hb ha => l21Chain_any G0 1 0 m.b m.a _ W hb ha (by omega) ok.b ok.a
 refine l21Do_no G m kd ch h n p q w hw ok ?_; unfold in2; rw [Bool.eq_false_iff]; intro hc; simp only [Bool.and_eq_true, decide_eq_true_eq] at hc
 omega
end Go.Proofs.YtjcbeihoeanhaaaDoor
