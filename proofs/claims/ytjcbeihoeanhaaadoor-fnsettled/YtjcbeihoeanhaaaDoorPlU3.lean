/- DrawStateSettled of the model. -/
import Derived.Test.YtjcbeihoeanhaaaDoorUPlL
set_option maxHeartbeats 8000000
set_option maxRecDepth 100000
set_option linter.unusedVariables false
set_option linter.unusedSimpArgs false
namespace Go.Proofs.YtjcbeihoeanhaaaDoor
open Go.RowKit

theorem settled_end {P : Program} {fn : Func} {w0 w : World} {a : Act} {s : StM} {q : Int} (hr : (results fn a.tmps).run P w = .ok (.tuple #[s.val, .int .i64 q]) w) (hd : a.defers = []) (h : s.At w) (hk : Keeps noBlk w0 w) : bodyPost P fn (RetDSI w0) .ret a w := bodyPost_ret hr hd ⟨s, q, rfl, h, hk⟩
theorem drawStSettled_any (A : Option Addr) (n c : Nat) (zs : List Int) (w : World) (h : Bytes w A n zs) (hc : n ≤ c) (hcm : c ≤ maxLen) :
  Calls Tryd.prog 24 #[.slice A n c] w (RetDSI w) := by
 have HBr := hH (Box.new w _ rfl 27 zCS)
 have HK := hH ((Keeps.refl noBlk w).alloc (.cells zCS 27))
 have H := hH (h.keeps ((Keeps.refl noBlk w).alloc (.cells zCS 27)) fun _ _ x => x)
 have hs0 : w.heap.size + 1 = (w.alloc (.cells zCS 27)).heap.size := by simp
 clear h
 go_enter Tryd.func24, Tryd.ntmps24
 go_wp2_with fail
 generalize (w.alloc (.cells zCS 27)) = w0 at HBr HK H hs0 ⊢
 refine (l6Open_any A n _ zs w0 H.out hc hcm).mono ?_
 rintro e w1 ⟨g, rfl, hg, hrd, hk⟩
 have hg0 : w0.heap.size ≤ g := by omega
 clear hg
 replace HBr := hH (HBr.out.keeps hk (fun h => h))
 replace HK := hH (HK.out.then hk (fun _ _ h => h.elim))
 have HRD := hH hrd
 have hg1 := hrd.lt
 clear hrd hk H
 go_wp2_with fail
 refine (l71Sent_any g 0 w1 HRD.out (by omega)).mono ?_
 rintro e w2 ⟨s, x, rfl, hx, hsp, hat, hge, hrd, hk⟩
 replace HBr := hH (HBr.out.keeps hk (nq (by omega)))
 replace HK := hH (HK.out.then hk (fun i hi h => by have h' : i = g := h; omega))
 have HAT := hH hat
 have HLT := hH (fun b (hb : s.bl b) => StAt.lt hat hb)
 have HS8 := hH (hsp.sent8 hx)
 have HGE := hH (fun b (hb : s.bl b) => (show w1.heap.size ≤ b ∧ True from ⟨hge b hb, trivial⟩))
 replace HRD := hH (hrd.more (lim' := 6000) (by omega))
 clear hat hge hrd hx hsp
 have sz2 := hk.size
 clear hk
 have hl8 : s.x.sent.length ≤ 8 := HS8.out
 have hl8i : (s.x.sent.length : Int) ≤ 8 := by omega
 unfold StM.val
 go_upto_region 3 with fail
 have HGS := hH (fun b (hb : s.bl b) => (show w1.heap.size ≤ b ∧ ¬ b = w2.heap.size from ⟨(HGE.out b hb).1, fun e => by have := HLT.out b hb; omega⟩))
 replace HBr := hH (HBr.out.alloc (.cells (smC s) 27))
 replace HAT := hH (HAT.out.kept ((Keeps.refl noBlk w2).alloc (.cells (smC s) 27)))
 replace HK := hH (HK.out.alloc (.cells (smC s) 27))
 replace HRD := hH (HRD.out.alloc (.cells (smC s) 27))
 have HBs := hH (Box.new w2 _ rfl 27 (smC s))
 have sz3 : w2.heap.size + 1 = (w2.alloc (.cells (smC s) 27)).heap.size := by simp
 generalize w2.alloc (.cells (smC s) 27) = w3 at HBr HBs HAT HRD HK sz3 ⊢
 have hw1 : IntKind.i64.wrap ((s.x.sent.length : Int) + 1) = (s.x.sent.length : Int) + 1 := IntWalk.i64_in _ (by omega)
 have hb := HBs.out
 obtain ⟨s0, s1, s2, s3, s4, s5, s6⟩ := hb.cells7
 have zs := hb.lt
 clear hb
 have hb := HBr.out
 obtain ⟨r0, r1, r2, r3, r4, r5, r6⟩ := hb.cells7
 obtain ⟨rf0, rf1, rf2, rf3, rf4, rf5, rf6⟩ := hb.fz7
 have zr := hb.lt
 clear hb
 have : ¬ w2.heap.size = w.heap.size := by omega
 have : ¬ w.heap.size = w2.heap.size := by omega
 have TK1 : True := trivial
 go_wp2_with fail
 go_region_held3 (fun w' => w'.cell? ⟨w2.heap.size, 0, none⟩ = some (.int .i64 s.x.way) ∧ w'.cell? ⟨w2.heap.size, 1, none⟩ = some (.int .i64 s.x.ver) ∧ w'.cell? ⟨w2.heap.size, 2, none⟩ = some (.int .i64 s.x.want) ∧ w'.cell? ⟨w2.heap.size, 3, none⟩ = some (.slice s.A1 s.x.sent.length s.c1) ∧ w'.cell? ⟨w2.heap.size, 4, none⟩ = some (.slice s.A2 s.x.live.length s.c2) ∧ w'.cell? ⟨w2.heap.size, 5, none⟩ = some (.slice s.A3 s.x.back.length s.c3) ∧ w'.cell? ⟨w2.heap.size, 6, none⟩ = some (.slice s.A4 s.x.got.length s.c4))
  (((try dsimp only); (repeat' apply And.intro) <;> (first | with_reducible assumption | (go_keep; done))))
  (first | (go_at_call 43; have _t := TK1; clear _t; refine (pick_any g (6000 + 0) _ _ ((HRD.out.drewN 1).more (by omega)) (by omega) (by omega) (by omega)).mono ?_; rintro e v1 ⟨x1, rfl, xa1, xb1, hrd, hk⟩; clear TK1; have TK2 : True := trivial; have HQ1 := hH (((Keeps.refl (one g) w3).drewN 1).trans hk); have HRD1 := hH (hrd.more (lim' := 6000 + 1) (by omega)); have sq1 := HQ1.out.size; have hb9 := HBs.out.keeps HQ1.out (nq (by omega)); obtain ⟨a0, a1, a2, a3, a4, a5, a6⟩ := hb9.cells7; have az := hb9.lt; clear hb9; clear hrd hk) | (go_at_call 43; have _t := TK2; clear _t; refine (pick_any g (6000 + 1) 24 _ HRD1.out (by omega) (by omega) (by omega)).mono ?_; rintro e v2 ⟨x2, rfl, xa2, xb2, hrd, hk⟩; clear TK2; have TK3 : True := trivial; have HQ2 := hH (HQ1.out.trans hk); have HRD2 := hH (hrd.more (lim' := 6000 + 2) (by omega)); have sq2 := HQ2.out.size; have hb9 := HBs.out.keeps HQ2.out (nq (by omega)); obtain ⟨b0, b1, b2, b3, b4, b5, b6⟩ := hb9.cells7; have bz := hb9.lt; clear hb9; have hb9 := HBr.out.keeps HQ2.out (nq (by omega)); obtain ⟨c0, c1, c2, c3, c4, c5, c6⟩ := hb9.cells7; obtain ⟨cf0, cf1, cf2, cf3, cf4, cf5, cf6⟩ := hb9.fz7; have cz := hb9.lt; clear hb9; clear hrd hk))
 go_wp2
 clear s0 s1 s2 s3 s4 s5 s6 zs r0 r1 r2 r3 r4 r5 r6 rf0 rf1 rf2 rf3 rf4 rf5 rf6 zr
 replace HBr := hH (HBr.out.keeps HQ2.out (nq (by omega)))
 replace HBs := hH (HBs.out.keeps HQ2.out (nq (by omega)))
 replace HAT := hH (HAT.out.keeps HQ2.out (fun b hb h => by have h' : b = g := h; have := (HGE.out b hb).1; omega))
 replace HK := hH (HK.out.then HQ2.out (fun i hi h => by have h' : i = g := h; omega))
 clear HRD
 have HRD := HRD2
 clear HRD2
 have kF := stW_keeps v2 (w.heap.size) s
 obtain ⟨s10, s11, s12, s13, s14, s15, s16⟩ := stW_cells HBr.out s
 change bodyPost _ _ _ _ _ (stW v2 (w.heap.size) s)
 generalize stW v2 (w.heap.size) s = WF at kF s10 s11 s12 s13 s14 s15 s16 ⊢
 refine settled_end (q := IntKind.i64.wrap (IntKind.i64.wrap (1 + x1) - IntKind.i64.wrap (x2.tdiv 23))) ?_ ?_ (HAT.out.keeps kF (fun b hb h => by have h' : b = w.heap.size := h; have := (HGE.out b hb).1; omega)) (HK.out.then kF fun i hi h => by have h' : i = w.heap.size := h; omega)
 simp [results, Tryd.results24, go_sem, StM.val, s10, s11, s12, s13, s14, s15, s16]
 rfl
end Go.Proofs.YtjcbeihoeanhaaaDoor
