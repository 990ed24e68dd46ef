/- FnStateSeq: a packet stands by its number alone, whatever is drawn. FnStateSeq: a packet stands by its number alone, whatever is drawn. The tables read as the program's text lays them. -/
import Derived.Test.YtjcbeihoeanhaaaDoorPlU4
import Derived.Test.YtjcbeihoeanhaaaDoorUSte
set_option maxRecDepth 100000
set_option maxHeartbeats 8000000
set_option linter.unusedVariables false
set_option linter.unusedSimpArgs false
/-! LStateSeqW -/
namespace Go.Proofs.YtjcbeihoeanhaaaDoor
open Go.RowKit Go.ChangeShapes Go.WideShapes Go.ChangeAt Go.Joins
theorem hasB_seq {x : StL} {p : Pk} : hasB x { p with s := (x.sent.length : Int) + 1 } = false := by
 unfold hasB
 refine decide_eq_false fun h9 => ?_
 have h1 := h9.2.2.1; dsimp only at h1
 omega
theorem hasB_eq {x : StL} {p : Pk} (h : hasB x p = true) : stB x = true ∧ 1 ≤ p.s ∧ p.s ≤ x.sent.length ∧ x.sent.getD (p.s - 1).toNat pk0 = p ∧ x.live.getD (p.s - 1).toNat false = true := of_decide_eq_true h
theorem hasB_ver {x : StL} {p : Pk} (h : hasB x p = true) {m : Int} (hm : p.v.tmod 9 = m) : hasB x { p with v := m + 1 } = false := by
 obtain ⟨h1, h2, h3, h4, _⟩ := hasB_eq h; have h5 := (stB_ok h1).2.1 (p.s - 1).toNat (by omega); rw [h4] at h5; have h6 := (pkB_parts h5.1).2.2.2.2.2.2; unfold hasB
 refine decide_eq_false fun h9 => ?_
 have h7 := h9.2.2.2.1; dsimp only at h7; rw [h4] at h7; have h8 : p.v = m + 1 := congrArg Pk.v h7
 have h10 : p.v = 1 ∨ p.v = 2 ∨ p.v = 3 ∨ p.v = 4 ∨ p.v = 5 ∨ p.v = 6 ∨ p.v = 7 ∨ p.v = 8 ∨ p.v = 9 := by omega
 rcases h10 with h | h | h | h | h | h | h | h | h <;> rw [h] at hm h8 <;> (subst hm; revert h8; decide)
theorem walk_lstseq (w : World) (ht : Tabs w) (a0 : Option Addr) (len0 cap0 : Nat) (z0 : List Int) (h : Bytes w a0 len0 z0) (e0 : len0 ≤ cap0) (f0 : cap0 ≤ maxLen) (a1 : Option Addr) (len1 cap1 : Nat) (e1 : len1 ≤ cap1) (f1 : cap1 ≤ maxLen) :
  Calls Tryd.prog 9 #[.slice a0 len0 cap0, .slice a1 len1 cap1] w fun e w' => e = .returned (.bool true) ∧ Below w.heap.size w w' := by
 have HT := hH ht; have HD := hH (drawStHas_any a0 len0 cap0 z0 w h e0 f0); clear h ht e0 f0
 by_cases hs : (len0 : Int) ≤ 1048576
 case neg =>
  go_enter Tryd.func9, Tryd.ntmps9
  go_wp2; go_ret; exact ⟨rfl, Below.refl _ _⟩
 by_cases hs1 : (len1 : Int) ≤ 1048576
 case neg =>
  go_enter Tryd.func9, Tryd.ntmps9
  go_wp2; go_ret; exact ⟨rfl, Below.refl _ _⟩
 go_enter Tryd.func9, Tryd.ntmps9
 go_wp2_with fail; refine HD.out.mono ?_; rintro e w1 ⟨s, p, rfl, hat, hk1⟩; obtain ⟨o, ho⟩ : ∃ o, hasB s.x p = o := ⟨_, rfl⟩; have HIH := hH (fun W (h : StAt W s.x s.A1 s.A2 s.A3 s.A4) (hT : Tabs W) => (show Calls Tryd.prog 16 #[stV s.x s.A1 s.A2 s.A3 s.A4 s.c1 s.c2 s.c3 s.c4, .agg #[.int .i64 p.s, .int .i64 p.k, .int .i64 p.f, .int .i64 p.t, .int .i64 p.m, .int .i64 p.u, .int .i64 p.v]] W (fun e w' => e = .returned (.bool o) ∧ Keeps noBlk W w') from by have h9 := implHas_any s.x s.A1 s.A2 s.A3 s.A4 s.c1 s.c2 s.c3 s.c4 p W h hT; rw [ho] at h9; exact h9)); have HSH := hH (fun W (h : StAt W s.x s.A1 s.A2 s.A3 s.A4) => (show Calls Tryd.prog 17 #[stV s.x s.A1 s.A2 s.A3 s.A4 s.c1 s.c2 s.c3 s.c4, .agg #[.int .i64 p.s, .int .i64 p.k, .int .i64 p.f, .int .i64 p.t, .int .i64 p.m, .int .i64 p.u, .int .i64 p.v]] W (fun e w' => e = .returned (.bool o) ∧ Keeps noBlk W w') from by have h9 := specHas_any s.x s.A1 s.A2 s.A3 s.A4 s.c1 s.c2 s.c3 s.c4 p W h; rw [ho] at h9; exact h9)); have HA := hH (hat.kept (((Keeps.refl noBlk w1).alloc (.cells (smC s) 27)).alloc (.cells (pkC p) 29))); have HK := hH ((hk1.alloc (.cells (smC s) 27)).alloc (.cells (pkC p) 29)); have sz1 := hk1.size; clear hat hk1 HD; dsimp only [StM.val, Pk.val]; have HBs := hH ((Box.new w1 _ rfl 27 (smC s)).alloc (.cells (pkC p) 29)); have HBp := hH (Box.new (w1.alloc (.cells (smC s) 27)) (w1.heap.size + 1) (by simp) 29 (pkC p)); go_wp2_with fail; refine (HIH.out _ HA.out (HT.out.keeps HK.out)).mono ?_; rintro e w2 ⟨rfl, hk2⟩; replace HBs := hH (HBs.out.keeps hk2 (fun h => h)); replace HBp := hH (HBp.out.keeps hk2 (fun h => h)); replace HA := hH ((HA.out).kept hk2); replace HK := hH (HK.out.trans hk2); have sz2 := hk2.size
 (try simp at sz2)
 clear hk2; have hb := HBs.out; obtain ⟨s0, s1, s2, s3, s4, s5, s6⟩ := hb.cells7; have zs := hb.lt; clear hb; have hb := HBp.out; obtain ⟨p0, p1, p2, p3, p4, p5, p6⟩ := hb.cells7; have zp := hb.lt; clear hb; go_wp2_with fail; refine (HSH.out _ HA.out).mono ?_; rintro e w3 ⟨rfl, hk3⟩; clear s0 s1 s2 s3 s4 s5 s6 p0 p1 p2 p3 p4 p5 p6 zs zp; replace HBs := hH (HBs.out.keeps hk3 (fun h => h)); replace HBp := hH (HBp.out.keeps hk3 (fun h => h)); replace HA := hH ((HA.out).kept hk3); replace HK := hH (HK.out.trans hk3); have sz3 := hk3.size
 (try simp at sz3)
 clear hk3; have hb := HBs.out; obtain ⟨s0, s1, s2, s3, s4, s5, s6⟩ := hb.cells7; have zs := hb.lt; clear hb; have hb := HBp.out; obtain ⟨p0, p1, p2, p3, p4, p5, p6⟩ := hb.cells7; have zp := hb.lt; clear hb
 rcases Bool.eq_false_or_eq_true (stB s.x) with hs9 | hs9
 ·skip
  have HO := hH ho; clear ho
  have hoo : (o != o) = false := by cases o <;> rfl
  go_wp2_with fail; refine (specSt_any s.x s.A1 s.A2 s.A3 s.A4 s.c1 s.c2 s.c3 s.c4 _ HA.out).mono ?_; rintro e w4 ⟨rfl, hk4⟩; clear s0 s1 s2 s3 s4 s5 s6 p0 p1 p2 p3 p4 p5 p6 zs zp; replace HBs := hH (HBs.out.keeps hk4 (fun h => h)); replace HBp := hH (HBp.out.keeps hk4 (fun h => h)); replace HA := hH ((HA.out).kept hk4); replace HK := hH (HK.out.trans hk4); have sz4 := hk4.size
  (try simp at sz4)
  clear hk4; have hb := HBs.out; obtain ⟨s0, s1, s2, s3, s4, s5, s6⟩ := hb.cells7; have zs := hb.lt; clear hb; have hb := HBp.out; obtain ⟨p0, p1, p2, p3, p4, p5, p6⟩ := hb.cells7; have zp := hb.lt; clear hb; have h8 := (stB_ok hs9).2.1.small; obtain ⟨m, hm⟩ : ∃ m : Int, p.v.tmod 9 = m := ⟨_, rfl⟩
  have hm1 : -9 < m := by have := Int.lt_tmod_of_pos p.v (show (0 : Int) < 9 by omega); omega
  have hm2 : m < 9 := by have := Int.tmod_lt_of_pos p.v (show (0 : Int) < 9 by omega); omega
  have hwm : IntKind.i64.wrap m = m := IntWalk.i64_in _ (by omega); have hwm1 : IntKind.i64.wrap (m + 1) = m + 1 := IntWalk.i64_in _ (by omega); have hwl : IntKind.i64.wrap ((s.x.sent.length : Int) + 1) = (s.x.sent.length : Int) + 1 := IntWalk.i64_in _ (by omega); have HQ := hH (fun W (h : StAt W s.x s.A1 s.A2 s.A3 s.A4) (hT : Tabs W) => (show Calls Tryd.prog 16 #[stV s.x s.A1 s.A2 s.A3 s.A4 s.c1 s.c2 s.c3 s.c4, .agg #[.int .i64 ((s.x.sent.length : Int) + 1), .int .i64 p.k, .int .i64 p.f, .int .i64 p.t, .int .i64 p.m, .int .i64 p.u, .int .i64 p.v]] W (fun e w' => e = .returned (.bool false) ∧ Keeps noBlk W w') from by have h9 := implHas_any s.x s.A1 s.A2 s.A3 s.A4 s.c1 s.c2 s.c3 s.c4 { p with s := (s.x.sent.length : Int) + 1 } W h hT; rw [hasB_seq] at h9; exact h9)); have HX : Hid (o = true → ∀ W (h : StAt W s.x s.A1 s.A2 s.A3 s.A4) (hT : Tabs W), (Calls Tryd.prog 16 #[stV s.x s.A1 s.A2 s.A3 s.A4 s.c1 s.c2 s.c3 s.c4, .agg #[.int .i64 p.s, .int .i64 p.k, .int .i64 p.f, .int .i64 p.t, .int .i64 p.m, .int .i64 p.u, .int .i64 (m + 1)]] W (fun e w' => e = .returned (.bool false) ∧ Keeps noBlk W w'))) := hH (fun ho1 W h hT => by have h9 := implHas_any s.x s.A1 s.A2 s.A3 s.A4 s.c1 s.c2 s.c3 s.c4 { p with v := m + 1 } W h hT; rw [hasB_ver (HO.out.trans ho1) hm] at h9; exact h9); have HSET := hH (fun W (h : StAt W s.x s.A1 s.A2 s.A3 s.A4) (hT : Tabs W) => (show Calls Tryd.prog 25 #[stV s.x s.A1 s.A2 s.A3 s.A4 s.c1 s.c2 s.c3 s.c4, .int .i64 ((s.x.sent.length : Int) + 1)] W (fun e w' => e = .returned (.int .i64 0) ∧ Keeps noBlk W w') from by have h9 := implSet_any s.x s.A1 s.A2 s.A3 s.A4 s.c1 s.c2 s.c3 s.c4 ((s.x.sent.length : Int) + 1) W h hT; rw [setN_hi (by omega)] at h9; exact h9))
  have ns1 : ¬ w1.heap.size = w4.heap.size := by omega
  have ns2 : ¬ w4.heap.size = w1.heap.size := by omega
  have np1 : ¬ w1.heap.size + 1 = w4.heap.size := by omega
  have np2 : ¬ w4.heap.size = w1.heap.size + 1 := by omega
  go_upto_region 9 with fail
  clear ns1 ns2 np1 np2; clear s0 s1 s2 s3 s4 s5 s6 p0 p1 p2 p3 p4 p5 p6 zs zp; have hb := Box.new w4 _ rfl 29 #[.int .i64 ((s.x.sent.length : Int) + 1), .int .i64 p.k, .int .i64 p.f, .int .i64 p.t, .int .i64 p.m, .int .i64 p.u, .int .i64 p.v]; replace HBs := hH (HBs.out.keeps ((Keeps.refl noBlk w4).alloc (.cells #[.int .i64 ((s.x.sent.length : Int) + 1), .int .i64 p.k, .int .i64 p.f, .int .i64 p.t, .int .i64 p.m, .int .i64 p.u, .int .i64 p.v] 29)) (fun h => h)); replace HBp := hH (HBp.out.keeps ((Keeps.refl noBlk w4).alloc (.cells #[.int .i64 ((s.x.sent.length : Int) + 1), .int .i64 p.k, .int .i64 p.f, .int .i64 p.t, .int .i64 p.m, .int .i64 p.u, .int .i64 p.v] 29)) (fun h => h)); replace HA := hH (HA.out.kept ((Keeps.refl noBlk w4).alloc (.cells #[.int .i64 ((s.x.sent.length : Int) + 1), .int .i64 p.k, .int .i64 p.f, .int .i64 p.t, .int .i64 p.m, .int .i64 p.u, .int .i64 p.v] 29))); replace HK := hH (HK.out.trans ((Keeps.refl noBlk w4).alloc (.cells #[.int .i64 ((s.x.sent.length : Int) + 1), .int .i64 p.k, .int .i64 p.f, .int .i64 p.t, .int .i64 p.m, .int .i64 p.u, .int .i64 p.v] 29))); have HBq := hH hb; clear hb
  have zz : (w4.alloc (.cells #[.int .i64 ((s.x.sent.length : Int) + 1), .int .i64 p.k, .int .i64 p.f, .int .i64 p.t, .int .i64 p.m, .int .i64 p.u, .int .i64 p.v] 29)).heap.size = w4.heap.size + 1 := by simp
  generalize (w4.alloc (.cells #[.int .i64 ((s.x.sent.length : Int) + 1), .int .i64 p.k, .int .i64 p.f, .int .i64 p.t, .int .i64 p.m, .int .i64 p.u, .int .i64 p.v] 29)) = vq at HBs HBp HBq HA HK zz ⊢
  have lvq : w4.heap.size < vq.heap.size := by omega
  clear zz; clear hs9; have hb := HBs.out; obtain ⟨s0, s1, s2, s3, s4, s5, s6⟩ := hb.cells7; have zs := hb.lt; clear hb; have hb := HBp.out; obtain ⟨p0, p1, p2, p3, p4, p5, p6⟩ := hb.cells7; have zp := hb.lt; clear hb
  have ns1 : ¬ w1.heap.size = vq.heap.size := by omega
  have ns2 : ¬ vq.heap.size = w1.heap.size := by omega
  have np1 : ¬ w1.heap.size + 1 = vq.heap.size := by omega
  have np2 : ¬ vq.heap.size = w1.heap.size + 1 := by omega
  go_upto_region 11 with fail
  clear ns1 ns2 np1 np2; clear s0 s1 s2 s3 s4 s5 s6 p0 p1 p2 p3 p4 p5 p6 zs zp; have hb := Box.new vq _ rfl 29 #[.int .i64 p.s, .int .i64 p.k, .int .i64 p.f, .int .i64 p.t, .int .i64 p.m, .int .i64 p.u, .int .i64 (m + 1)]; replace HBs := hH (HBs.out.keeps ((Keeps.refl noBlk vq).alloc (.cells #[.int .i64 p.s, .int .i64 p.k, .int .i64 p.f, .int .i64 p.t, .int .i64 p.m, .int .i64 p.u, .int .i64 (m + 1)] 29)) (fun h => h)); replace HBp := hH (HBp.out.keeps ((Keeps.refl noBlk vq).alloc (.cells #[.int .i64 p.s, .int .i64 p.k, .int .i64 p.f, .int .i64 p.t, .int .i64 p.m, .int .i64 p.u, .int .i64 (m + 1)] 29)) (fun h => h)); replace HBq := hH (HBq.out.keeps ((Keeps.refl noBlk vq).alloc (.cells #[.int .i64 p.s, .int .i64 p.k, .int .i64 p.f, .int .i64 p.t, .int .i64 p.m, .int .i64 p.u, .int .i64 (m + 1)] 29)) (fun h => h)); replace HA := hH (HA.out.kept ((Keeps.refl noBlk vq).alloc (.cells #[.int .i64 p.s, .int .i64 p.k, .int .i64 p.f, .int .i64 p.t, .int .i64 p.m, .int .i64 p.u, .int .i64 (m + 1)] 29))); replace HK := hH (HK.out.trans ((Keeps.refl noBlk vq).alloc (.cells #[.int .i64 p.s, .int .i64 p.k, .int .i64 p.f, .int .i64 p.t, .int .i64 p.m, .int .i64 p.u, .int .i64 (m + 1)] 29))); have HBx := hH hb; clear hb
  have zz : (vq.alloc (.cells #[.int .i64 p.s, .int .i64 p.k, .int .i64 p.f, .int .i64 p.t, .int .i64 p.m, .int .i64 p.u, .int .i64 (m + 1)] 29)).heap.size = vq.heap.size + 1 := by simp
  generalize (vq.alloc (.cells #[.int .i64 p.s, .int .i64 p.k, .int .i64 p.f, .int .i64 p.t, .int .i64 p.m, .int .i64 p.u, .int .i64 (m + 1)] 29)) = vx at HBs HBp HBq HBx HA HK zz ⊢
  have lvx : vq.heap.size < vx.heap.size := by omega
  clear zz; clear hm hwm hwm1; have hb := HBs.out; obtain ⟨s0, s1, s2, s3, s4, s5, s6⟩ := hb.cells7; have zs := hb.lt; clear hb; have hb := HBq.out; obtain ⟨q0, q1, q2, q3, q4, q5, q6⟩ := hb.cells7; have zq := hb.lt; clear hb; go_wp2_with fail; refine (HQ.out _ HA.out (HT.out.keeps HK.out)).mono ?_; rintro e w5 ⟨rfl, hk5⟩; clear s0 s1 s2 s3 s4 s5 s6 q0 q1 q2 q3 q4 q5 q6 zs zq; replace HBs := hH (HBs.out.keeps hk5 (fun h => h)); replace HBp := hH (HBp.out.keeps hk5 (fun h => h)); replace HBq := hH (HBq.out.keeps hk5 (fun h => h)); replace HBx := hH (HBx.out.keeps hk5 (fun h => h)); replace HA := hH ((HA.out).kept hk5); replace HK := hH (HK.out.trans hk5); have sz5 := hk5.size
  (try simp at sz5)
  clear hk5; have hb := HBs.out; obtain ⟨s0, s1, s2, s3, s4, s5, s6⟩ := hb.cells7; have zs := hb.lt; clear hb; have hb := HBx.out; obtain ⟨x0, x1, x2, x3, x4, x5, x6⟩ := hb.cells7; have zx := hb.lt; clear hb
  cases o with
  | false =>
   go_wp2_with fail; refine (HSET.out _ HA.out (HT.out.keeps HK.out)).mono ?_; rintro e w6 ⟨rfl, hk6⟩; clear s0 s1 s2 s3 s4 s5 s6 x0 x1 x2 x3 x4 x5 x6 zs zx; replace HBs := hH (HBs.out.keeps hk6 (fun h => h)); replace HBp := hH (HBp.out.keeps hk6 (fun h => h)); replace HBq := hH (HBq.out.keeps hk6 (fun h => h)); replace HBx := hH (HBx.out.keeps hk6 (fun h => h)); replace HA := hH ((HA.out).kept hk6); replace HK := hH (HK.out.trans hk6); have sz6 := hk6.size
   (try simp at sz6)
   clear hk6; go_wp2; go_ret; exact ⟨rfl, HK.out.below⟩
  | true =>
   have HXX := hH (HX.out rfl); go_wp2_with fail; refine (HXX.out _ HA.out (HT.out.keeps HK.out)).mono ?_; rintro e w6 ⟨rfl, hk6⟩; clear s0 s1 s2 s3 s4 s5 s6 x0 x1 x2 x3 x4 x5 x6 zs zx; replace HBs := hH (HBs.out.keeps hk6 (fun h => h)); replace HBp := hH (HBp.out.keeps hk6 (fun h => h)); replace HBq := hH (HBq.out.keeps hk6 (fun h => h)); replace HBx := hH (HBx.out.keeps hk6 (fun h => h)); replace HA := hH ((HA.out).kept hk6); replace HK := hH (HK.out.trans hk6); have sz6 := hk6.size
   (try simp at sz6)
   clear hk6; have hb := HBs.out; obtain ⟨s0, s1, s2, s3, s4, s5, s6⟩ := hb.cells7; have zs := hb.lt; clear hb; go_wp2_with fail; refine (HSET.out _ HA.out (HT.out.keeps HK.out)).mono ?_; rintro e w7 ⟨rfl, hk7⟩; clear s0 s1 s2 s3 s4 s5 s6 zs; replace HBs := hH (HBs.out.keeps hk7 (fun h => h)); replace HBp := hH (HBp.out.keeps hk7 (fun h => h)); replace HBq := hH (HBq.out.keeps hk7 (fun h => h)); replace HBx := hH (HBx.out.keeps hk7 (fun h => h)); replace HA := hH ((HA.out).kept hk7); replace HK := hH (HK.out.trans hk7); have sz7 := hk7.size
   (try simp at sz7)
   clear hk7; go_wp2; go_ret; exact ⟨rfl, HK.out.below⟩
 ·skip
  obtain rfl : o = false := by rw [← ho]; exact hasB_bad hs9
  go_wp2_with fail; refine (specSt_any s.x s.A1 s.A2 s.A3 s.A4 s.c1 s.c2 s.c3 s.c4 _ HA.out).mono ?_; rintro e w4 ⟨rfl, hk4⟩; clear s0 s1 s2 s3 s4 s5 s6 p0 p1 p2 p3 p4 p5 p6 zs zp; replace HBs := hH (HBs.out.keeps hk4 (fun h => h)); replace HBp := hH (HBp.out.keeps hk4 (fun h => h)); replace HA := hH ((HA.out).kept hk4); replace HK := hH (HK.out.trans hk4); have sz4 := hk4.size
  (try simp at sz4)
  clear hk4; have hb := HBs.out; obtain ⟨s0, s1, s2, s3, s4, s5, s6⟩ := hb.cells7; have zs := hb.lt; clear hb; have hb := HBp.out; obtain ⟨p0, p1, p2, p3, p4, p5, p6⟩ := hb.cells7; have zp := hb.lt; clear hb; go_wp2_with fail; refine (HSH.out _ HA.out).mono ?_; rintro e w5 ⟨rfl, hk5⟩; clear s0 s1 s2 s3 s4 s5 s6 p0 p1 p2 p3 p4 p5 p6 zs zp; replace HBs := hH (HBs.out.keeps hk5 (fun h => h)); replace HBp := hH (HBp.out.keeps hk5 (fun h => h)); replace HA := hH ((HA.out).kept hk5); replace HK := hH (HK.out.trans hk5); have sz5 := hk5.size
  (try simp at sz5)
  clear hk5; go_wp2; go_ret; exact ⟨rfl, HK.out.below⟩
namespace lstseq
theorem lifted (os : Os) (started : os.Started) (H : Type) (enc : TypeId × Value → H) :
  ReturnsInHanded {} Tryd.checked os 9 .any (fun w args => (Rows.fnStateSeqSpec.pre enc Tryd.prog Tryd.f9 [] false w args ∧ laidMetH Tryd.prog Rows.fnStateSeqRow.laid w) ∧ sizedMet enc Tryd.prog Tryd.f9 (OpenSpec.ofChange Rows.fnStateSeqSpec) false w args)
   (Rows.fnStateSeqSpec.post enc Tryd.prog Tryd.f9 false true false false) := by
 refine returnsInHanded_of_change_and (C := Tryd.checked) (X := fun w _ => laidMetH Tryd.prog Rows.fnStateSeqRow.laid w) (fun _ _ _ hh h => h.of_heap hh) own started (by kernel_rfl) Tryd.func9
  (ChangeSpec.witness_shaped (enc := enc) (C := Tryd.checked) (os := os) (X := fun w _ => laidMetH Tryd.prog Rows.fnStateSeqRow.laid w) false (World.doorLaid Tryd.prog 101 os) #[.slice none 0 0, .slice none 0 0] 8 rfl (World.shaped_of_RefB (by kernel_rfl) (by kernel_rfl)) (by kernel_rfl) (by kernel_rfl) (by kernel_rfl) (door_met os _)) ?_
 intro W base args ds gs before hval0 hW _ _ hL _; have hval : ∀ (j : Nat) t v, Tryd.f9.params[j]? = some t → args[j]? = some v → Value.okWide Tryd.prog W .any base t v := hval0; have hW' := hW; obtain ⟨p, q, hA0, hV, rfl, hfz, hnd⟩ := hW; have hA : DataW.TrodAll enc Tryd.prog W 0 (fun _ => true) true Tryd.f9.params.toList args.toList ds p := hA0; rw [Tryd.params9 ] at hA hval; obtain ⟨g0, g1, rfl⟩ := vars2 hV; obtain ⟨v0, vs0, d0, ds0, p0, q0, hargs, rfl, rfl, h0, r0⟩ := trodAll_cons hA; obtain ⟨v1, vs1, d1, ds1, p1, q1, rfl, rfl, rfl, h1, r1⟩ := trodAll_cons r0; obtain ⟨rfl, rfl, rfl⟩ := trodAll_nil r1
 obtain rfl : args = #[v0, v1] := by cases args; simp_all
 obtain ⟨a0, len0, cap0, rfl⟩ := okWide_slice Tryd.underlying22 (hval 0 22 v0 rfl rfl); have k0 := h0
 have lt0 : ∀ x ∈ p0, x.block < W.heap.size := by obtain ⟨m, hm⟩ := k0; exact DataW.trod_lt m _ _ _ hm
 obtain ⟨z0, w0, e0, f0⟩ := bytes_of_trod h0; obtain ⟨a1, len1, cap1, rfl⟩ := okWide_slice Tryd.underlying22 (hval 1 22 v1 rfl rfl); have k1 := h1
 have lt1 : ∀ x ∈ p1, x.block < W.heap.size := by obtain ⟨m, hm⟩ := k1; exact DataW.trod_lt m _ _ _ hm
 obtain ⟨z1, w1, e1, f1⟩ := bytes_of_trod h1; clear hA0 hval0
 refine (walk_lstseq W (tabs_of_laid hL) a0 len0 cap0 z0 w0 e0 f0 a1 len1 cap1 e1 f1).mono fun e W' ⟨he, bel⟩ => ?_
 subst he; exact ⟨_, rfl, _, _, _, [], _, _, hW', trodAll_mk1 (shut_bool Tryd.underlying4 _), (trodAll_cons_mk (Below.trod laidOut (by kernel_rfl) (of_decide_eq_true (by kernel_rfl)) k0 bel lt0) (trodAll_cons_mk (Below.trod laidOut (by kernel_rfl) (of_decide_eq_true (by kernel_rfl)) k1 bel lt1) trodAll_mk0)), Below.trodVars laidOut bel (by kernel_rfl) hV, bel.frame _, fun h => by cases h⟩
end lstseq

theorem fnStateSeq_row : Rows.FnStateSeqSaid :=
 OpenClaim.holds_of_wide 9 Tryd.f9 rfl rfl rfl rfl rfl rfl rfl ⟨rfl, rfl, rfl, rfl, rfl⟩ rfl rfl rfl rfl rfl (by kernel_rfl) Tryd.func9 (by kernel_rfl)
  (of_decide_eq_true (by kernel_rfl)) (by unfold Func.isWrapper; first | (rw [if_pos (by decide +kernel)]; kernel_rfl) | (rw [if_neg (by decide +kernel)]; exact ⟨rfl, rfl⟩))
  (fun os started H enc _ => lstseq.lifted os started H enc)

theorem fnStateSeq_card : Rows.FnStateSeqCardSaid :=
 Claim7.holds_tied_plain_at .later [] Rows.fnStateSeqCard.laidKinds true Rows.fnStateSeqCard.stood.harness true
  fnStateSeq_row (fun _ h => by cases h) (by kernel_rfl) (fun _ h => by cases h) fnStateSeq_row_tie rfl ⟨rfl, rfl⟩ (by kernel_rfl) rfl
  (fun g fn hg hfn => by
   obtain rfl : g = 9 := Option.some.inj ((show Tryd.prog.funcNamed Rows.fnStateSeqRow.func = some 9 by kernel_rfl).symm.trans hg) |>.symm
   obtain rfl : fn = Tryd.f9 := (Option.some.inj (Tryd.func9.symm.trans hfn)).symm; refine ⟨by kernel_rfl, fun j t ht => ?_⟩; have h3 : ∀ t ∈ Tryd.f9.params.toList, Tryd.prog.wantsStandIn t = false := of_decide_eq_true (by kernel_rfl)
   exact h3 t (Array.mem_toList_iff.2 (Array.mem_of_getElem? ht)))
  (by kernel_rfl)
#print axioms fnStateSeq_card
end Go.Proofs.YtjcbeihoeanhaaaDoor
