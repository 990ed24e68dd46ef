/- BankNew of the program and of the model. StateNew, ChainNew of the model: what is made anew has whatever roles one wants. WorldNew of the model: a world of two chains at the beginning. -/
import Derived.Test.YtjcbeihoeanhaaaDoorUPlA
set_option linter.unusedVariables false
set_option linter.unusedSimpArgs false
/-! New -/
set_option maxHeartbeats 400000
namespace Go.Proofs.YtjcbeihoeanhaaaDoor
open Go.RowKit

theorem specNew_any (w : World) : Calls Tryd.prog 86 #[] w (RetBank w newL) := by
 go_enter Tryd.func86, Tryd.ntmps86
 go_wp2
 refine bodyPost_ret (v := .agg #[.slice (some ⟨w.heap.size + 1, 0, none⟩) 3 3, .slice (some ⟨w.heap.size + 1 + 1, 0, none⟩) 3 3, .int .i64 0]) (by simp [results, Tryd.results86, go_sem]) rfl ?_
 refine ⟨_, rfl, ⟨_, _, _, _, _, _, rfl, ?_, ?_, ?_, by omega, by omega, by decide, by decide⟩, (((Keeps.refl _ _).alloc _).alloc _).alloc _⟩
 ·exact (Row.made' _ _ _ (by simp) (by omega) _ _ 3 [10, 10, 10] rfl (ints3 10 10 10)).alloc _
 ·exact Row.made' _ _ _ (by simp) (by omega) _ _ 3 [0, 0, 0] rfl (ints3 0 0 0)
 ·intro i h1 h2
  have e1 := blk_some h1
  have e2 := blk_some h2
  simp at e1 e2
  omega

set_option maxHeartbeats 4000000
set_option maxRecDepth 100000

theorem owns_made8 (w : World) (g : Nat) (hg : g = w.heap.size) : (w.alloc (.cells (madeCells #[.int .i64 0] 8) 3)).ownsRow 0 3 1 (.slice (some ⟨g, 0, none⟩) 8 8) 8 (vIs [0, 0, 0, 0, 0, 0, 0, 0]) := by
 subst hg
 exact ⟨rfl, .inr ⟨w.heap.size, 8, madeCells #[.int .i64 0] 8, rfl, Nat.zero_le _, heap_alloc_new w _, by omega, by decide, by kernel_rfl, by kernel_rfl⟩⟩
theorem specNewS_g (w : World) : Calls Tryd.prog 87 #[] w (RetCopy w newS) := by
 have hmk := make8
 have h1 := owns_lit0 (w.alloc (.cells #[.int .i64 0, .int .i64 1, .int .i64 0, .slice (some ⟨w.heap.size + 1, 0, none⟩) 0 0, .slice (some ⟨w.heap.size + 1 + 1, 0, none⟩) 0 0, .slice (some ⟨w.heap.size + 1 + 1 + 1, 0, none⟩) 0 0, .slice (some ⟨w.heap.size + 1 + 1 + 1 + 1, 0, none⟩) 8 8] 27)) (w.heap.size + 1) (by simp) 29 7
 have h2 := owns_lit0 ((w.alloc (.cells #[.int .i64 0, .int .i64 1, .int .i64 0, .slice (some ⟨w.heap.size + 1, 0, none⟩) 0 0, .slice (some ⟨w.heap.size + 1 + 1, 0, none⟩) 0 0, .slice (some ⟨w.heap.size + 1 + 1 + 1, 0, none⟩) 0 0, .slice (some ⟨w.heap.size + 1 + 1 + 1 + 1, 0, none⟩) 8 8] 27)).alloc (.cells #[] 29)) (w.heap.size + 1 + 1) (by simp) 4 1
 have h3 := owns_lit0 (((w.alloc (.cells #[.int .i64 0, .int .i64 1, .int .i64 0, .slice (some ⟨w.heap.size + 1, 0, none⟩) 0 0, .slice (some ⟨w.heap.size + 1 + 1, 0, none⟩) 0 0, .slice (some ⟨w.heap.size + 1 + 1 + 1, 0, none⟩) 0 0, .slice (some ⟨w.heap.size + 1 + 1 + 1 + 1, 0, none⟩) 8 8] 27)).alloc (.cells #[] 29)).alloc (.cells #[] 4)) (w.heap.size + 1 + 1 + 1) (by simp) 4 1
 have h4 := owns_made8 ((((w.alloc (.cells #[.int .i64 0, .int .i64 1, .int .i64 0, .slice (some ⟨w.heap.size + 1, 0, none⟩) 0 0, .slice (some ⟨w.heap.size + 1 + 1, 0, none⟩) 0 0, .slice (some ⟨w.heap.size + 1 + 1 + 1, 0, none⟩) 0 0, .slice (some ⟨w.heap.size + 1 + 1 + 1 + 1, 0, none⟩) 8 8] 27)).alloc (.cells #[] 29)).alloc (.cells #[] 4)).alloc (.cells #[] 4)) (w.heap.size + 1 + 1 + 1 + 1) (by simp)
 have H1 := hH (((h1.alloc (.cells #[] 4)).alloc (.cells #[] 4)).alloc (.cells (madeCells #[.int .i64 0] 8) 3))
 have H2 := hH ((h2.alloc (.cells #[] 4)).alloc (.cells (madeCells #[.int .i64 0] 8) 3))
 have H3 := hH (h3.alloc (.cells (madeCells #[.int .i64 0] 8) 3))
 have H4 := hH h4
 clear h1 h2 h3 h4
 go_enter Tryd.func87, Tryd.ntmps87
 go_wp2
 refine bodyPost_ret (v := .agg #[.int .i64 0, .int .i64 1, .int .i64 0, .slice (some ⟨w.heap.size + 1, 0, none⟩) 0 0, .slice (some ⟨w.heap.size + 1 + 1, 0, none⟩) 0 0, .slice (some ⟨w.heap.size + 1 + 1 + 1, 0, none⟩) 0 0, .slice (some ⟨w.heap.size + 1 + 1 + 1 + 1, 0, none⟩) 8 8]) (by simp [results, Tryd.results87, go_sem]) rfl ?_
 refine ⟨⟨newS, some ⟨w.heap.size + 1, 0, none⟩, some ⟨w.heap.size + 1 + 1, 0, none⟩, some ⟨w.heap.size + 1 + 1 + 1, 0, none⟩, some ⟨w.heap.size + 1 + 1 + 1 + 1, 0, none⟩, 0, 0, 0, 8⟩, rfl, rfl, (((((Keeps.refl _ _).alloc _).alloc _).alloc _).alloc _).alloc _, fun G ρ => ?_⟩
 refine ⟨fun b => if b < w.heap.size then G b else ρ (b - (w.heap.size + 1)), fun b hb => if_pos hb, ⟨H1.out, ?_⟩, ⟨H2.out, ?_⟩, ⟨H3.out, ?_⟩, ⟨H4.out, ?_⟩⟩
 all_goals
  intro g hg
  rw [ownBlock_some] at hg
  injection hg with hg
  subst hg
  dsimp only
  rw [if_neg (by omega)]
  congr 1
  omega

def RetNewC (id : Int) (w : World) (e : Ending) (w' : World) : Prop :=
 ∃ c : ChM, e = .returned (.tuple #[c.val, .bool true]) ∧ ChOk c ∧ c.id = id ∧ c.past = [] ∧ c.knows = [] ∧ c.st.x = newS ∧ c.bk.b = newL ∧ Keeps noBlk w w' ∧ ∀ (G : Nat → Nat) (i : Nat), ∃ G' : Nat → Nat, (∀ b, b < w.heap.size → G' b = G b) ∧ ChR G' i w' c
theorem newL_ok : okB newL = true := by decide
theorem newS_okB : stB newS = true := by decide
theorem newc_end {w w1 w2 W : World} {id : Int} {a1 a2 : Option Addr} {k1 k2 : Nat} {s : StM} {p1 p2 : Nat} (hs0 : w.heap.size ≤ w1.heap.size) (hro : Row w1 (w.heap.size + 1) a1 3 newL.own) (hrn : Row w1 (w.heap.size + 1) a2 3 newL.notes) (hdis : ∀ b, blk a1 3 b → ¬ blk a2 3 b)
  (hx : s.x = newS) (hk2 : Keeps noBlk w1 w2) (hg : ∀ G ρ : Nat → Nat, ∃ G' : Nat → Nat, (∀ b, b < w1.heap.size → G' b = G b) ∧ StR G' ρ w2 s) (kS : Keeps (fun b => b = w.heap.size) w2 W)
  (o1 : W.ownsRow 0 27 7 (.slice (some ⟨p1, 0, none⟩) 0 0) 0 []) (o2 : W.ownsRow 0 3 1 (.slice (some ⟨p2, 0, none⟩) 0 0) 0 []) (e1 : w2.heap.size ≤ p1) (e2 : w2.heap.size ≤ p2) (e3 : p1 ≠ p2) (hsz : w.heap.size < w1.heap.size) :
  ∀ (G : Nat → Nat) (i : Nat), ∃ G' : Nat → Nat, (∀ b, b < w.heap.size → G' b = G b) ∧ ChR G' i W ⟨id, ⟨newL, a1, a2, k1, k2⟩, s, [], some ⟨p1, 0, none⟩, 0, [], some ⟨p2, 0, none⟩, 0⟩ := by
 classical
 intro G i
 have z2 := hk2.size
 obtain ⟨G1, g1, g2⟩ := hg (fun b => if b < w.heap.size then G b else if blk a1 3 b then rl i 4 else if blk a2 3 b then rl i 5 else 0) (rl i)
 have lo1 : ∀ b, blk a1 3 b → w.heap.size < b := fun b hb => hro.ge hb
 have lo2 : ∀ b, blk a2 3 b → w.heap.size < b := fun b hb => hrn.ge hb
 have hi1 : ∀ b, blk a1 3 b → b < w1.heap.size := fun b hb => hro.lt hb
 have hi2 : ∀ b, blk a2 3 b → b < w1.heap.size := fun b hb => hrn.lt hb
 refine ⟨fun b => if b < w2.heap.size then G1 b else if b = p1 then rl i 6 else 1, fun b hb => ?_, ⟨⟨?_, fun b hb => ?_⟩, ?_, fun b hb => ?_⟩, ?_, ⟨o1, fun b hb => ?_⟩, fun s hs => by simp at hs, ⟨o2, fun b hb => ?_⟩⟩
 ·dsimp only
  rw [if_pos (by omega), g1 b (by omega), if_pos hb]
 ·exact (((hro.keeps hk2 fun _ _ h => h).keeps kS fun b hb h => by have := lo1 b hb; omega).less (Nat.zero_le _))
 ·have hb : blk a1 3 b := hb
  have h1 := lo1 b hb
  have h2 := hi1 b hb
  dsimp only
  rw [if_pos (by omega), g1 b h2, if_neg (by omega), if_pos hb]
 ·exact (((hrn.keeps hk2 fun _ _ h => h).keeps kS fun b hb h => by have := lo2 b hb; omega).less (Nat.zero_le _))
 ·have hb : blk a2 3 b := hb
  have h1 := lo2 b hb
  have h2 := hi2 b hb
  dsimp only
  rw [if_pos (by omega), g1 b h2, if_neg (by omega), if_neg (fun h => hdis b h hb), if_pos hb]
 ·refine StR.keeps (S := fun b => b = w.heap.size) (StR.ext g2 fun b hb => if_pos hb) kS fun b k hk hb h => ?_
  subst h
  rw [if_pos (by omega), g1 _ hsz] at hb
  split at hb
  ·omega
  ·rename_i hh
   rw [if_neg (fun h => by have := lo1 _ h; omega), if_neg (fun h => by have := lo2 _ h; omega)] at hb
   unfold rl at hb
   omega
 ·rw [ownBlock_some] at hb
  injection hb with hb
  subst hb
  dsimp only
  rw [if_neg (by omega), if_pos rfl]
 ·rw [ownBlock_some] at hb
  injection hb with hb
  subst hb
  dsimp only
  rw [if_neg (by omega), if_neg (fun h => e3 h.symm)]
theorem specNewC_g (id : Int) (w : World) (hi : in2 id 1 2 = true) : Calls Tryd.prog 83 #[.int .i64 id] w (RetNewC id w) := by
 have F0 := hH (fun W => (show Calls Tryd.prog 50 #[.int .i64 id, .int .i64 1, .int .i64 2] W (fun e w' => e = .returned (.bool true) ∧ W = w') from by rw [← hi]; exact l6In_any id 1 2 W))
 have HBr := hH (Box.new w _ rfl 94 zC13)
 have HK := hH ((Keeps.refl noBlk w).alloc (.cells zC13 94))
 have HB := hH specNew_any
 have HS := hH specNewS_g
 clear hi
 go_enter Tryd.func83, Tryd.ntmps83
 go_wp2_with (go_at_call 50; refine (F0.out _).mono ?_; rintro e w' ⟨rfl, rfl⟩)
 refine (HB.out _).mono ?_
 rintro e w1 ⟨v, rfl, ⟨a1, n1, k1, a2, n2, k2, rfl, hro, hrn, hdis, _, _, _, _⟩, hk1⟩
 obtain rfl : 3 = n1 := hro.1.1
 obtain rfl : 3 = n2 := hrn.1.1
 replace HBr := hH (HBr.out.keeps hk1 (fun h => h))
 have RO := hH hro
 have RN := hH hrn
 have DIS := hH hdis
 have s1 := hk1.size
 have HK1 := hH (HK.out.trans hk1)
 clear hro hrn hdis hk1 HK
 go_wp2_with fail
 refine (HS.out _).mono ?_
 rintro e w2 ⟨s, rfl, hx, hk2, hg⟩
 have hb := HBr.out.keeps hk2 (fun h => h)
 have s2 := hk2.size
 have r0 := hb.lt
 have r1 := hb.cell 0
 have f1 := hb.frozen 0
 have r2 := hb.cell 1
 have f2 := hb.frozen 1
 have r3 := hb.cell 2
 have f3 := hb.frozen 2
 have r4 := hb.cell 3
 have f4 := hb.frozen 3
 have r5 := hb.cell 4
 have f5 := hb.frozen 4
 have r6 := hb.cell 5
 have f6 := hb.frozen 5
 have r7 := hb.cell 6
 have f7 := hb.frozen 6
 have r8 := hb.cell 7
 have f8 := hb.frozen 7
 have r9 := hb.cell 8
 have f9 := hb.frozen 8
 have r10 := hb.cell 9
 have f10 := hb.frozen 9
 have r11 := hb.cell 10
 have f11 := hb.frozen 10
 have r12 := hb.cell 11
 have f12 := hb.frozen 11
 have r13 := hb.cell 12
 have f13 := hb.frozen 12
 simp at r1 r2 r3 r4 r5 r6 r7 r8 r9 r10 r11 r12 r13
 clear HBr
 have HBX := hH hb
 clear hb
 have HX := hH hx
 have HG := hH hg
 have KK2 := hH hk2
 have HK2 := hH (HK1.out.trans hk2)
 clear hx hg hk2 HK1
 unfold StM.val
 go_wp2
 have hbF := (((((((((((((((HBX.out.set_ 0 (.int .i64 id)).set_ 1 (.slice a1 3 k1)).set_ 2 (.slice a2 3 k2)).set_ 3 (.int .i64 newL.locked)).set_ 4 (.int .i64 s.x.way)).set_ 5 (.int .i64 s.x.ver)).set_ 6 (.int .i64 s.x.want)).set_ 7 (.slice s.A1 s.x.sent.length s.c1)).set_ 8 (.slice s.A2 s.x.live.length s.c2)).set_ 9 (.slice s.A3 s.x.back.length s.c3)).set_ 10 (.slice s.A4 s.x.got.length s.c4)).set_ 11 (.slice (some ⟨w2.heap.size, 0, none⟩) 0 0)).set_ 12 (.slice (some ⟨w2.heap.size + 1, 0, none⟩) 0 0)).alloc (.cells #[] 27)).alloc (.cells #[] 3))
 simp only [List.setIfInBounds_toArray, List.set_cons_zero, List.set_cons_succ] at hbF
 have s10 := hbF.cell 0
 have s11 := hbF.cell 1
 have s12 := hbF.cell 2
 have s13 := hbF.cell 3
 have s14 := hbF.cell 4
 have s15 := hbF.cell 5
 have s16 := hbF.cell 6
 have s17 := hbF.cell 7
 have s18 := hbF.cell 8
 have s19 := hbF.cell 9
 have s20 := hbF.cell 10
 have s21 := hbF.cell 11
 have s22 := hbF.cell 12
 simp at s10 s11 s12 s13 s14 s15 s16 s17 s18 s19 s20 s21 s22
 clear hbF
 have kS : Keeps (fun b => b = w.heap.size) w2 (((((((((((((((w2.setCell ⟨w.heap.size, 0, none⟩ (.int .i64 id)).setCell ⟨w.heap.size, 1, none⟩ (.slice a1 3 k1)).setCell ⟨w.heap.size, 2, none⟩ (.slice a2 3 k2)).setCell ⟨w.heap.size, 3, none⟩ (.int .i64 newL.locked)).setCell ⟨w.heap.size, 4, none⟩ (.int .i64 s.x.way)).setCell ⟨w.heap.size, 5, none⟩ (.int .i64 s.x.ver)).setCell ⟨w.heap.size, 6, none⟩ (.int .i64 s.x.want)).setCell ⟨w.heap.size, 7, none⟩ (.slice s.A1 s.x.sent.length s.c1)).setCell ⟨w.heap.size, 8, none⟩ (.slice s.A2 s.x.live.length s.c2)).setCell ⟨w.heap.size, 9, none⟩ (.slice s.A3 s.x.back.length s.c3)).setCell ⟨w.heap.size, 10, none⟩ (.slice s.A4 s.x.got.length s.c4)).setCell ⟨w.heap.size, 11, none⟩ (.slice (some ⟨w2.heap.size, 0, none⟩) 0 0)).setCell ⟨w.heap.size, 12, none⟩ (.slice (some ⟨w2.heap.size + 1, 0, none⟩) 0 0)).alloc (.cells #[] 27)).alloc (.cells #[] 3)) := ((((((((((((((((Keeps.refl (fun b => b = w.heap.size) w2).setCell (p := ⟨w.heap.size, 0, none⟩) (.inr rfl) (.int .i64 id)).setCell (p := ⟨w.heap.size, 1, none⟩) (.inr rfl) (.slice a1 3 k1)).setCell (p := ⟨w.heap.size, 2, none⟩) (.inr rfl) (.slice a2 3 k2)).setCell (p := ⟨w.heap.size, 3, none⟩) (.inr rfl) (.int .i64 newL.locked)).setCell (p := ⟨w.heap.size, 4, none⟩) (.inr rfl) (.int .i64 s.x.way)).setCell (p := ⟨w.heap.size, 5, none⟩) (.inr rfl) (.int .i64 s.x.ver)).setCell (p := ⟨w.heap.size, 6, none⟩) (.inr rfl) (.int .i64 s.x.want)).setCell (p := ⟨w.heap.size, 7, none⟩) (.inr rfl) (.slice s.A1 s.x.sent.length s.c1)).setCell (p := ⟨w.heap.size, 8, none⟩) (.inr rfl) (.slice s.A2 s.x.live.length s.c2)).setCell (p := ⟨w.heap.size, 9, none⟩) (.inr rfl) (.slice s.A3 s.x.back.length s.c3)).setCell (p := ⟨w.heap.size, 10, none⟩) (.inr rfl) (.slice s.A4 s.x.got.length s.c4)).setCell (p := ⟨w.heap.size, 11, none⟩) (.inr rfl) (.slice (some ⟨w2.heap.size, 0, none⟩) 0 0)).setCell (p := ⟨w.heap.size, 12, none⟩) (.inr rfl) (.slice (some ⟨w2.heap.size + 1, 0, none⟩) 0 0)).alloc (.cells #[] 27)).alloc (.cells #[] 3))
 have o1 := (owns_lit0 (((((((((((((w2.setCell ⟨w.heap.size, 0, none⟩ (.int .i64 id)).setCell ⟨w.heap.size, 1, none⟩ (.slice a1 3 k1)).setCell ⟨w.heap.size, 2, none⟩ (.slice a2 3 k2)).setCell ⟨w.heap.size, 3, none⟩ (.int .i64 newL.locked)).setCell ⟨w.heap.size, 4, none⟩ (.int .i64 s.x.way)).setCell ⟨w.heap.size, 5, none⟩ (.int .i64 s.x.ver)).setCell ⟨w.heap.size, 6, none⟩ (.int .i64 s.x.want)).setCell ⟨w.heap.size, 7, none⟩ (.slice s.A1 s.x.sent.length s.c1)).setCell ⟨w.heap.size, 8, none⟩ (.slice s.A2 s.x.live.length s.c2)).setCell ⟨w.heap.size, 9, none⟩ (.slice s.A3 s.x.back.length s.c3)).setCell ⟨w.heap.size, 10, none⟩ (.slice s.A4 s.x.got.length s.c4)).setCell ⟨w.heap.size, 11, none⟩ (.slice (some ⟨w2.heap.size, 0, none⟩) 0 0)).setCell ⟨w.heap.size, 12, none⟩ (.slice (some ⟨w2.heap.size + 1, 0, none⟩) 0 0)) w2.heap.size (by simp) 27 7).alloc (.cells #[] 3)
 have o2 := owns_lit0 ((((((((((((((w2.setCell ⟨w.heap.size, 0, none⟩ (.int .i64 id)).setCell ⟨w.heap.size, 1, none⟩ (.slice a1 3 k1)).setCell ⟨w.heap.size, 2, none⟩ (.slice a2 3 k2)).setCell ⟨w.heap.size, 3, none⟩ (.int .i64 newL.locked)).setCell ⟨w.heap.size, 4, none⟩ (.int .i64 s.x.way)).setCell ⟨w.heap.size, 5, none⟩ (.int .i64 s.x.ver)).setCell ⟨w.heap.size, 6, none⟩ (.int .i64 s.x.want)).setCell ⟨w.heap.size, 7, none⟩ (.slice s.A1 s.x.sent.length s.c1)).setCell ⟨w.heap.size, 8, none⟩ (.slice s.A2 s.x.live.length s.c2)).setCell ⟨w.heap.size, 9, none⟩ (.slice s.A3 s.x.back.length s.c3)).setCell ⟨w.heap.size, 10, none⟩ (.slice s.A4 s.x.got.length s.c4)).setCell ⟨w.heap.size, 11, none⟩ (.slice (some ⟨w2.heap.size, 0, none⟩) 0 0)).setCell ⟨w.heap.size, 12, none⟩ (.slice (some ⟨w2.heap.size + 1, 0, none⟩) 0 0)).alloc (.cells #[] 27)) (w2.heap.size + 1) (by simp) 3 1
 generalize (((((((((((((((w2.setCell ⟨w.heap.size, 0, none⟩ (.int .i64 id)).setCell ⟨w.heap.size, 1, none⟩ (.slice a1 3 k1)).setCell ⟨w.heap.size, 2, none⟩ (.slice a2 3 k2)).setCell ⟨w.heap.size, 3, none⟩ (.int .i64 newL.locked)).setCell ⟨w.heap.size, 4, none⟩ (.int .i64 s.x.way)).setCell ⟨w.heap.size, 5, none⟩ (.int .i64 s.x.ver)).setCell ⟨w.heap.size, 6, none⟩ (.int .i64 s.x.want)).setCell ⟨w.heap.size, 7, none⟩ (.slice s.A1 s.x.sent.length s.c1)).setCell ⟨w.heap.size, 8, none⟩ (.slice s.A2 s.x.live.length s.c2)).setCell ⟨w.heap.size, 9, none⟩ (.slice s.A3 s.x.back.length s.c3)).setCell ⟨w.heap.size, 10, none⟩ (.slice s.A4 s.x.got.length s.c4)).setCell ⟨w.heap.size, 11, none⟩ (.slice (some ⟨w2.heap.size, 0, none⟩) 0 0)).setCell ⟨w.heap.size, 12, none⟩ (.slice (some ⟨w2.heap.size + 1, 0, none⟩) 0 0)).alloc (.cells #[] 27)).alloc (.cells #[] 3)) = WF at kS o1 o2 s10 s11 s12 s13 s14 s15 s16 s17 s18 s19 s20 s21 s22 ⊢
 refine bodyPost_ret (v := .tuple #[(⟨id, ⟨newL, a1, a2, k1, k2⟩, s, [], some ⟨w2.heap.size, 0, none⟩, 0, [], some ⟨w2.heap.size + 1, 0, none⟩, 0⟩ : ChM).val, .bool true]) (by simp [results, Tryd.results83, go_sem, ChM.val, newL, s10, s11, s12, s13, s14, s15, s16, s17, s18, s19, s20, s21, s22]) rfl ?_
 have hz : w.heap.size < w1.heap.size := by simp at s1; omega
 refine ⟨(⟨id, ⟨newL, a1, a2, k1, k2⟩, s, [], some ⟨w2.heap.size, 0, none⟩, 0, [], some ⟨w2.heap.size + 1, 0, none⟩, 0⟩ : ChM), rfl, ⟨newL_ok, by rw [HX.out]; exact newS_okB, fun s hs => by simp at hs, by simp, fun v hv => by simp at hv⟩, rfl, rfl, rfl, HX.out, rfl, HK2.out.then kS fun i hi h => by omega, ?_⟩
 exact newc_end (by omega) (by have q := RO.out; simpa using q) (by have q := RN.out; simpa using q) DIS.out HX.out KK2.out HG.out kS o1 o2 (Nat.le_refl _) (Nat.le_succ _) (by omega) hz
set_option maxHeartbeats 4000000
set_option maxRecDepth 100000

def RetWN (G : Nat → Nat) (w : World) (e : Ending) (w' : World) : Prop :=
 ∃ (G' : Nat → Nat) (m : WdM), e = .returned m.val ∧ WdOk m 0 ∧ (∀ b, b < w.heap.size → G' b = G b) ∧ WdR G' w' m ∧ Keeps noBlk w w'
theorem wn_end {G : Nat → Nat} {w W0 w1 W1 w2 W3 : World} {c1 c2 : ChM} {gA : Nat} (k0 : w.heap.size + 1 = W0.heap.size) (h1 : ∀ (G : Nat → Nat) (i : Nat), ∃ G' : Nat → Nat, (∀ b, b < W0.heap.size → G' b = G b) ∧ ChR G' i w1 c1) (k1 : Keeps noBlk w1 W1)
  (h2 : ∀ (G : Nat → Nat) (i : Nat), ∃ G' : Nat → Nat, (∀ b, b < W1.heap.size → G' b = G b) ∧ ChR G' i w2 c2) (k2 : Keeps noBlk W1 w2) (z0 : W0.heap.size ≤ w1.heap.size) (hA : w2.heap.size ≤ gA) (k3 : Keeps (fun b => b = w.heap.size) w2 W3) (hb : Box W3 gA 94 (c1.cs ++ c2.cs).toArray) :
  ∃ G' : Nat → Nat, (∀ b, b < w.heap.size → G' b = G b) ∧ WdR G' W3 ⟨c1, c2, gA⟩ := by
 obtain ⟨G1, a1, r1⟩ := h1 (up G w.heap.size 0) 0
 obtain ⟨G2, a2, r2⟩ := h2 (up G1 w1.heap.size 0) 1
 have q1 := k1.size
 have q2 := k2.size
 have f1 : ∀ b, b < w1.heap.size → G2 b = G1 b := fun b hb => by rw [a2 b (by omega), up_old hb]
 have hz : (fun b => if b = gA then 2 else G2 b) w.heap.size = 0 := by
  dsimp only
  rw [if_neg (by omega), f1 _ (by omega), a1 _ (by omega), up_new (Nat.le_refl _)]
 have hs : ∀ i b, (Mt (fun b => if b = gA then 2 else G2 b) i b ∨ (fun b => if b = gA then 2 else G2 b) b = 1) → ¬ b = w.heap.size := fun i b hb hS => by
  subst hS
  rcases hb with ⟨k, _, hk⟩ | hb
  ·rw [hz] at hk
   unfold rl at hk
   omega
  ·rw [hz] at hb
   cases hb
 have e1 := ((((r1.ext f1).kept k1).kept k2).ext (G' := fun b => if b = gA then 2 else G2 b) fun b hb => if_neg (by omega)).keeps k3 (hs 0)
 have e2 := (r2.ext (G' := fun b => if b = gA then 2 else G2 b) fun b hb => if_neg (by omega)).keeps k3 (hs 1)
 refine ⟨fun b => if b = gA then 2 else G2 b, fun b hb => ?_, hb, if_pos rfl, e1, e2⟩
 dsimp only
 rw [if_neg (by omega), f1 b (by omega), a1 b (by omega), up_old hb]
theorem worldNew_any (G : Nat → Nat) (w : World) : Calls Tryd.prog 77 #[] w (RetWN G w) := by
 have HBr := hH (Box.new w _ rfl 87 #[.slice none 0 0])
 have HK := hH ((Keeps.refl noBlk w).alloc (.cells #[.slice none 0 0] 87))
 have N1 := hH (specNewC_g 1)
 have N2 := hH (specNewC_g 2)
 go_enter Tryd.func77, Tryd.ntmps77
 go_wp2_with fail
 refine (N1.out _ (by decide)).mono ?_
 rintro e w1 ⟨c1, rfl, ok1, id1, p1, kn1, -, -, hk1, hg1⟩
 have OK1 := hH ok1
 have HG1 := hH hg1
 have E1 := hH kn1
 clear ok1 hg1 kn1 p1 id1
 replace HBr := hH (HBr.out.keeps hk1 (fun h => h))
 replace HK := hH (HK.out.trans hk1)
 have sz1 := hk1.size
 (try simp at sz1)
 clear hk1
 dsimp only [ChM.val]
 have KW1 := hH (Keeps.refl noBlk w1)
 replace HBr := hH (HBr.out.alloc (.cells (chC c1) 94))
 replace KW1 := hH (KW1.out.trans ((Keeps.refl noBlk w1).alloc (.cells (chC c1) 94)))
 replace HK := hH (HK.out.alloc (.cells (chC c1) 94))
 have HBa := hH (Box.new w1 _ rfl 94 (chC c1))
 go_wp2_with fail
 refine (N2.out _ (by decide)).mono ?_
 rintro e w2 ⟨c2, rfl, ok2, id2, p2, kn2, -, -, hk2, hg2⟩
 have OK2 := hH ok2
 have HG2 := hH hg2
 have E2 := hH kn2
 have KK2 := hH hk2
 clear ok2 hg2 kn2 p2 id2
 replace HBr := hH (HBr.out.keeps hk2 (fun h => h))
 replace HBa := hH (HBa.out.keeps hk2 (fun h => h))
 replace KW1 := hH (KW1.out.trans hk2)
 replace HK := hH (HK.out.trans hk2)
 have sz2 := hk2.size
 (try simp at sz2)
 clear hk2
 dsimp only [ChM.val]
 have KW2 := hH (Keeps.refl noBlk w2)
 have hb := HBr.out
 have r0 := hb.cell 0
 simp at r0
 have zr := hb.lt
 clear hb
 have hb := HBa.out
 obtain ⟨a0, a1, a2, a3, a4, a5, a6, a7, a8, a9, a10, a11, a12⟩ := hb.cells13
 have za := hb.lt
 clear hb
 have hb := HBr.out
 have rf0 := hb.frozen 0
 clear hb
 have : ¬ w.heap.size = w2.heap.size := by omega
 have : ¬ w2.heap.size = w.heap.size := by omega
 have : ¬ w.heap.size = w2.heap.size + 1 := by omega
 have : ¬ w2.heap.size + 1 = w.heap.size := by omega
 have : w.heap.size < w2.heap.size + 1 := by omega
 have : ¬ w1.heap.size = w2.heap.size := by omega
 have : ¬ w2.heap.size = w1.heap.size := by omega
 have : ¬ w1.heap.size = w2.heap.size + 1 := by omega
 have : ¬ w2.heap.size + 1 = w1.heap.size := by omega
 have : w1.heap.size < w2.heap.size + 1 := by omega
 go_wp2
 have hbA := Box.new ((w2.setCell ⟨w.heap.size, 0, none⟩ (.slice (some ⟨w2.heap.size + 1, 0, none⟩) 2 2)).alloc (.cells (chC c2) 94)) (w2.heap.size + 1) (by simp) 94 #[.int .i64 c1.id, .slice c1.bk.A1 c1.bk.b.own.length c1.bk.c1, .slice c1.bk.A2 c1.bk.b.notes.length c1.bk.c2, .int .i64 c1.bk.b.locked, .int .i64 c1.st.x.way, .int .i64 c1.st.x.ver, .int .i64 c1.st.x.want, .slice c1.st.A1 c1.st.x.sent.length c1.st.c1, .slice c1.st.A2 c1.st.x.live.length c1.st.c2, .slice c1.st.A3 c1.st.x.back.length c1.st.c3, .slice c1.st.A4 c1.st.x.got.length c1.st.c4, .slice c1.pA c1.past.length c1.pc, .slice c1.kA c1.knows.length c1.kc, .int .i64 c2.id, .slice c2.bk.A1 c2.bk.b.own.length c2.bk.c1, .slice c2.bk.A2 c2.bk.b.notes.length c2.bk.c2, .int .i64 c2.bk.b.locked, .int .i64 c2.st.x.way, .int .i64 c2.st.x.ver, .int .i64 c2.st.x.want, .slice c2.st.A1 c2.st.x.sent.length c2.st.c1, .slice c2.st.A2 c2.st.x.live.length c2.st.c2, .slice c2.st.A3 c2.st.x.back.length c2.st.c3, .slice c2.st.A4 c2.st.x.got.length c2.st.c4, .slice c2.pA c2.past.length c2.pc, .slice c2.kA c2.knows.length c2.kc]
 have kF : Keeps (fun b => b = w.heap.size) w2 (((w2.setCell ⟨w.heap.size, 0, none⟩ (.slice (some ⟨w2.heap.size + 1, 0, none⟩) 2 2)).alloc (.cells (chC c2) 94)).alloc (.cells #[.int .i64 c1.id, .slice c1.bk.A1 c1.bk.b.own.length c1.bk.c1, .slice c1.bk.A2 c1.bk.b.notes.length c1.bk.c2, .int .i64 c1.bk.b.locked, .int .i64 c1.st.x.way, .int .i64 c1.st.x.ver, .int .i64 c1.st.x.want, .slice c1.st.A1 c1.st.x.sent.length c1.st.c1, .slice c1.st.A2 c1.st.x.live.length c1.st.c2, .slice c1.st.A3 c1.st.x.back.length c1.st.c3, .slice c1.st.A4 c1.st.x.got.length c1.st.c4, .slice c1.pA c1.past.length c1.pc, .slice c1.kA c1.knows.length c1.kc, .int .i64 c2.id, .slice c2.bk.A1 c2.bk.b.own.length c2.bk.c1, .slice c2.bk.A2 c2.bk.b.notes.length c2.bk.c2, .int .i64 c2.bk.b.locked, .int .i64 c2.st.x.way, .int .i64 c2.st.x.ver, .int .i64 c2.st.x.want, .slice c2.st.A1 c2.st.x.sent.length c2.st.c1, .slice c2.st.A2 c2.st.x.live.length c2.st.c2, .slice c2.st.A3 c2.st.x.back.length c2.st.c3, .slice c2.st.A4 c2.st.x.got.length c2.st.c4, .slice c2.pA c2.past.length c2.pc, .slice c2.kA c2.knows.length c2.kc] 94)) := (((Keeps.refl (fun b => b = w.heap.size) w2).setCell (p := ⟨w.heap.size, 0, none⟩) (.inr rfl) _).alloc _).alloc _
 have hbr := (((HBr.out).set_ 0 (.slice (some ⟨w2.heap.size + 1, 0, none⟩) 2 2)).alloc (.cells (chC c2) 94)).alloc (.cells #[.int .i64 c1.id, .slice c1.bk.A1 c1.bk.b.own.length c1.bk.c1, .slice c1.bk.A2 c1.bk.b.notes.length c1.bk.c2, .int .i64 c1.bk.b.locked, .int .i64 c1.st.x.way, .int .i64 c1.st.x.ver, .int .i64 c1.st.x.want, .slice c1.st.A1 c1.st.x.sent.length c1.st.c1, .slice c1.st.A2 c1.st.x.live.length c1.st.c2, .slice c1.st.A3 c1.st.x.back.length c1.st.c3, .slice c1.st.A4 c1.st.x.got.length c1.st.c4, .slice c1.pA c1.past.length c1.pc, .slice c1.kA c1.knows.length c1.kc, .int .i64 c2.id, .slice c2.bk.A1 c2.bk.b.own.length c2.bk.c1, .slice c2.bk.A2 c2.bk.b.notes.length c2.bk.c2, .int .i64 c2.bk.b.locked, .int .i64 c2.st.x.way, .int .i64 c2.st.x.ver, .int .i64 c2.st.x.want, .slice c2.st.A1 c2.st.x.sent.length c2.st.c1, .slice c2.st.A2 c2.st.x.live.length c2.st.c2, .slice c2.st.A3 c2.st.x.back.length c2.st.c3, .slice c2.st.A4 c2.st.x.got.length c2.st.c4, .slice c2.pA c2.past.length c2.pc, .slice c2.kA c2.knows.length c2.kc] 94)
 simp only [List.setIfInBounds_toArray, List.set_cons_zero] at hbr
 have s10 := hbr.cell 0
 simp at s10
 clear hbr
 generalize (((w2.setCell ⟨w.heap.size, 0, none⟩ (.slice (some ⟨w2.heap.size + 1, 0, none⟩) 2 2)).alloc (.cells (chC c2) 94)).alloc (.cells #[.int .i64 c1.id, .slice c1.bk.A1 c1.bk.b.own.length c1.bk.c1, .slice c1.bk.A2 c1.bk.b.notes.length c1.bk.c2, .int .i64 c1.bk.b.locked, .int .i64 c1.st.x.way, .int .i64 c1.st.x.ver, .int .i64 c1.st.x.want, .slice c1.st.A1 c1.st.x.sent.length c1.st.c1, .slice c1.st.A2 c1.st.x.live.length c1.st.c2, .slice c1.st.A3 c1.st.x.back.length c1.st.c3, .slice c1.st.A4 c1.st.x.got.length c1.st.c4, .slice c1.pA c1.past.length c1.pc, .slice c1.kA c1.knows.length c1.kc, .int .i64 c2.id, .slice c2.bk.A1 c2.bk.b.own.length c2.bk.c1, .slice c2.bk.A2 c2.bk.b.notes.length c2.bk.c2, .int .i64 c2.bk.b.locked, .int .i64 c2.st.x.way, .int .i64 c2.st.x.ver, .int .i64 c2.st.x.want, .slice c2.st.A1 c2.st.x.sent.length c2.st.c1, .slice c2.st.A2 c2.st.x.live.length c2.st.c2, .slice c2.st.A3 c2.st.x.back.length c2.st.c3, .slice c2.st.A4 c2.st.x.got.length c2.st.c4, .slice c2.pA c2.past.length c2.pc, .slice c2.kA c2.knows.length c2.kc] 94)) = WZ at hbA kF s10 ⊢
 have hk9 := HK.out.then kF (fun i hi h => by omega)
 refine bodyPost_ret (v := WdM.val ⟨c1, c2, w2.heap.size + 1⟩) (by simp [results, Tryd.results77, go_sem, WdM.val, s10]) rfl ?_
 obtain ⟨G', hag, hwd⟩ := wn_end (G := G) (W0 := w.alloc (.cells #[.slice none 0 0] 87)) (by simp) HG1.out ((Keeps.refl noBlk w1).alloc (.cells (chC c1) 94)) HG2.out KK2.out (by simp; omega) (by omega) kF hbA
 refine ⟨G', ⟨c1, c2, w2.heap.size + 1⟩, rfl, ⟨OK1.out, OK2.out, by dsimp only; rw [E1.out]; simp, by dsimp only; rw [E2.out]; simp⟩, hag, hwd, hk9⟩
end Go.Proofs.YtjcbeihoeanhaaaDoor
