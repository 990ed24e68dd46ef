/- l13Settle of the model: a packet of a chain is settled, and given back, or not. l13Late, l13Tell of the model. l13Tell of the model. l13Pay of the model: who gets a packet is paid. -/
import Derived.Test.YtjcbeihoeanhaaaDoorUGMi
set_option maxRecDepth 100000
set_option maxHeartbeats 4000000
set_option linter.unusedVariables false
set_option linter.unusedSimpArgs false
/-! GSettle -/
namespace Go.Proofs.YtjcbeihoeanhaaaDoor
open Go.RowKit

theorem Rw.setB {G : Nat → Nat} {r : Nat} {w : World} {e : TypeId} {g c k : Nat} {xs : List Bool} (h : Rw G r w e 1 (.slice (some ⟨g, 0, none⟩) xs.length c) xs.length (vBs xs)) (hk : k < xs.length) (y : Bool) :
  Rw G r (w.setCell ⟨g, k, none⟩ (.bool y)) e 1 (.slice (some ⟨g, 0, none⟩) (xs.set k y).length c) (xs.set k y).length (vBs (xs.set k y)) := by
 refine ⟨?_, fun b hb => h.2 b (by simpa [Value.ownBlock] using hb)⟩; obtain ⟨hl, h2⟩ := h.1
 rcases h2 with ⟨h0, _⟩ | ⟨g', cap', cur, hv, hb, hg, hc, hm, hs, ht⟩
 ·cases h0
 ·cases hv
  have hB : Box w g e cur := hg; have hB2 := hB.set_ k (.bool y); refine ⟨by simp [vBs_length], .inr ⟨g, c, _, by rw [List.length_set], hb, hB2, by rw [List.length_set]; exact hc, hm, by simpa using hs, ?_⟩⟩; rw [List.length_set]
  apply List.ext_getElem?
  intro j
  have hj0 : (cur.toList.take (xs.length * 1))[j]? = (vBs xs)[j]? := by rw [ht]
  rw [List.getElem?_take] at hj0 ⊢; simp only [vBs, List.getElem?_map, List.getElem?_set, Array.toList_setIfInBounds, Nat.mul_one] at hj0 ⊢
  by_cases hjk : k = j
  ·subst hjk
   have hks : k < cur.size := by omega
   simp [hk, hks]
  ·rw [if_neg hjk, if_neg hjk]
   exact hj0
def settleCh (c : ChM) (k : Nat) (bk : Bool) : ChM :=
 { c with
  bk := if bk = true then { c.bk with b := turnB c.bk.b (c.st.x.sent.getD k pk0).k (c.st.x.sent.getD k pk0).f (c.st.x.sent.getD k pk0).m } else c.bk
  st := { c.st with x := { c.st.x with live := c.st.x.live.set k false, back := if bk = true then c.st.x.back.set k true else c.st.x.back } } }
def RetSettle (G : Nat → Nat) (i : Nat) (c : ChM) (k : Nat) (b : Bool) (w : World) (e : Ending) (w' : World) : Prop := e = .returned (settleCh c k b).val ∧ ChR G i w' (settleCh c k b) ∧ Keeps (Mt G i) w w'
theorem Rw.at_ {G : Nat → Nat} {r : Nat} {w : World} {e : TypeId} {sz n c : Nat} {A : Option Addr} {xs : List Value} (h : Rw G r w e sz (.slice A n c) n xs) (hn : 0 < n) :
  ∃ g, A = some ⟨g, 0, none⟩ ∧ g < w.heap.size ∧ G g = r := by
 obtain ⟨_, h1, h2⟩ := owns_cells h.1
 cases A with
 | none => have := (h1 rfl).1; omega
 | some a =>
  obtain ⟨g, rfl, hg, _⟩ := h2 a rfl; exact ⟨g, rfl, hg, h.2 g rfl⟩
theorem l13Settle_no (G : Nat → Nat) (i : Nat) (c : ChM) (k : Nat) (w : World) (h : ChR G i w c) (hk : k < c.st.x.sent.length) (hl : c.st.x.live.length = c.st.x.sent.length) (hb : c.st.x.back.length = c.st.x.sent.length) (h8 : c.st.x.sent.length ≤ 8)
  (hq : okB c.bk.b = true) (q2 : kindB (c.st.x.sent.getD k pk0).k = true) (q3 : userB (c.st.x.sent.getD k pk0).f = true) (hs0 : 0 ≤ (c.st.x.sent.getD k pk0).m) (hs1 : (c.st.x.sent.getD k pk0).m ≤ 1000) :
  Calls Tryd.prog 109 #[c.val, .int .i64 ((k : Int) + 1), .bool false] w (RetSettle G i c k false w) := by
 obtain ⟨id, ⟨⟨own, notes, lk⟩, a1, a2, e1, e2⟩, ⟨⟨way, ver, want, sent, live, back, got⟩, A1, A2, A3, A4, c1, c2, c3, c4⟩, past, pA, pc, knows, kA, kc⟩ := c; dsimp only at *; obtain ⟨hB, ⟨hS1, hS2, hS3, hS4⟩, hP, hI, hN⟩ := h; dsimp only at hS1 hS2 hS3 hS4 hP hN; obtain ⟨gs, rfl, ls, rs⟩ := hS1.at_ (by omega); obtain ⟨gl, rfl, ll, rl'⟩ := hS2.at_ (by omega); obtain ⟨gb, rfl, lb, rb⟩ := hS3.at_ (by omega); obtain ⟨_, _, es, _, s0, s1, s2, s3, s4, s5, s6⟩ := (owns_pks hS1.1).at_ hk
 cases es
 rw [Nat.zero_add] at s0 s1 s2 s3 s4 s5 s6; obtain ⟨_, _, el, _, v0⟩ := (owns_bools hS2.1).at_ (k := k) (by omega)
 cases el
 rw [Nat.zero_add] at v0; have vf := (owns_cells hS2.1).2.2 _ rfl; obtain ⟨_, ev, _, _, vf⟩ := vf
 cases ev
 have vf := vf k; rw [Nat.zero_add] at vf; have HB := hH hB; have HS1 := hH hS1; have HS2 := hH hS2; have HS3 := hH hS3; have HS4 := hH hS4; have HP := hH hP; have HI := hH hI; have HN := hH hN; clear hB hS1 hS2 hS3 hS4 hP hI hN; generalize sent.getD k pk0 = p at *; obtain ⟨ps, pk, pf, pt, pm, pu, pv⟩ := p; dsimp only at *
 have hkl : k < live.length := by omega
 have hkb : k < back.length := by omega
 have HLE := hH hl; have HBE := hH hb; clear hl hb
 have : gl < w.heap.size + 1 := by omega
 have : gl < w.heap.size + 1 + 1 := by omega
 have : gl < w.heap.size + 1 + 1 + 1 := by omega
 have : ¬ w.heap.size = gl := by omega
 have : ¬ gl = w.heap.size := by omega
 have : ¬ w.heap.size + 1 = gl := by omega
 have : ¬ gl = w.heap.size + 1 := by omega
 have : ¬ w.heap.size + 1 + 1 = gl := by omega
 have : ¬ gl = w.heap.size + 1 + 1 := by omega
 have : gb < w.heap.size + 1 := by omega
 have : gb < w.heap.size + 1 + 1 := by omega
 have : gb < w.heap.size + 1 + 1 + 1 := by omega
 have : ¬ w.heap.size = gb := by omega
 have : ¬ gb = w.heap.size := by omega
 have : ¬ w.heap.size + 1 = gb := by omega
 have : ¬ gb = w.heap.size + 1 := by omega
 have : ¬ w.heap.size + 1 + 1 = gb := by omega
 have : ¬ gb = w.heap.size + 1 + 1 := by omega
 unfold ChM.val; dsimp only
 go_enter Tryd.func109, Tryd.ntmps109
 go_wp2; refine bodyPost_ret (v := .agg #[.int .i64 id, .slice a1 own.length e1, .slice a2 notes.length e2, .int .i64 lk, .int .i64 way, .int .i64 ver, .int .i64 want, .slice (some ⟨gs, 0, none⟩) sent.length c1, .slice (some ⟨gl, 0, none⟩) live.length c2, .slice (some ⟨gb, 0, none⟩) back.length c3, .slice A4 got.length c4, .slice pA past.length pc, .slice kA knows.length kc]) (by simp [results, Tryd.results109, go_sem]) rfl ?_; have K1 : Keeps (fun b => G b = rl i 1) w (w.setCell ⟨gl, k, none⟩ (.bool false)) := (Keeps.refl _ w).setCell (p := ⟨gl, k, none⟩) (.inr rl') _; have KA : Keeps noBlk (w.setCell ⟨gl, k, none⟩ (.bool false)) ((((w.setCell ⟨gl, k, none⟩ (.bool false)).alloc (.cells #[.int .i64 id, .slice a1 own.length e1, .slice a2 notes.length e2, .int .i64 lk, .int .i64 way, .int .i64 ver, .int .i64 want, .slice (some ⟨gs, 0, none⟩) sent.length c1, .slice (some ⟨gl, 0, none⟩) live.length c2, .slice (some ⟨gb, 0, none⟩) back.length c3, .slice A4 got.length c4, .slice pA past.length pc, .slice kA knows.length kc] 94)).alloc (.cells #[.int .i64 id, .slice a1 own.length e1, .slice a2 notes.length e2, .int .i64 lk, .int .i64 way, .int .i64 ver, .int .i64 want, .slice (some ⟨gs, 0, none⟩) sent.length c1, .slice (some ⟨gl, 0, none⟩) live.length c2, .slice (some ⟨gb, 0, none⟩) back.length c3, .slice A4 got.length c4, .slice pA past.length pc, .slice kA knows.length kc] 94)).alloc (.cells #[.int .i64 ps, .int .i64 pk, .int .i64 pf, .int .i64 pt, .int .i64 pm, .int .i64 pu, .int .i64 pv] 29)) := (((Keeps.refl _ _).alloc _).alloc _).alloc _; refine ⟨by simp [settleCh, ChM.val], ⟨(HB.out.keeps K1 (fun b j h4 h6 e e' => by rw [e] at e'; unfold rl at e'; omega)).keeps KA (fun _ _ _ _ _ h => h), ⟨(HS1.out.keeps K1 (fun b e e' => by rw [e] at e'; unfold rl at e'; omega)).kept KA, (HS2.out.setB hkl false).kept KA, (HS3.out.keeps K1 (fun b e e' => by rw [e] at e'; unfold rl at e'; omega)).kept KA, (HS4.out.keeps K1 (fun b e e' => by rw [e] at e'; unfold rl at e'; omega)).kept KA⟩, (HP.out.keeps K1 (fun b e e' => by rw [e] at e'; unfold rl at e'; omega)).kept KA, fun s hs => ((HI.out s hs).keeps K1 (fun b j _ e e' => by rw [e] at e'; unfold rl im at e'; omega)).kept KA, (HN.out.keeps K1 (fun b e e' => by rw [e] at e'; unfold rl at e'; omega)).kept KA⟩, ?_⟩
 exact (K1.more fun b _ e => ⟨1, by decide, e⟩).then KA fun _ _ h => h.elim
theorem l13Settle_yes (G : Nat → Nat) (i : Nat) (c : ChM) (k : Nat) (w : World) (h : ChR G i w c) (hk : k < c.st.x.sent.length) (hl : c.st.x.live.length = c.st.x.sent.length) (hb : c.st.x.back.length = c.st.x.sent.length) (h8 : c.st.x.sent.length ≤ 8)
  (hq : okB c.bk.b = true) (q2 : kindB (c.st.x.sent.getD k pk0).k = true) (q3 : userB (c.st.x.sent.getD k pk0).f = true) (hs0 : 0 ≤ (c.st.x.sent.getD k pk0).m) (hs1 : (c.st.x.sent.getD k pk0).m ≤ 1000) :
  Calls Tryd.prog 109 #[c.val, .int .i64 ((k : Int) + 1), .bool true] w (RetCh G i w fun c' => c' = settleCh c k true) := by
 have h := h.ext (G' := up G w.heap.size 0) fun b hb => up_old hb
 have HG := hH (show ∀ b, w.heap.size ≤ b → up G w.heap.size 0 b = 0 from fun b hb => up_new hb); have HG' := hH (show ∀ b, b < w.heap.size → up G w.heap.size 0 b = G b from fun b hb => up_old hb); generalize up G w.heap.size 0 = G0 at h HG HG'; obtain ⟨id, ⟨⟨own, notes, lk⟩, a1, a2, e1, e2⟩, ⟨⟨way, ver, want, sent, live, back, got⟩, A1, A2, A3, A4, c1, c2, c3, c4⟩, past, pA, pc, knows, kA, kc⟩ := c; dsimp only at *; obtain ⟨hB, ⟨hS1, hS2, hS3, hS4⟩, hP, hI, hN⟩ := h; dsimp only at hS1 hS2 hS3 hS4 hP hN; obtain ⟨gs, rfl, ls, rs⟩ := hS1.at_ (by omega); obtain ⟨gl, rfl, ll, rl'⟩ := hS2.at_ (by omega); obtain ⟨gb, rfl, lb, rb⟩ := hS3.at_ (by omega); obtain ⟨_, _, es, _, s0, s1, s2, s3, s4, s5, s6⟩ := (owns_pks hS1.1).at_ hk
 cases es
 rw [Nat.zero_add] at s0 s1 s2 s3 s4 s5 s6; obtain ⟨_, _, el, _, v0⟩ := (owns_bools hS2.1).at_ (k := k) (by omega)
 cases el
 rw [Nat.zero_add] at v0; have vf := (owns_cells hS2.1).2.2 _ rfl; obtain ⟨_, ev, _, _, vf⟩ := vf
 cases ev
 have vf := vf k; rw [Nat.zero_add] at vf; have HB := hH hB; have HS1 := hH hS1; have HS2 := hH hS2; have HS3 := hH hS3; have HS4 := hH hS4; have HP := hH hP; have HI := hH hI; have HN := hH hN; clear hB hS1 hS2 hS3 hS4 hP hI hN; obtain ⟨_, _, el, _, t0⟩ := (owns_bools HS3.out.1).at_ (k := k) (by omega)
 cases el
 rw [Nat.zero_add] at t0; have tf := (owns_cells HS3.out.1).2.2 _ rfl; obtain ⟨_, ev, _, _, tf⟩ := tf
 cases ev
 have tf := tf k; rw [Nat.zero_add] at tf; have HP9 := hH (show settleCh ⟨id, ⟨⟨own, notes, lk⟩, a1, a2, e1, e2⟩, ⟨⟨way, ver, want, sent, live, back, got⟩, some ⟨gs, 0, none⟩, some ⟨gl, 0, none⟩, some ⟨gb, 0, none⟩, A4, c1, c2, c3, c4⟩, past, pA, pc, knows, kA, kc⟩ k true = ⟨id, ⟨turnB ⟨own, notes, lk⟩ (sent.getD k pk0).k (sent.getD k pk0).f (sent.getD k pk0).m, a1, a2, e1, e2⟩, ⟨⟨way, ver, want, sent, live.set k false, back.set k true, got⟩, some ⟨gs, 0, none⟩, some ⟨gl, 0, none⟩, some ⟨gb, 0, none⟩, A4, c1, c2, c3, c4⟩, past, pA, pc, knows, kA, kc⟩ from rfl); generalize hSC : settleCh _ k true = R at HP9 ⊢; clear hSC; generalize sent.getD k pk0 = p at *; obtain ⟨ps, pk, pf, pt, pm, pu, pv⟩ := p; dsimp only at *
 have hkl : k < live.length := by omega
 have hkb : k < back.length := by omega
 have HLE := hH hl; have HBE := hH hb; clear hl hb
 have : gl < w.heap.size + 1 := by omega
 have : gl < w.heap.size + 1 + 1 := by omega
 have : gl < w.heap.size + 1 + 1 + 1 := by omega
 have : ¬ w.heap.size = gl := by omega
 have : ¬ gl = w.heap.size := by omega
 have : ¬ w.heap.size + 1 = gl := by omega
 have : ¬ gl = w.heap.size + 1 := by omega
 have : ¬ w.heap.size + 1 + 1 = gl := by omega
 have : ¬ gl = w.heap.size + 1 + 1 := by omega
 have : gb < w.heap.size + 1 := by omega
 have : gb < w.heap.size + 1 + 1 := by omega
 have : gb < w.heap.size + 1 + 1 + 1 := by omega
 have : ¬ w.heap.size = gb := by omega
 have : ¬ gb = w.heap.size := by omega
 have : ¬ w.heap.size + 1 = gb := by omega
 have : ¬ gb = w.heap.size + 1 := by omega
 have : ¬ w.heap.size + 1 + 1 = gb := by omega
 have : ¬ gb = w.heap.size + 1 + 1 := by omega
 have hgg : ¬ gl = gb := fun e => by rw [e] at rl'; rw [rl'] at rb; unfold rl at rb; omega
 have K1 : Keeps (fun b => G0 b = rl i 1) w (w.setCell ⟨gl, k, none⟩ (.bool false)) := (Keeps.refl _ w).setCell (p := ⟨gl, k, none⟩) (.inr rl') _; have KA : Keeps noBlk (w.setCell ⟨gl, k, none⟩ (.bool false)) ((((w.setCell ⟨gl, k, none⟩ (.bool false)).alloc (.cells #[.int .i64 id, .slice a1 own.length e1, .slice a2 notes.length e2, .int .i64 lk, .int .i64 way, .int .i64 ver, .int .i64 want, .slice (some ⟨gs, 0, none⟩) sent.length c1, .slice (some ⟨gl, 0, none⟩) live.length c2, .slice (some ⟨gb, 0, none⟩) back.length c3, .slice A4 got.length c4, .slice pA past.length pc, .slice kA knows.length kc] 94)).alloc (.cells zC13 94)).alloc (.cells #[.int .i64 ps, .int .i64 pk, .int .i64 pf, .int .i64 pt, .int .i64 pm, .int .i64 pu, .int .i64 pv] 29)) := (((Keeps.refl _ _).alloc _).alloc _).alloc _; have HS1' := hH ((HS1.out.keeps K1 (fun b e e' => by rw [e] at e'; unfold rl at e'; omega)).kept KA); have HS2' := hH ((HS2.out.setB hkl false).kept KA); have HS3' := hH ((HS3.out.keeps K1 (fun b e e' => by rw [e] at e'; unfold rl at e'; omega)).kept KA); have HS4' := hH ((HS4.out.keeps K1 (fun b e e' => by rw [e] at e'; unfold rl at e'; omega)).kept KA); have HP' := hH ((HP.out.keeps K1 (fun b e e' => by rw [e] at e'; unfold rl at e'; omega)).kept KA); have HI' := hH (fun s hs => ((HI.out s hs).keeps K1 (fun b j _ e e' => by rw [e] at e'; unfold rl im at e'; omega)).kept KA); have HN' := hH ((HN.out.keeps K1 (fun b e e' => by rw [e] at e'; unfold rl at e'; omega)).kept KA); have HB' := hH ((HB.out.keeps K1 (fun b j h4 h6 e e' => by rw [e] at e'; unfold rl at e'; omega)).keeps KA (fun _ _ _ _ _ h => h)); have HK1 := hH (K1.then KA fun _ _ h => h.elim); have HBC := hH (((Box.new (w.setCell ⟨gl, k, none⟩ (.bool false)) w.heap.size (by simp [World.setCell]) 94 #[.int .i64 id, .slice a1 own.length e1, .slice a2 notes.length e2, .int .i64 lk, .int .i64 way, .int .i64 ver, .int .i64 want, .slice (some ⟨gs, 0, none⟩) sent.length c1, .slice (some ⟨gl, 0, none⟩) live.length c2, .slice (some ⟨gb, 0, none⟩) back.length c3, .slice A4 got.length c4, .slice pA past.length pc, .slice kA knows.length kc]).alloc (.cells zC13 94)).alloc (.cells #[.int .i64 ps, .int .i64 pk, .int .i64 pf, .int .i64 pt, .int .i64 pm, .int .i64 pu, .int .i64 pv] 29)); have HBZ := hH ((Box.new ((w.setCell ⟨gl, k, none⟩ (.bool false)).alloc (.cells #[.int .i64 id, .slice a1 own.length e1, .slice a2 notes.length e2, .int .i64 lk, .int .i64 way, .int .i64 ver, .int .i64 want, .slice (some ⟨gs, 0, none⟩) sent.length c1, .slice (some ⟨gl, 0, none⟩) live.length c2, .slice (some ⟨gb, 0, none⟩) back.length c3, .slice A4 got.length c4, .slice pA past.length pc, .slice kA knows.length kc] 94)) (w.heap.size + 1) (by simp [World.setCell]) 94 zC13).alloc (.cells #[.int .i64 ps, .int .i64 pk, .int .i64 pf, .int .i64 pt, .int .i64 pm, .int .i64 pu, .int .i64 pv] 29)); have HTB := hH (l1Back_g G0 i ⟨⟨own, notes, lk⟩, a1, a2, e1, e2⟩ pk pf pm _ HB'.out hq q2 q3 hs0 hs1); clear K1 KA HS1 HS2 HS3 HS4 HP HI HN HB; generalize turnB ⟨own, notes, lk⟩ pk pf pm = b' at HTB HP9; obtain ⟨own', notes', lk'⟩ := b'; unfold ChM.val; unfold RetBk BkM.val at HTB; dsimp only at HTB ⊢
 go_enter Tryd.func109, Tryd.ntmps109
 go_wp2_with fail; refine HTB.out.mono ?_; rintro e w2 ⟨rfl, hb2, hk2⟩; have hbc := HBC.out.keeps hk2 (fun e' => by rcases e' with e' | e' <;> (rw [HG.out _ (by omega)] at e'; unfold rl at e'; omega)); have hbz := HBZ.out.keeps hk2 (fun e' => by rcases e' with e' | e' <;> (rw [HG.out _ (by omega)] at e'; unfold rl at e'; omega)); have HS1t := hH (HS1'.out.keeps hk2 (fun b e e' => by rcases e' with e' | e' <;> (rw [e] at e'; unfold rl at e'; omega))); have HS2t := hH (HS2'.out.keeps hk2 (fun b e e' => by rcases e' with e' | e' <;> (rw [e] at e'; unfold rl at e'; omega))); have HS3t := hH (HS3'.out.keeps hk2 (fun b e e' => by rcases e' with e' | e' <;> (rw [e] at e'; unfold rl at e'; omega))); have HS4t := hH (HS4'.out.keeps hk2 (fun b e e' => by rcases e' with e' | e' <;> (rw [e] at e'; unfold rl at e'; omega))); have HPt := hH (HP'.out.keeps hk2 (fun b e e' => by rcases e' with e' | e' <;> (rw [e] at e'; unfold rl at e'; omega))); have HNt := hH (HN'.out.keeps hk2 (fun b e e' => by rcases e' with e' | e' <;> (rw [e] at e'; unfold rl at e'; omega))); have HIt := hH (fun s hs => (HI'.out s hs).keeps hk2 (fun b j _ e e' => by rcases e' with e' | e' <;> (rw [e] at e'; unfold rl im at e'; omega))); have HBt := hH hb2; have HK2 := hH ((HK1.out.more (T := Mt G0 i) fun b _ e => ⟨1, by decide, e⟩).then hk2 fun b _ e => e.mt); have hz2 := hbz.lt; have x0 := hbc.cell 0; have z0 := hbz.cell 0; have y0 := hbz.frozen 0; have x1 := hbc.cell 1; have z1 := hbz.cell 1; have y1 := hbz.frozen 1; have x2 := hbc.cell 2; have z2 := hbz.cell 2; have y2 := hbz.frozen 2; have x3 := hbc.cell 3; have z3 := hbz.cell 3; have y3 := hbz.frozen 3; have x4 := hbc.cell 4; have z4 := hbz.cell 4; have y4 := hbz.frozen 4; have x5 := hbc.cell 5; have z5 := hbz.cell 5; have y5 := hbz.frozen 5; have x6 := hbc.cell 6; have z6 := hbz.cell 6; have y6 := hbz.frozen 6; have x7 := hbc.cell 7; have z7 := hbz.cell 7; have y7 := hbz.frozen 7; have x8 := hbc.cell 8; have z8 := hbz.cell 8; have y8 := hbz.frozen 8; have x9 := hbc.cell 9; have z9 := hbz.cell 9; have y9 := hbz.frozen 9; have x10 := hbc.cell 10; have z10 := hbz.cell 10; have y10 := hbz.frozen 10; have x11 := hbc.cell 11; have z11 := hbz.cell 11; have y11 := hbz.frozen 11; have x12 := hbc.cell 12; have z12 := hbz.cell 12; have y12 := hbz.frozen 12; simp at x0 z0 x1 z1 x2 z2 x3 z3 x4 z4 x5 z5 x6 z6 x7 z7 x8 z8 x9 z9 x10 z10 x11 z11 x12 z12; have f1 := hbc.frozen 1; have f2 := hbc.frozen 2; have f3 := hbc.frozen 3; clear t0 tf v0 vf; obtain ⟨_, _, el, _, t0⟩ := (owns_bools HS3t.out.1).at_ (k := k) hkb
 cases el
 rw [Nat.zero_add] at t0; have tf := (owns_cells HS3t.out.1).2.2 _ rfl; obtain ⟨_, ev, _, _, tf⟩ := tf
 cases ev
 have tf := tf k; rw [Nat.zero_add] at tf
 have : gl < w2.heap.size := by omega
 have : gl < w2.heap.size + 1 := by omega
 have : ¬ gl = w2.heap.size := by omega
 have : ¬ w2.heap.size = gl := by omega
 have : gb < w2.heap.size := by omega
 have : gb < w2.heap.size + 1 := by omega
 have : ¬ gb = w2.heap.size := by omega
 have : ¬ w2.heap.size = gb := by omega
 have : w.heap.size < w2.heap.size := by omega
 have : w.heap.size < w2.heap.size + 1 := by omega
 have : ¬ w.heap.size = w2.heap.size := by omega
 have : ¬ w2.heap.size = w.heap.size := by omega
 have : w.heap.size + 1 < w2.heap.size := by omega
 have : w.heap.size + 1 < w2.heap.size + 1 := by omega
 have : ¬ w.heap.size + 1 = w2.heap.size := by omega
 have : ¬ w2.heap.size = w.heap.size + 1 := by omega
 clear hbc hbz hk2 hb2 HBC HBZ HTB HK1 HB' HS1' HS2' HS3' HS4' HP' HI' HN' s0 s1 s2 s3 s4 s5 s6; go_wp2; refine bodyPost_ret (v := .agg #[.int .i64 id, .slice a1 own'.length e1, .slice a2 notes'.length e2, .int .i64 lk', .int .i64 way, .int .i64 ver, .int .i64 want, .slice (some ⟨gs, 0, none⟩) sent.length c1, .slice (some ⟨gl, 0, none⟩) live.length c2, .slice (some ⟨gb, 0, none⟩) back.length c3, .slice A4 got.length c4, .slice pA past.length pc, .slice kA knows.length kc]) (by simp [results, Tryd.results109, go_sem, *]) rfl ?_; have kC : Keeps (fun b => w.heap.size ≤ b) w2 (((w2.setCell ⟨w.heap.size, 1, none⟩ (.slice a1 own'.length e1)).setCell ⟨w.heap.size, 2, none⟩ (.slice a2 notes'.length e2)).setCell ⟨w.heap.size, 3, none⟩ (.int .i64 lk')) := ((((Keeps.refl (fun b => w.heap.size ≤ b) w2).setCell (p := ⟨w.heap.size, 1, none⟩) (.inr (Nat.le_refl _)) _).setCell (p := ⟨w.heap.size, 2, none⟩) (.inr (Nat.le_refl _)) _).setCell (p := ⟨w.heap.size, 3, none⟩) (.inr (Nat.le_refl _)) _); have kB : Keeps (fun b => G0 b = rl i 2) (((w2.setCell ⟨w.heap.size, 1, none⟩ (.slice a1 own'.length e1)).setCell ⟨w.heap.size, 2, none⟩ (.slice a2 notes'.length e2)).setCell ⟨w.heap.size, 3, none⟩ (.int .i64 lk')) ((((w2.setCell ⟨w.heap.size, 1, none⟩ (.slice a1 own'.length e1)).setCell ⟨w.heap.size, 2, none⟩ (.slice a2 notes'.length e2)).setCell ⟨w.heap.size, 3, none⟩ (.int .i64 lk')).setCell ⟨gb, k, none⟩ (.bool true)) := (Keeps.refl _ _).setCell (p := ⟨gb, k, none⟩) (.inr rb) _
 have kZ : Keeps (fun b => w.heap.size ≤ b) ((((w2.setCell ⟨w.heap.size, 1, none⟩ (.slice a1 own'.length e1)).setCell ⟨w.heap.size, 2, none⟩ (.slice a2 notes'.length e2)).setCell ⟨w.heap.size, 3, none⟩ (.int .i64 lk')).setCell ⟨gb, k, none⟩ (.bool true)) ((((((((((((((((((w2.setCell ⟨w.heap.size, 1, none⟩ (.slice a1 own'.length e1)).setCell ⟨w.heap.size, 2, none⟩ (.slice a2 notes'.length e2)).setCell ⟨w.heap.size, 3, none⟩ (.int .i64 lk')).setCell ⟨gb, k, none⟩ (.bool true)).setCell ⟨w.heap.size + 1, 0, none⟩ (.int .i64 id)).setCell ⟨w.heap.size + 1, 1, none⟩ (.slice a1 own'.length e1)).setCell ⟨w.heap.size + 1, 2, none⟩ (.slice a2 notes'.length e2)).setCell ⟨w.heap.size + 1, 3, none⟩ (.int .i64 lk')).setCell ⟨w.heap.size + 1, 4, none⟩ (.int .i64 way)).setCell ⟨w.heap.size + 1, 5, none⟩ (.int .i64 ver)).setCell ⟨w.heap.size + 1, 6, none⟩ (.int .i64 want)).setCell ⟨w.heap.size + 1, 7, none⟩ (.slice (some ⟨gs, 0, none⟩) sent.length c1)).setCell ⟨w.heap.size + 1, 8, none⟩ (.slice (some ⟨gl, 0, none⟩) live.length c2)).setCell ⟨w.heap.size + 1, 9, none⟩ (.slice (some ⟨gb, 0, none⟩) back.length c3)).setCell ⟨w.heap.size + 1, 10, none⟩ (.slice A4 got.length c4)).setCell ⟨w.heap.size + 1, 11, none⟩ (.slice pA past.length pc)).setCell ⟨w.heap.size + 1, 12, none⟩ (.slice kA knows.length kc)).alloc (.cells #[.slice a1 own'.length e1, .slice a2 notes'.length e2, .int .i64 lk'] 91)) := (((((((((((((((Keeps.refl (fun b => w.heap.size ≤ b) ((((w2.setCell ⟨w.heap.size, 1, none⟩ (.slice a1 own'.length e1)).setCell ⟨w.heap.size, 2, none⟩ (.slice a2 notes'.length e2)).setCell ⟨w.heap.size, 3, none⟩ (.int .i64 lk')).setCell ⟨gb, k, none⟩ (.bool true))).setCell (p := ⟨w.heap.size + 1, 0, none⟩) (.inr (Nat.le_succ _)) _).setCell (p := ⟨w.heap.size + 1, 1, none⟩) (.inr (Nat.le_succ _)) _).setCell (p := ⟨w.heap.size + 1, 2, none⟩) (.inr (Nat.le_succ _)) _).setCell (p := ⟨w.heap.size + 1, 3, none⟩) (.inr (Nat.le_succ _)) _).setCell (p := ⟨w.heap.size + 1, 4, none⟩) (.inr (Nat.le_succ _)) _).setCell (p := ⟨w.heap.size + 1, 5, none⟩) (.inr (Nat.le_succ _)) _).setCell (p := ⟨w.heap.size + 1, 6, none⟩) (.inr (Nat.le_succ _)) _).setCell (p := ⟨w.heap.size + 1, 7, none⟩) (.inr (Nat.le_succ _)) _).setCell (p := ⟨w.heap.size + 1, 8, none⟩) (.inr (Nat.le_succ _)) _).setCell (p := ⟨w.heap.size + 1, 9, none⟩) (.inr (Nat.le_succ _)) _).setCell (p := ⟨w.heap.size + 1, 10, none⟩) (.inr (Nat.le_succ _)) _).setCell (p := ⟨w.heap.size + 1, 11, none⟩) (.inr (Nat.le_succ _)) _).setCell (p := ⟨w.heap.size + 1, 12, none⟩) (.inr (Nat.le_succ _)) _)).alloc _; generalize ((((((((((((((((((w2.setCell ⟨w.heap.size, 1, none⟩ (.slice a1 own'.length e1)).setCell ⟨w.heap.size, 2, none⟩ (.slice a2 notes'.length e2)).setCell ⟨w.heap.size, 3, none⟩ (.int .i64 lk')).setCell ⟨gb, k, none⟩ (.bool true)).setCell ⟨w.heap.size + 1, 0, none⟩ (.int .i64 id)).setCell ⟨w.heap.size + 1, 1, none⟩ (.slice a1 own'.length e1)).setCell ⟨w.heap.size + 1, 2, none⟩ (.slice a2 notes'.length e2)).setCell ⟨w.heap.size + 1, 3, none⟩ (.int .i64 lk')).setCell ⟨w.heap.size + 1, 4, none⟩ (.int .i64 way)).setCell ⟨w.heap.size + 1, 5, none⟩ (.int .i64 ver)).setCell ⟨w.heap.size + 1, 6, none⟩ (.int .i64 want)).setCell ⟨w.heap.size + 1, 7, none⟩ (.slice (some ⟨gs, 0, none⟩) sent.length c1)).setCell ⟨w.heap.size + 1, 8, none⟩ (.slice (some ⟨gl, 0, none⟩) live.length c2)).setCell ⟨w.heap.size + 1, 9, none⟩ (.slice (some ⟨gb, 0, none⟩) back.length c3)).setCell ⟨w.heap.size + 1, 10, none⟩ (.slice A4 got.length c4)).setCell ⟨w.heap.size + 1, 11, none⟩ (.slice pA past.length pc)).setCell ⟨w.heap.size + 1, 12, none⟩ (.slice kA knows.length kc)).alloc (.cells #[.slice a1 own'.length e1, .slice a2 notes'.length e2, .int .i64 lk'] 91)) = WF at kZ ⊢; skip
 refine ⟨G0, _, by rw [HP9.out]; simp [ChM.val], rfl, HG'.out, ?_, ?_⟩
 ·rw [HP9.out]
  refine ⟨((HBt.out.keeps kC (fun b j h4 h6 e e' => by rw [HG.out b e'] at e; unfold rl at e; omega)).keeps kB (fun b j h4 h6 e e' => by rw [e] at e'; unfold rl at e'; omega)).keeps kZ (fun b j h4 h6 e e' => by rw [HG.out b e'] at e; unfold rl at e; omega),
   ⟨(((HS1t.out.keeps kC (fun b e e' => by rw [HG.out b e'] at e; unfold rl at e; omega)).keeps kB (fun b e e' => by rw [e] at e'; unfold rl at e'; omega)).keeps kZ (fun b e e' => by rw [HG.out b e'] at e; unfold rl at e; omega)), (((HS2t.out.keeps kC (fun b e e' => by rw [HG.out b e'] at e; unfold rl at e; omega)).keeps kB (fun b e e' => by rw [e] at e'; unfold rl at e'; omega)).keeps kZ (fun b e e' => by rw [HG.out b e'] at e; unfold rl at e; omega)), ((HS3t.out.keeps kC (fun b e e' => by rw [HG.out b e'] at e; unfold rl at e; omega)).setB hkb true).keeps kZ (fun b e e' => by rw [HG.out b e'] at e; unfold rl at e; omega), (((HS4t.out.keeps kC (fun b e e' => by rw [HG.out b e'] at e; unfold rl at e; omega)).keeps kB (fun b e e' => by rw [e] at e'; unfold rl at e'; omega)).keeps kZ (fun b e e' => by rw [HG.out b e'] at e; unfold rl at e; omega))⟩, (((HPt.out.keeps kC (fun b e e' => by rw [HG.out b e'] at e; unfold rl at e; omega)).keeps kB (fun b e e' => by rw [e] at e'; unfold rl at e'; omega)).keeps kZ (fun b e e' => by rw [HG.out b e'] at e; unfold rl at e; omega)),
   fun s hs => (((HIt.out s hs).keeps kC (fun b j _ e e' => by rw [HG.out b e'] at e; unfold im at e; omega)).keeps kB (fun b j _ e e' => by rw [e] at e'; unfold rl im at e'; omega)).keeps kZ (fun b j _ e e' => by rw [HG.out b e'] at e; unfold im at e; omega),
   (((HNt.out.keeps kC (fun b e e' => by rw [HG.out b e'] at e; omega)).keeps kB (fun b e e' => by rw [e] at e'; unfold rl at e'; omega)).keeps kZ (fun b e e' => by rw [HG.out b e'] at e; omega))⟩
 ·refine ((((HK2.out.then kC fun b hb e => by omega).then kB fun b _ e => ⟨2, by decide, e⟩).then kZ fun b hb e => by omega)).more fun b hb e => ?_
  obtain ⟨j, hj, e⟩ := e; exact ⟨j, hj, by rw [← HG'.out b hb]; exact e⟩

theorem l13Settle_any (G : Nat → Nat) (i : Nat) (c : ChM) (k : Nat) (b : Bool) (w : World) (h : ChR G i w c) (hk : k < c.st.x.sent.length) (hl : c.st.x.live.length = c.st.x.sent.length) (hb : c.st.x.back.length = c.st.x.sent.length) (h8 : c.st.x.sent.length ≤ 8)
  (hq : okB c.bk.b = true) (q2 : kindB (c.st.x.sent.getD k pk0).k = true) (q3 : userB (c.st.x.sent.getD k pk0).f = true) (hs0 : 0 ≤ (c.st.x.sent.getD k pk0).m) (hs1 : (c.st.x.sent.getD k pk0).m ≤ 1000) :
  Calls Tryd.prog 109 #[c.val, .int .i64 ((k : Int) + 1), .bool b] w (RetCh G i w fun c' => c' = settleCh c k b) := by
 cases b with
 | true => exact l13Settle_yes G i c k w h hk hl hb h8 hq q2 q3 hs0 hs1
 | false => exact (l13Settle_no G i c k w h hk hl hb h8 hq q2 q3 hs0 hs1).mono fun e w' ⟨he, hc, hk⟩ => ⟨G, _, he, rfl, fun _ _ => rfl, hc, hk⟩
structure StFit (x : StL) : Prop where
 n8 : x.sent.length ≤ 8
 live : x.live.length = x.sent.length
 back : x.back.length = x.sent.length
 got : x.got.length = 8
 pk : ∀ k, k < x.sent.length → kindB (x.sent.getD k pk0).k = true ∧ userB (x.sent.getD k pk0).f = true ∧ 0 ≤ (x.sent.getD k pk0).m ∧ (x.sent.getD k pk0).m ≤ 1000
def lateB (x y : StL) (h q : Int) : Bool := mineB x q && decide ((x.sent.getD (q - 1).toNat pk0).u ≤ h) && decide (y.got.getD (q - 1).toNat 0 = 0)
def lateCh (c : ChM) (y : StL) (h q : Int) : ChM := if lateB c.st.x y h q = true then settleCh c (q - 1).toNat true else c
def RetLate (G : Nat → Nat) (i : Nat) (w : World) (c : ChM) (o : Bool) (e : Ending) (w' : World) : Prop :=
 ∃ G' : Nat → Nat, e = .returned (.tuple #[c.val, .bool o]) ∧ (∀ b, b < w.heap.size → G' b = G b) ∧ ChR G' i w' c ∧ Keeps (Mt G i) w w'
theorem late_end {G G0 : Nat → Nat} {i : Nat} {w W : World} {c : ChM} {o : Bool} (hG : ∀ b, b < w.heap.size → G0 b = G b) (hC : ChR G0 i w c) (hk : Keeps noBlk w W) : RetLate G i w c o (.returned (.tuple #[c.val, .bool o])) W :=
 ⟨G0, rfl, hG, hC.kept hk, hk.more fun _ _ h => h.elim⟩
theorem late_turn {G G0 G1 : Nat → Nat} {i : Nat} {w W1 w2 W : World} {c : ChM} {o : Bool} (hG : ∀ b, b < w.heap.size → G0 b = G b) (hk1 : Keeps noBlk w W1) (hG1 : ∀ b, b < W1.heap.size → G1 b = G0 b) (hC : ChR G1 i w2 c) (hk2 : Keeps (Mt G0 i) W1 w2)
  (hN : ∀ b, w.heap.size ≤ b → b < W1.heap.size → G1 b = 0) (hk3 : Keeps (fun b => w.heap.size ≤ b ∧ b < W1.heap.size) w2 W) : RetLate G i w c o (.returned (.tuple #[c.val, .bool o])) W := by
 have hs := hk1.size; refine ⟨G1, rfl, fun b hb => (hG1 b (by omega)).trans (hG b hb), hC.keeps hk3 fun b hb h => ?_, ?_⟩
 ·have e := hN b h.1 h.2
  rcases hb with ⟨j, _, hb⟩ | hb
  ·rw [e] at hb; unfold rl at hb; omega
  ·rw [e] at hb; omega
 ·refine ((hk1.more (T := Mt G0 i) fun _ _ h => h.elim).then hk2 fun b _ h => h).then hk3 (fun b hb h => by omega) |>.more fun b hb h => ?_
  obtain ⟨j, hj, e⟩ := h; exact ⟨j, hj, by rw [← hG b hb]; exact e⟩
theorem l13Late_no (G : Nat → Nat) (i : Nat) (c : ChM) (y : StM) (h : Int) (q : Int) (w : World) (hc : ChR G i w c) (hy : StI G w y) (hx : StFit c.st.x) (hyf : y.x.got.length = 8) (hq : okB c.bk.b = true) (hm : mineB c.st.x q = false) :
  Calls Tryd.prog 98 #[c.val, y.val, .int .i64 h, .int .i64 q] w (RetLate G i w c false) := by
 have hc := hc.ext (G' := up G w.heap.size 0) fun b hb => up_old hb
 have hy := hy.ext (G' := up G w.heap.size 0) fun b hb => up_old hb
 have HG := hH (show ∀ b, w.heap.size ≤ b → up G w.heap.size 0 b = 0 from fun b hb => up_new hb); have HG' := hH (show ∀ b, b < w.heap.size → up G w.heap.size 0 b = G b from fun b hb => up_old hb); generalize up G w.heap.size 0 = G0 at hc hy HG HG'; have HC := hH hc; have HYR := hH hy; clear hc hy; have HX := hH hx; have HQ := hH hq; have HYF := hH hyf; clear hx hq hyf; have HBC := hH (((Box.new w (w.heap.size) (by simp) 94 (chC c)).alloc (.cells (smC y) 27)).alloc (.cells zC13 94)); have HBY := hH ((Box.new (w.alloc (.cells (chC c) 94)) (w.heap.size + 1) (by simp) 27 (smC y)).alloc (.cells zC13 94)); have HBZ := hH (Box.new ((w.alloc (.cells (chC c) 94)).alloc (.cells (smC y) 27)) (w.heap.size + 1 + 1) (by simp) 94 zC13); have HK := hH ((((Keeps.refl (noBlk) w).alloc (.cells (chC c) 94)).alloc (.cells (smC y) 27)).alloc (.cells zC13 94))
 have hsz : w.heap.size + 3 ≤ (((w.alloc (.cells (chC c) 94)).alloc (.cells (smC y) 27)).alloc (.cells zC13 94)).heap.size := by simp
 have HMI := hH (fun W (hh : Keeps noBlk w W) => (show Calls Tryd.prog 108 #[c.val, .int .i64 q] W (fun e w' => e = .returned (.bool false) ∧ Keeps noBlk W w') from by rw [← hm]; exact l13Mine_any c q W (HC.out.kept hh).2.1.at_ HX.out.live)); clear hm; unfold ChM.val at HMI ⊢; unfold StM.val
 go_enter Tryd.func98, Tryd.ntmps98
 go_wp2_with fail; refine (HMI.out _ HK.out).mono ?_; rintro e w1 ⟨rfl, hk1⟩; replace HBC := hH (HBC.out.keeps hk1 (fun h => h)); replace HBY := hH (HBY.out.keeps hk1 (fun h => h)); replace HBZ := hH (HBZ.out.keeps hk1 (fun h => h)); replace HK := hH (HK.out.trans hk1); have hb := HBC.out; obtain ⟨C0, C1, C2, C3, C4, C5, C6, C7, C8, C9, C10, C11, C12⟩ := hb.cells13; have Cz := hb.lt; clear hb; have hb := HBZ.out; obtain ⟨Z0, Z1, Z2, Z3, Z4, Z5, Z6, Z7, Z8, Z9, Z10, Z11, Z12⟩ := hb.cells13; obtain ⟨Zf0, Zf1, Zf2, Zf3, Zf4, Zf5, Zf6, Zf7, Zf8, Zf9, Zf10, Zf11, Zf12⟩ := hb.fz13; have Zz := hb.lt; clear hb
 have hz2 : w.heap.size ≤ w.heap.size + 1 + 1 := by omega
 go_wp2; refine bodyPost_ret (v := .tuple #[.agg (chC c), .bool false]) (by simp [results, Tryd.results98, go_sem, *]) rfl ?_; exact late_end HG'.out HC.out ((HK.out).new13 hz2)
theorem l13Late_early (G : Nat → Nat) (i : Nat) (c : ChM) (y : StM) (h : Int) (k : Nat) (w : World) (hc : ChR G i w c) (hy : StI G w y) (hx : StFit c.st.x) (hyf : y.x.got.length = 8) (hq : okB c.bk.b = true) (hk : k < c.st.x.sent.length) (hm : mineB c.st.x ((k : Int) + 1) = true) (he : h < (c.st.x.sent.getD k pk0).u) :
  Calls Tryd.prog 98 #[c.val, y.val, .int .i64 h, .int .i64 ((k : Int) + 1)] w (RetLate G i w c false) := by
 have hc := hc.ext (G' := up G w.heap.size 0) fun b hb => up_old hb
 have hy := hy.ext (G' := up G w.heap.size 0) fun b hb => up_old hb
 have HG := hH (show ∀ b, w.heap.size ≤ b → up G w.heap.size 0 b = 0 from fun b hb => up_new hb); have HG' := hH (show ∀ b, b < w.heap.size → up G w.heap.size 0 b = G b from fun b hb => up_old hb); generalize up G w.heap.size 0 = G0 at hc hy HG HG'; have HC := hH hc; have HYR := hH hy; clear hc hy; have HX := hH hx; have HQ := hH hq; have HYF := hH hyf; clear hx hq hyf; have HBC := hH (((Box.new w (w.heap.size) (by simp) 94 (chC c)).alloc (.cells (smC y) 27)).alloc (.cells zC13 94)); have HBY := hH ((Box.new (w.alloc (.cells (chC c) 94)) (w.heap.size + 1) (by simp) 27 (smC y)).alloc (.cells zC13 94)); have HBZ := hH (Box.new ((w.alloc (.cells (chC c) 94)).alloc (.cells (smC y) 27)) (w.heap.size + 1 + 1) (by simp) 94 zC13); have HK := hH ((((Keeps.refl (noBlk) w).alloc (.cells (chC c) 94)).alloc (.cells (smC y) 27)).alloc (.cells zC13 94))
 have hsz : w.heap.size + 3 ≤ (((w.alloc (.cells (chC c) 94)).alloc (.cells (smC y) 27)).alloc (.cells zC13 94)).heap.size := by simp
 have HMI := hH (fun W (hh : Keeps noBlk w W) => (show Calls Tryd.prog 108 #[c.val, .int .i64 ((k : Int) + 1)] W (fun e w' => e = .returned (.bool true) ∧ Keeps noBlk W w') from by rw [← hm]; exact l13Mine_any c _ W (HC.out.kept hh).2.1.at_ HX.out.live)); clear hm
 have hk8 : k < 8 := by have := HX.out.n8; omega
 have HST := hH (fun W (hh : Keeps noBlk w W) => l13Settle_any G0 i c k true W (HC.out.kept hh) hk HX.out.live HX.out.back HX.out.n8 HQ.out (HX.out.pk k hk).1 (HX.out.pk k hk).2.1 (HX.out.pk k hk).2.2.1 (HX.out.pk k hk).2.2.2); unfold ChM.val at HMI HST ⊢; unfold StM.val
 go_enter Tryd.func98, Tryd.ntmps98
 go_wp2_with fail; refine (HMI.out _ HK.out).mono ?_; rintro e w1 ⟨rfl, hk1⟩; replace HBC := hH (HBC.out.keeps hk1 (fun h => h)); replace HBY := hH (HBY.out.keeps hk1 (fun h => h)); replace HBZ := hH (HBZ.out.keeps hk1 (fun h => h)); replace HK := hH (HK.out.trans hk1); have hb := HBC.out; obtain ⟨C0, C1, C2, C3, C4, C5, C6, C7, C8, C9, C10, C11, C12⟩ := hb.cells13; have Cz := hb.lt; clear hb; have hb := HBY.out; have Y6 := hb.cell 6; simp at Y6; have Yz := hb.lt; clear hb; have hb := HBZ.out; obtain ⟨Z0, Z1, Z2, Z3, Z4, Z5, Z6, Z7, Z8, Z9, Z10, Z11, Z12⟩ := hb.cells13; obtain ⟨Zf0, Zf1, Zf2, Zf3, Zf4, Zf5, Zf6, Zf7, Zf8, Zf9, Zf10, Zf11, Zf12⟩ := hb.fz13; have Zz := hb.lt; clear hb; obtain ⟨gs, os, es, ls, s0, s1, s2, s3, s4, s5, s6⟩ := (HC.out.kept HK.out).2.1.at_.1.1.at_ hk; obtain ⟨gy, oy, ey, ly, y0⟩ := (HYR.out.kept HK.out).at_.1.2.2.2.at_ (k := k) (by rw [HYF.out]; exact hk8)
 have hyl : k < y.x.got.length := by rw [HYF.out]; exact hk8
 generalize (c.st.x.sent.getD k pk0).u = pu at s5 he; clear s0 s1 s2 s3 s4 s6
 have hd : decide (h < pu) = true := by simpa using he
 have hz2 : w.heap.size ≤ w.heap.size + 1 + 1 := by omega
 have HES := hH es; have HEY := hH ey; go_wp2; refine bodyPost_ret (v := .tuple #[.agg #[.int .i64 c.id, .slice c.bk.A1 c.bk.b.own.length c.bk.c1, .slice c.bk.A2 c.bk.b.notes.length c.bk.c2, .int .i64 c.bk.b.locked, .int .i64 c.st.x.way, .int .i64 c.st.x.ver, .int .i64 c.st.x.want, .slice (some ⟨gs, os, none⟩) c.st.x.sent.length c.st.c1, .slice c.st.A2 c.st.x.live.length c.st.c2, .slice c.st.A3 c.st.x.back.length c.st.c3, .slice c.st.A4 c.st.x.got.length c.st.c4, .slice c.pA c.past.length c.pc, .slice c.kA c.knows.length c.kc], .bool false]) (by simp [results, Tryd.results98, go_sem, *]) rfl ?_; rw [show (Value.agg #[.int .i64 c.id, .slice c.bk.A1 c.bk.b.own.length c.bk.c1, .slice c.bk.A2 c.bk.b.notes.length c.bk.c2, .int .i64 c.bk.b.locked, .int .i64 c.st.x.way, .int .i64 c.st.x.ver, .int .i64 c.st.x.want, .slice (some ⟨gs, os, none⟩) c.st.x.sent.length c.st.c1, .slice c.st.A2 c.st.x.live.length c.st.c2, .slice c.st.A3 c.st.x.back.length c.st.c3, .slice c.st.A4 c.st.x.got.length c.st.c4, .slice c.pA c.past.length c.pc, .slice c.kA c.knows.length c.kc]) = c.val by unfold ChM.val; rw [HES.out]]; exact late_end HG'.out HC.out ((HK.out).new13 hz2)
theorem l13Late_came (G : Nat → Nat) (i : Nat) (c : ChM) (y : StM) (h : Int) (k : Nat) (w : World) (hc : ChR G i w c) (hy : StI G w y) (hx : StFit c.st.x) (hyf : y.x.got.length = 8) (hq : okB c.bk.b = true) (hk : k < c.st.x.sent.length) (hm : mineB c.st.x ((k : Int) + 1) = true) (he : (c.st.x.sent.getD k pk0).u ≤ h) (hg : y.x.got.getD k 0 ≠ 0) :
  Calls Tryd.prog 98 #[c.val, y.val, .int .i64 h, .int .i64 ((k : Int) + 1)] w (RetLate G i w c false) := by
 have hc := hc.ext (G' := up G w.heap.size 0) fun b hb => up_old hb
 have hy := hy.ext (G' := up G w.heap.size 0) fun b hb => up_old hb
 have HG := hH (show ∀ b, w.heap.size ≤ b → up G w.heap.size 0 b = 0 from fun b hb => up_new hb); have HG' := hH (show ∀ b, b < w.heap.size → up G w.heap.size 0 b = G b from fun b hb => up_old hb); generalize up G w.heap.size 0 = G0 at hc hy HG HG'; have HC := hH hc; have HYR := hH hy; clear hc hy; have HX := hH hx; have HQ := hH hq; have HYF := hH hyf; clear hx hq hyf; have HBC := hH (((Box.new w (w.heap.size) (by simp) 94 (chC c)).alloc (.cells (smC y) 27)).alloc (.cells zC13 94)); have HBY := hH ((Box.new (w.alloc (.cells (chC c) 94)) (w.heap.size + 1) (by simp) 27 (smC y)).alloc (.cells zC13 94)); have HBZ := hH (Box.new ((w.alloc (.cells (chC c) 94)).alloc (.cells (smC y) 27)) (w.heap.size + 1 + 1) (by simp) 94 zC13); have HK := hH ((((Keeps.refl (noBlk) w).alloc (.cells (chC c) 94)).alloc (.cells (smC y) 27)).alloc (.cells zC13 94))
 have hsz : w.heap.size + 3 ≤ (((w.alloc (.cells (chC c) 94)).alloc (.cells (smC y) 27)).alloc (.cells zC13 94)).heap.size := by simp
 have HMI := hH (fun W (hh : Keeps noBlk w W) => (show Calls Tryd.prog 108 #[c.val, .int .i64 ((k : Int) + 1)] W (fun e w' => e = .returned (.bool true) ∧ Keeps noBlk W w') from by rw [← hm]; exact l13Mine_any c _ W (HC.out.kept hh).2.1.at_ HX.out.live)); clear hm
 have hk8 : k < 8 := by have := HX.out.n8; omega
 have HST := hH (fun W (hh : Keeps noBlk w W) => l13Settle_any G0 i c k true W (HC.out.kept hh) hk HX.out.live HX.out.back HX.out.n8 HQ.out (HX.out.pk k hk).1 (HX.out.pk k hk).2.1 (HX.out.pk k hk).2.2.1 (HX.out.pk k hk).2.2.2); unfold ChM.val at HMI HST ⊢; unfold StM.val
 go_enter Tryd.func98, Tryd.ntmps98
 go_wp2_with fail; refine (HMI.out _ HK.out).mono ?_; rintro e w1 ⟨rfl, hk1⟩; replace HBC := hH (HBC.out.keeps hk1 (fun h => h)); replace HBY := hH (HBY.out.keeps hk1 (fun h => h)); replace HBZ := hH (HBZ.out.keeps hk1 (fun h => h)); replace HK := hH (HK.out.trans hk1); have hb := HBC.out; obtain ⟨C0, C1, C2, C3, C4, C5, C6, C7, C8, C9, C10, C11, C12⟩ := hb.cells13; have Cz := hb.lt; clear hb; have hb := HBY.out; have Y6 := hb.cell 6; simp at Y6; have Yz := hb.lt; clear hb; have hb := HBZ.out; obtain ⟨Z0, Z1, Z2, Z3, Z4, Z5, Z6, Z7, Z8, Z9, Z10, Z11, Z12⟩ := hb.cells13; obtain ⟨Zf0, Zf1, Zf2, Zf3, Zf4, Zf5, Zf6, Zf7, Zf8, Zf9, Zf10, Zf11, Zf12⟩ := hb.fz13; have Zz := hb.lt; clear hb; obtain ⟨gs, os, es, ls, s0, s1, s2, s3, s4, s5, s6⟩ := (HC.out.kept HK.out).2.1.at_.1.1.at_ hk; obtain ⟨gy, oy, ey, ly, y0⟩ := (HYR.out.kept HK.out).at_.1.2.2.2.at_ (k := k) (by rw [HYF.out]; exact hk8)
 have hyl : k < y.x.got.length := by rw [HYF.out]; exact hk8
 generalize (c.st.x.sent.getD k pk0).u = pu at s5 he; clear s0 s1 s2 s3 s4 s6
 have hd : decide (h < pu) = false := by simp; omega
 generalize y.x.got.getD k 0 = gg at y0 hg
 have hn : (gg != 0) = true := by simpa using hg
 have hz2 : w.heap.size ≤ w.heap.size + 1 + 1 := by omega
 have HES := hH es; have HEY := hH ey; go_wp2; refine bodyPost_ret (v := .tuple #[.agg #[.int .i64 c.id, .slice c.bk.A1 c.bk.b.own.length c.bk.c1, .slice c.bk.A2 c.bk.b.notes.length c.bk.c2, .int .i64 c.bk.b.locked, .int .i64 c.st.x.way, .int .i64 c.st.x.ver, .int .i64 c.st.x.want, .slice (some ⟨gs, os, none⟩) c.st.x.sent.length c.st.c1, .slice c.st.A2 c.st.x.live.length c.st.c2, .slice c.st.A3 c.st.x.back.length c.st.c3, .slice c.st.A4 c.st.x.got.length c.st.c4, .slice c.pA c.past.length c.pc, .slice c.kA c.knows.length c.kc], .bool false]) (by simp [results, Tryd.results98, go_sem, *]) rfl ?_; rw [show (Value.agg #[.int .i64 c.id, .slice c.bk.A1 c.bk.b.own.length c.bk.c1, .slice c.bk.A2 c.bk.b.notes.length c.bk.c2, .int .i64 c.bk.b.locked, .int .i64 c.st.x.way, .int .i64 c.st.x.ver, .int .i64 c.st.x.want, .slice (some ⟨gs, os, none⟩) c.st.x.sent.length c.st.c1, .slice c.st.A2 c.st.x.live.length c.st.c2, .slice c.st.A3 c.st.x.back.length c.st.c3, .slice c.st.A4 c.st.x.got.length c.st.c4, .slice c.pA c.past.length c.pc, .slice c.kA c.knows.length c.kc]) = c.val by unfold ChM.val; rw [HES.out]]; exact late_end HG'.out HC.out ((HK.out).new13 hz2)
theorem l13Late_late (G : Nat → Nat) (i : Nat) (c : ChM) (y : StM) (h : Int) (k : Nat) (w : World) (hc : ChR G i w c) (hy : StI G w y) (hx : StFit c.st.x) (hyf : y.x.got.length = 8) (hq : okB c.bk.b = true) (hk : k < c.st.x.sent.length) (hm : mineB c.st.x ((k : Int) + 1) = true) (he : (c.st.x.sent.getD k pk0).u ≤ h) (hg : y.x.got.getD k 0 = 0) :
  Calls Tryd.prog 98 #[c.val, y.val, .int .i64 h, .int .i64 ((k : Int) + 1)] w (RetLate G i w (settleCh c k true) true) := by
 have hc := hc.ext (G' := up G w.heap.size 0) fun b hb => up_old hb
 have hy := hy.ext (G' := up G w.heap.size 0) fun b hb => up_old hb
 have HG := hH (show ∀ b, w.heap.size ≤ b → up G w.heap.size 0 b = 0 from fun b hb => up_new hb); have HG' := hH (show ∀ b, b < w.heap.size → up G w.heap.size 0 b = G b from fun b hb => up_old hb); generalize up G w.heap.size 0 = G0 at hc hy HG HG'; have HC := hH hc; have HYR := hH hy; clear hc hy; have HX := hH hx; have HQ := hH hq; have HYF := hH hyf; clear hx hq hyf; have HBC := hH (((Box.new w (w.heap.size) (by simp) 94 (chC c)).alloc (.cells (smC y) 27)).alloc (.cells zC13 94)); have HBY := hH ((Box.new (w.alloc (.cells (chC c) 94)) (w.heap.size + 1) (by simp) 27 (smC y)).alloc (.cells zC13 94)); have HBZ := hH (Box.new ((w.alloc (.cells (chC c) 94)).alloc (.cells (smC y) 27)) (w.heap.size + 1 + 1) (by simp) 94 zC13); have HK := hH ((((Keeps.refl (noBlk) w).alloc (.cells (chC c) 94)).alloc (.cells (smC y) 27)).alloc (.cells zC13 94))
 have hsz : w.heap.size + 3 ≤ (((w.alloc (.cells (chC c) 94)).alloc (.cells (smC y) 27)).alloc (.cells zC13 94)).heap.size := by simp
 have HMI := hH (fun W (hh : Keeps noBlk w W) => (show Calls Tryd.prog 108 #[c.val, .int .i64 ((k : Int) + 1)] W (fun e w' => e = .returned (.bool true) ∧ Keeps noBlk W w') from by rw [← hm]; exact l13Mine_any c _ W (HC.out.kept hh).2.1.at_ HX.out.live)); clear hm
 have hk8 : k < 8 := by have := HX.out.n8; omega
 have HST := hH (fun W (hh : Keeps noBlk w W) => l13Settle_any G0 i c k true W (HC.out.kept hh) hk HX.out.live HX.out.back HX.out.n8 HQ.out (HX.out.pk k hk).1 (HX.out.pk k hk).2.1 (HX.out.pk k hk).2.2.1 (HX.out.pk k hk).2.2.2); unfold ChM.val at HMI HST ⊢; unfold StM.val
 go_enter Tryd.func98, Tryd.ntmps98
 go_wp2_with fail; refine (HMI.out _ HK.out).mono ?_; rintro e w1 ⟨rfl, hk1⟩; replace HBC := hH (HBC.out.keeps hk1 (fun h => h)); replace HBY := hH (HBY.out.keeps hk1 (fun h => h)); replace HBZ := hH (HBZ.out.keeps hk1 (fun h => h)); replace HK := hH (HK.out.trans hk1); have hb := HBC.out; obtain ⟨C0, C1, C2, C3, C4, C5, C6, C7, C8, C9, C10, C11, C12⟩ := hb.cells13; have Cz := hb.lt; clear hb; have hb := HBY.out; have Y6 := hb.cell 6; simp at Y6; have Yz := hb.lt; clear hb; have hb := HBZ.out; obtain ⟨Z0, Z1, Z2, Z3, Z4, Z5, Z6, Z7, Z8, Z9, Z10, Z11, Z12⟩ := hb.cells13; obtain ⟨Zf0, Zf1, Zf2, Zf3, Zf4, Zf5, Zf6, Zf7, Zf8, Zf9, Zf10, Zf11, Zf12⟩ := hb.fz13; have Zz := hb.lt; clear hb; obtain ⟨gs, os, es, ls, s0, s1, s2, s3, s4, s5, s6⟩ := (HC.out.kept HK.out).2.1.at_.1.1.at_ hk; obtain ⟨gy, oy, ey, ly, y0⟩ := (HYR.out.kept HK.out).at_.1.2.2.2.at_ (k := k) (by rw [HYF.out]; exact hk8)
 have hyl : k < y.x.got.length := by rw [HYF.out]; exact hk8
 generalize (c.st.x.sent.getD k pk0).u = pu at s5 he; clear s0 s1 s2 s3 s4 s6
 have hd : decide (h < pu) = false := by simp; omega
 generalize y.x.got.getD k 0 = gg at y0 hg
 have hn : (gg != 0) = false := by simpa using hg
 have hz2 : w.heap.size ≤ w.heap.size + 1 + 1 := by omega
 have HES := hH es; have HEY := hH ey; rw [es] at HST; go_wp2_with fail; refine (HST.out _ HK.out).mono ?_; rintro e w2 ⟨G1, R, rfl, hR, hG1, hC2, hk2⟩; have HR := hH hR; clear hR; clear HMI HST s5 y0 es ey; have Zz1 : w.heap.size + 1 + 1 < w1.heap.size := Zz; have hbz := HBZ.out.keeps hk2 (fun e' => by obtain ⟨j, hj, e'⟩ := e'; rw [HG.out _ (by omega)] at e'; unfold rl at e'; omega); have HK1 := hH HK.out; have HG1 := hH hG1; have HC2 := hH hC2; have HK2 := hH hk2; clear C0 C1 C2 C3 C4 C5 C6 C7 C8 C9 C10 C11 C12 Cz Y6 Yz Z0 Z1 Z2 Z3 Z4 Z5 Z6 Z7 Z8 Z9 Z10 Z11 Z12 Zf0 Zf1 Zf2 Zf3 Zf4 Zf5 Zf6 Zf7 Zf8 Zf9 Zf10 Zf11 Zf12 Zz; clear hG1 hC2 hk2 HK; have z0 := hbz.cell 0; have zf0 := hbz.frozen 0; have z1 := hbz.cell 1; have zf1 := hbz.frozen 1; have z2 := hbz.cell 2; have zf2 := hbz.frozen 2; have z3 := hbz.cell 3; have zf3 := hbz.frozen 3; have z4 := hbz.cell 4; have zf4 := hbz.frozen 4; have z5 := hbz.cell 5; have zf5 := hbz.frozen 5; have z6 := hbz.cell 6; have zf6 := hbz.frozen 6; have z7 := hbz.cell 7; have zf7 := hbz.frozen 7; have z8 := hbz.cell 8; have zf8 := hbz.frozen 8; have z9 := hbz.cell 9; have zf9 := hbz.frozen 9; have z10 := hbz.cell 10; have zf10 := hbz.frozen 10; have z11 := hbz.cell 11; have zf11 := hbz.frozen 11; have z12 := hbz.cell 12; have zf12 := hbz.frozen 12; simp at z0 z1 z2 z3 z4 z5 z6 z7 z8 z9 z10 z11 z12; have zz := hbz.lt; clear hbz; unfold ChM.val; go_wp2; refine bodyPost_ret (v := .tuple #[.agg (chC R), .bool true]) (by simp [results, Tryd.results98, go_sem, *]) rfl ?_; rw [← HR.out]; exact late_turn HG'.out HK1.out HG1.out HC2.out HK2.out (fun b h1 h2 => (HG1.out b h2).trans (HG.out b h1)) (((((((((((((((Keeps.refl (fun b => w.heap.size ≤ b ∧ b < w1.heap.size) w2)).setCell (p := ⟨w.heap.size + 1 + 1, 0, none⟩) (.inr ⟨by omega, Zz1⟩) _).setCell (p := ⟨w.heap.size + 1 + 1, 1, none⟩) (.inr ⟨by omega, Zz1⟩) _).setCell (p := ⟨w.heap.size + 1 + 1, 2, none⟩) (.inr ⟨by omega, Zz1⟩) _).setCell (p := ⟨w.heap.size + 1 + 1, 3, none⟩) (.inr ⟨by omega, Zz1⟩) _).setCell (p := ⟨w.heap.size + 1 + 1, 4, none⟩) (.inr ⟨by omega, Zz1⟩) _).setCell (p := ⟨w.heap.size + 1 + 1, 5, none⟩) (.inr ⟨by omega, Zz1⟩) _).setCell (p := ⟨w.heap.size + 1 + 1, 6, none⟩) (.inr ⟨by omega, Zz1⟩) _).setCell (p := ⟨w.heap.size + 1 + 1, 7, none⟩) (.inr ⟨by omega, Zz1⟩) _).setCell (p := ⟨w.heap.size + 1 + 1, 8, none⟩) (.inr ⟨by omega, Zz1⟩) _).setCell (p := ⟨w.heap.size + 1 + 1, 9, none⟩) (.inr ⟨by omega, Zz1⟩) _).setCell (p := ⟨w.heap.size + 1 + 1, 10, none⟩) (.inr ⟨by omega, Zz1⟩) _).setCell (p := ⟨w.heap.size + 1 + 1, 11, none⟩) (.inr ⟨by omega, Zz1⟩) _).setCell (p := ⟨w.heap.size + 1 + 1, 12, none⟩) (.inr ⟨by omega, Zz1⟩) _)
theorem lateB_at {x y : StL} {h : Int} {k : Nat} : lateB x y h ((k : Int) + 1) = (mineB x ((k : Int) + 1) && decide ((x.sent.getD k pk0).u ≤ h) && decide (y.got.getD k 0 = 0)) := by
 unfold lateB; rw [show ((k : Int) + 1 - 1).toNat = k by omega]
theorem mineB_range {x : StL} {q : Int} (h : mineB x q = true) : ∃ k : Nat, q = (k : Int) + 1 ∧ k < x.sent.length := by
 simp only [mineB, decide_eq_true_eq] at h; exact ⟨(q - 1).toNat, by omega, by omega⟩
theorem l13Late_any (G : Nat → Nat) (i : Nat) (c : ChM) (y : StM) (h : Int) (q : Int) (w : World) (hc : ChR G i w c) (hy : StI G w y) (hx : StFit c.st.x) (hyf : y.x.got.length = 8) (hq : okB c.bk.b = true) :
  Calls Tryd.prog 98 #[c.val, y.val, .int .i64 h, .int .i64 q] w (RetLate G i w (lateCh c y.x h q) (lateB c.st.x y.x h q)) := by
 rcases Bool.eq_false_or_eq_true (mineB c.st.x q) with hm | hm
 ·obtain ⟨k, rfl, hk⟩ := mineB_range hm
  have e := lateB_at (x := c.st.x) (y := y.x) (h := h) (k := k); unfold lateCh; rw [show ((k : Int) + 1 - 1).toNat = k by omega]
  by_cases he : (c.st.x.sent.getD k pk0).u ≤ h
  ·by_cases hg : y.x.got.getD k 0 = 0
   ·rw [show lateB c.st.x y.x h ((k : Int) + 1) = true by rw [e, hm]; simp only [he, hg, decide_true, Bool.and_self], if_pos rfl]
    exact l13Late_late G i c y h k w hc hy hx hyf hq hk hm he hg
   ·rw [show lateB c.st.x y.x h ((k : Int) + 1) = false by rw [e, hm]; simp only [he, hg, decide_true, decide_false, Bool.and_false], if_neg (by decide)]
    exact l13Late_came G i c y h k w hc hy hx hyf hq hk hm he hg
  ·rw [show lateB c.st.x y.x h ((k : Int) + 1) = false by rw [e, hm]; simp only [he, decide_false, Bool.and_false, Bool.false_and], if_neg (by decide)]
   exact l13Late_early G i c y h k w hc hy hx hyf hq hk hm (by omega)
 ·have e : lateB c.st.x y.x h q = false := by unfold lateB; rw [hm]; rfl
  unfold lateCh; rw [e, if_neg (by decide)]; exact l13Late_no G i c y h q w hc hy hx hyf hq hm

theorem cell13 {w : World} {z : Nat} {a : Addr} (h : ¬ a.block = z) (v0 v1 v2 v3 v4 v5 v6 v7 v8 v9 v10 v11 v12 : Value) : (((((((((((((w.setCell ⟨z, 0, none⟩ v0).setCell ⟨z, 1, none⟩ v1).setCell ⟨z, 2, none⟩ v2).setCell ⟨z, 3, none⟩ v3).setCell ⟨z, 4, none⟩ v4).setCell ⟨z, 5, none⟩ v5).setCell ⟨z, 6, none⟩ v6).setCell ⟨z, 7, none⟩ v7).setCell ⟨z, 8, none⟩ v8).setCell ⟨z, 9, none⟩ v9).setCell ⟨z, 10, none⟩ v10).setCell ⟨z, 11, none⟩ v11).setCell ⟨z, 12, none⟩ v12).cell? a = w.cell? a := by
 have hn : ∀ (W : World) (q : Nat) (v : Value), (W.setCell ⟨z, q, none⟩ v).cell? a = W.cell? a := fun W q v => World.cell?_of_block (Below.heap_setCell W ⟨z, q, none⟩ v a.block h)
 simp only [hn]
def tellB (x y : StL) (q : Int) : Bool := mineB x q && !decide (y.got.getD (q - 1).toNat 0 = 0)
def tellCh (c : ChM) (y : StL) (q : Int) : ChM := if tellB c.st.x y q = true then settleCh c (q - 1).toNat (y.got.getD (q - 1).toNat 0 == 2) else c
theorem l13Tell_no (G : Nat → Nat) (i : Nat) (c : ChM) (y : StM) (q : Int) (w : World) (hc : ChR G i w c) (hy : StI G w y) (hx : StFit c.st.x) (hyf : y.x.got.length = 8) (hq : okB c.bk.b = true) (hm : mineB c.st.x q = false) :
  Calls Tryd.prog 97 #[c.val, y.val, .int .i64 (q)] w (RetLate G i w c false) := by
 have hc := hc.ext (G' := up G w.heap.size 0) fun b hb => up_old hb
 have hy := hy.ext (G' := up G w.heap.size 0) fun b hb => up_old hb
 have HG := hH (show ∀ b, w.heap.size ≤ b → up G w.heap.size 0 b = 0 from fun b hb => up_new hb); have HG' := hH (show ∀ b, b < w.heap.size → up G w.heap.size 0 b = G b from fun b hb => up_old hb); generalize up G w.heap.size 0 = G0 at hc hy HG HG'; have HC := hH hc; have HYR := hH hy; clear hc hy; have HX := hH hx; have HQ := hH hq; have HYF := hH hyf; clear hx hq hyf; have HBC := hH (((Box.new w (w.heap.size) (by simp) 94 (chC c)).alloc (.cells (smC y) 27)).alloc (.cells zC13 94)); have HBY := hH ((Box.new (w.alloc (.cells (chC c) 94)) (w.heap.size + 1) (by simp) 27 (smC y)).alloc (.cells zC13 94)); have HBZ := hH (Box.new ((w.alloc (.cells (chC c) 94)).alloc (.cells (smC y) 27)) (w.heap.size + 1 + 1) (by simp) 94 zC13); have HK := hH ((((Keeps.refl (noBlk) w).alloc (.cells (chC c) 94)).alloc (.cells (smC y) 27)).alloc (.cells zC13 94))
 have hsz : w.heap.size + 3 ≤ (((w.alloc (.cells (chC c) 94)).alloc (.cells (smC y) 27)).alloc (.cells zC13 94)).heap.size := by simp
 have HMI := hH (fun W (hh : Keeps noBlk w W) => (show Calls Tryd.prog 108 #[c.val, .int .i64 (q)] W (fun e w' => e = .returned (.bool false) ∧ Keeps noBlk W w') from by rw [← hm]; exact l13Mine_any c _ W (HC.out.kept hh).2.1.at_ HX.out.live)); clear hm; unfold ChM.val at HMI ⊢; unfold StM.val
 go_enter Tryd.func97, Tryd.ntmps97
 go_wp2_with fail; refine (HMI.out _ HK.out).mono ?_; rintro e w1 ⟨rfl, hk1⟩; replace HBC := hH (HBC.out.keeps hk1 (fun h => h)); replace HBY := hH (HBY.out.keeps hk1 (fun h => h)); replace HBZ := hH (HBZ.out.keeps hk1 (fun h => h)); replace HK := hH (HK.out.trans hk1); have hb := HBC.out; obtain ⟨C0, C1, C2, C3, C4, C5, C6, C7, C8, C9, C10, C11, C12⟩ := hb.cells13; have Cz := hb.lt; clear hb; have hb := HBY.out; have Y6 := hb.cell 6; simp at Y6; have Yz := hb.lt; clear hb; have hb := HBZ.out; obtain ⟨Z0, Z1, Z2, Z3, Z4, Z5, Z6, Z7, Z8, Z9, Z10, Z11, Z12⟩ := hb.cells13; obtain ⟨Zf0, Zf1, Zf2, Zf3, Zf4, Zf5, Zf6, Zf7, Zf8, Zf9, Zf10, Zf11, Zf12⟩ := hb.fz13; have Zz := hb.lt; clear hb
 have hz2 : w.heap.size ≤ w.heap.size + 1 + 1 := by omega
 go_wp2; refine bodyPost_ret (v := .tuple #[.agg (chC c), .bool false]) (by simp [results, Tryd.results97, go_sem, *]) rfl ?_; exact late_end HG'.out HC.out ((HK.out).new13 hz2)
theorem l13Tell_none (G : Nat → Nat) (i : Nat) (c : ChM) (y : StM) (k : Nat) (w : World) (hc : ChR G i w c) (hy : StI G w y) (hx : StFit c.st.x) (hyf : y.x.got.length = 8) (hq : okB c.bk.b = true) (hk : k < c.st.x.sent.length) (hm : mineB c.st.x ((k : Int) + 1) = true) (hg : y.x.got.getD k 0 = 0) :
  Calls Tryd.prog 97 #[c.val, y.val, .int .i64 ((k : Int) + 1)] w (RetLate G i w c false) := by
 have hc := hc.ext (G' := up G w.heap.size 0) fun b hb => up_old hb
 have hy := hy.ext (G' := up G w.heap.size 0) fun b hb => up_old hb
 have HG := hH (show ∀ b, w.heap.size ≤ b → up G w.heap.size 0 b = 0 from fun b hb => up_new hb); have HG' := hH (show ∀ b, b < w.heap.size → up G w.heap.size 0 b = G b from fun b hb => up_old hb); generalize up G w.heap.size 0 = G0 at hc hy HG HG'; have HC := hH hc; have HYR := hH hy; clear hc hy; have HX := hH hx; have HQ := hH hq; have HYF := hH hyf; clear hx hq hyf; have HBC := hH (((Box.new w (w.heap.size) (by simp) 94 (chC c)).alloc (.cells (smC y) 27)).alloc (.cells zC13 94)); have HBY := hH ((Box.new (w.alloc (.cells (chC c) 94)) (w.heap.size + 1) (by simp) 27 (smC y)).alloc (.cells zC13 94)); have HBZ := hH (Box.new ((w.alloc (.cells (chC c) 94)).alloc (.cells (smC y) 27)) (w.heap.size + 1 + 1) (by simp) 94 zC13); have HK := hH ((((Keeps.refl (noBlk) w).alloc (.cells (chC c) 94)).alloc (.cells (smC y) 27)).alloc (.cells zC13 94))
 have hsz : w.heap.size + 3 ≤ (((w.alloc (.cells (chC c) 94)).alloc (.cells (smC y) 27)).alloc (.cells zC13 94)).heap.size := by simp
 have HMI := hH (fun W (hh : Keeps noBlk w W) => (show Calls Tryd.prog 108 #[c.val, .int .i64 ((k : Int) + 1)] W (fun e w' => e = .returned (.bool true) ∧ Keeps noBlk W w') from by rw [← hm]; exact l13Mine_any c _ W (HC.out.kept hh).2.1.at_ HX.out.live)); clear hm
 have hk8 : k < 8 := by have := HX.out.n8; omega
 unfold ChM.val at HMI ⊢; unfold StM.val
 go_enter Tryd.func97, Tryd.ntmps97
 go_wp2_with fail; refine (HMI.out _ HK.out).mono ?_; rintro e w1 ⟨rfl, hk1⟩; replace HBC := hH (HBC.out.keeps hk1 (fun h => h)); replace HBY := hH (HBY.out.keeps hk1 (fun h => h)); replace HBZ := hH (HBZ.out.keeps hk1 (fun h => h)); replace HK := hH (HK.out.trans hk1); have hb := HBC.out; obtain ⟨C0, C1, C2, C3, C4, C5, C6, C7, C8, C9, C10, C11, C12⟩ := hb.cells13; have Cz := hb.lt; clear hb; have hb := HBY.out; have Y6 := hb.cell 6; simp at Y6; have Yz := hb.lt; clear hb; have hb := HBZ.out; obtain ⟨Z0, Z1, Z2, Z3, Z4, Z5, Z6, Z7, Z8, Z9, Z10, Z11, Z12⟩ := hb.cells13; obtain ⟨Zf0, Zf1, Zf2, Zf3, Zf4, Zf5, Zf6, Zf7, Zf8, Zf9, Zf10, Zf11, Zf12⟩ := hb.fz13; have Zz := hb.lt; clear hb
 have hz2 : w.heap.size ≤ w.heap.size + 1 + 1 := by omega
 obtain ⟨gy, oy, ey, ly, y0⟩ := (HYR.out.kept HK.out).at_.1.2.2.2.at_ (k := k) (by rw [HYF.out]; exact hk8)
 have hyl : k < y.x.got.length := by rw [HYF.out]; exact hk8
 generalize y.x.got.getD k 0 = gg at *
 have hn : (gg == 0) = true := by simpa using hg
 clear hg; go_wp2; refine bodyPost_ret (v := .tuple #[.agg (chC c), .bool false]) (by simp [results, Tryd.results97, go_sem, *]) rfl ?_; exact late_end HG'.out HC.out ((HK.out).new13 hz2)
theorem l13Tell_told (G : Nat → Nat) (i : Nat) (c : ChM) (y : StM) (k : Nat) (w : World) (hc : ChR G i w c) (hy : StI G w y) (hx : StFit c.st.x) (hyf : y.x.got.length = 8) (hq : okB c.bk.b = true) (hk : k < c.st.x.sent.length) (hm : mineB c.st.x ((k : Int) + 1) = true) (hg : y.x.got.getD k 0 ≠ 0) :
  Calls Tryd.prog 97 #[c.val, y.val, .int .i64 ((k : Int) + 1)] w (RetLate G i w (settleCh c k (y.x.got.getD k 0 == 2)) true) := by
 have hc := hc.ext (G' := up G w.heap.size 0) fun b hb => up_old hb
 have hy := hy.ext (G' := up G w.heap.size 0) fun b hb => up_old hb
 have HG := hH (show ∀ b, w.heap.size ≤ b → up G w.heap.size 0 b = 0 from fun b hb => up_new hb); have HG' := hH (show ∀ b, b < w.heap.size → up G w.heap.size 0 b = G b from fun b hb => up_old hb); generalize up G w.heap.size 0 = G0 at hc hy HG HG'; have HC := hH hc; have HYR := hH hy; clear hc hy; have HX := hH hx; have HQ := hH hq; have HYF := hH hyf; clear hx hq hyf; have HBC := hH (((Box.new w (w.heap.size) (by simp) 94 (chC c)).alloc (.cells (smC y) 27)).alloc (.cells zC13 94)); have HBY := hH ((Box.new (w.alloc (.cells (chC c) 94)) (w.heap.size + 1) (by simp) 27 (smC y)).alloc (.cells zC13 94)); have HBZ := hH (Box.new ((w.alloc (.cells (chC c) 94)).alloc (.cells (smC y) 27)) (w.heap.size + 1 + 1) (by simp) 94 zC13); have HK := hH ((((Keeps.refl (noBlk) w).alloc (.cells (chC c) 94)).alloc (.cells (smC y) 27)).alloc (.cells zC13 94))
 have hsz : w.heap.size + 3 ≤ (((w.alloc (.cells (chC c) 94)).alloc (.cells (smC y) 27)).alloc (.cells zC13 94)).heap.size := by simp
 have HMI := hH (fun W (hh : Keeps noBlk w W) => (show Calls Tryd.prog 108 #[c.val, .int .i64 ((k : Int) + 1)] W (fun e w' => e = .returned (.bool true) ∧ Keeps noBlk W w') from by rw [← hm]; exact l13Mine_any c _ W (HC.out.kept hh).2.1.at_ HX.out.live)); clear hm
 have hk8 : k < 8 := by have := HX.out.n8; omega
 have HST := hH (fun b W (hh : Keeps noBlk w W) => l13Settle_any G0 i c k b W (HC.out.kept hh) hk HX.out.live HX.out.back HX.out.n8 HQ.out (HX.out.pk k hk).1 (HX.out.pk k hk).2.1 (HX.out.pk k hk).2.2.1 (HX.out.pk k hk).2.2.2); unfold ChM.val at HST; unfold ChM.val at HMI ⊢; unfold StM.val
 go_enter Tryd.func97, Tryd.ntmps97
 go_wp2_with fail; refine (HMI.out _ HK.out).mono ?_; rintro e w1 ⟨rfl, hk1⟩; replace HBC := hH (HBC.out.keeps hk1 (fun h => h)); replace HBY := hH (HBY.out.keeps hk1 (fun h => h)); replace HBZ := hH (HBZ.out.keeps hk1 (fun h => h)); replace HK := hH (HK.out.trans hk1); have hb := HBC.out; obtain ⟨C0, C1, C2, C3, C4, C5, C6, C7, C8, C9, C10, C11, C12⟩ := hb.cells13; have Cz := hb.lt; clear hb; have hb := HBY.out; have Y6 := hb.cell 6; simp at Y6; have Yz := hb.lt; clear hb; have hb := HBZ.out; obtain ⟨Z0, Z1, Z2, Z3, Z4, Z5, Z6, Z7, Z8, Z9, Z10, Z11, Z12⟩ := hb.cells13; obtain ⟨Zf0, Zf1, Zf2, Zf3, Zf4, Zf5, Zf6, Zf7, Zf8, Zf9, Zf10, Zf11, Zf12⟩ := hb.fz13; have Zz := hb.lt; clear hb
 have hz2 : w.heap.size ≤ w.heap.size + 1 + 1 := by omega
 obtain ⟨gy, oy, ey, ly, y0⟩ := (HYR.out.kept HK.out).at_.1.2.2.2.at_ (k := k) (by rw [HYF.out]; exact hk8)
 have hyl : k < y.x.got.length := by rw [HYF.out]; exact hk8
 generalize y.x.got.getD k 0 = gg at *
 have hn : (gg == 0) = false := by simpa using hg
 clear hg; have HEY := hH ey; have hgyb : blk y.A4 y.x.got.length gy := ⟨by rw [HYF.out]; omega, _, HEY.out, rfl⟩; have hgy : G0 gy = 1 := HYR.out.2 gy (.inr (.inr (.inr hgyb))); have lgy : gy < w.heap.size := HYR.out.lt (.inr (.inr (.inr hgyb))); clear hgyb; have hw0 : IntKind.i64.wrap (k : Int) = k := IntWalk.i64_in _ (by omega)
 have hw1 : IntKind.i64.wrap ((k : Int) + 1 - 1) = k := by rw [show (k : Int) + 1 - 1 = k by omega]; exact hw0
 have hi0 : (0 : Int) ≤ k := by omega
 have hi1 : (k : Int) < (y.x.got.length : Int) := by omega
 have hi2 : (k : Int) ≤ (y.x.got.length : Int) := by omega
 go_wp2_with fail
 go_region_held3 (fun w' => w'.cell? ⟨w.heap.size, 0, none⟩ = some (.int .i64 c.id) ∧ w'.cell? ⟨w.heap.size, 1, none⟩ = some (.slice c.bk.A1 c.bk.b.own.length c.bk.c1) ∧ w'.cell? ⟨w.heap.size, 2, none⟩ = some (.slice c.bk.A2 c.bk.b.notes.length c.bk.c2) ∧ w'.cell? ⟨w.heap.size, 3, none⟩ = some (.int .i64 c.bk.b.locked) ∧ w'.cell? ⟨w.heap.size, 4, none⟩ = some (.int .i64 c.st.x.way) ∧ w'.cell? ⟨w.heap.size, 5, none⟩ = some (.int .i64 c.st.x.ver) ∧ w'.cell? ⟨w.heap.size, 6, none⟩ = some (.int .i64 c.st.x.want) ∧ w'.cell? ⟨w.heap.size, 7, none⟩ = some (.slice c.st.A1 c.st.x.sent.length c.st.c1) ∧ w'.cell? ⟨w.heap.size, 8, none⟩ = some (.slice c.st.A2 c.st.x.live.length c.st.c2) ∧ w'.cell? ⟨w.heap.size, 9, none⟩ = some (.slice c.st.A3 c.st.x.back.length c.st.c3) ∧ w'.cell? ⟨w.heap.size, 10, none⟩ = some (.slice c.st.A4 c.st.x.got.length c.st.c4) ∧ w'.cell? ⟨w.heap.size, 11, none⟩ = some (.slice c.pA c.past.length c.pc) ∧ w'.cell? ⟨w.heap.size, 12, none⟩ = some (.slice c.kA c.knows.length c.kc) ∧ w'.cell? ⟨w.heap.size + 1, 6, none⟩ = some (.slice (some ⟨gy, oy, none⟩) y.x.got.length y.c4) ∧ w'.cell? ⟨gy, oy + k, none⟩ = some (.int .i64 gg))
  (((try dsimp only); (repeat' apply And.intro) <;> (first | with_reducible assumption | (with_reducible refine (cell13 ?_ _ _ _ _ _ _ _ _ _ _ _ _ _).trans ?_ <;> first | with_reducible assumption | (dsimp only; omega)) | (go_keep; done))))
  ((go_at_call 109; refine (HST.out _ _ (HK.out.drewN 1)).mono ?_; rintro e w2 ⟨G1, R, rfl, hR, hG1, hC2, hk2⟩; have C0 := (hk2.cell (o := 0) Cz (fun e' => by obtain ⟨j, hj, e'⟩ := e'; rw [HG.out _ (by omega)] at e'; unfold rl at e'; omega)).trans C0; have C1 := (hk2.cell (o := 1) Cz (fun e' => by obtain ⟨j, hj, e'⟩ := e'; rw [HG.out _ (by omega)] at e'; unfold rl at e'; omega)).trans C1; have C2 := (hk2.cell (o := 2) Cz (fun e' => by obtain ⟨j, hj, e'⟩ := e'; rw [HG.out _ (by omega)] at e'; unfold rl at e'; omega)).trans C2; have C3 := (hk2.cell (o := 3) Cz (fun e' => by obtain ⟨j, hj, e'⟩ := e'; rw [HG.out _ (by omega)] at e'; unfold rl at e'; omega)).trans C3; have C4 := (hk2.cell (o := 4) Cz (fun e' => by obtain ⟨j, hj, e'⟩ := e'; rw [HG.out _ (by omega)] at e'; unfold rl at e'; omega)).trans C4; have C5 := (hk2.cell (o := 5) Cz (fun e' => by obtain ⟨j, hj, e'⟩ := e'; rw [HG.out _ (by omega)] at e'; unfold rl at e'; omega)).trans C5; have C6 := (hk2.cell (o := 6) Cz (fun e' => by obtain ⟨j, hj, e'⟩ := e'; rw [HG.out _ (by omega)] at e'; unfold rl at e'; omega)).trans C6; have C7 := (hk2.cell (o := 7) Cz (fun e' => by obtain ⟨j, hj, e'⟩ := e'; rw [HG.out _ (by omega)] at e'; unfold rl at e'; omega)).trans C7; have C8 := (hk2.cell (o := 8) Cz (fun e' => by obtain ⟨j, hj, e'⟩ := e'; rw [HG.out _ (by omega)] at e'; unfold rl at e'; omega)).trans C8; have C9 := (hk2.cell (o := 9) Cz (fun e' => by obtain ⟨j, hj, e'⟩ := e'; rw [HG.out _ (by omega)] at e'; unfold rl at e'; omega)).trans C9; have C10 := (hk2.cell (o := 10) Cz (fun e' => by obtain ⟨j, hj, e'⟩ := e'; rw [HG.out _ (by omega)] at e'; unfold rl at e'; omega)).trans C10; have C11 := (hk2.cell (o := 11) Cz (fun e' => by obtain ⟨j, hj, e'⟩ := e'; rw [HG.out _ (by omega)] at e'; unfold rl at e'; omega)).trans C11; have C12 := (hk2.cell (o := 12) Cz (fun e' => by obtain ⟨j, hj, e'⟩ := e'; rw [HG.out _ (by omega)] at e'; unfold rl at e'; omega)).trans C12; have Y6 := (hk2.cell (o := 6) Yz (fun e' => by obtain ⟨j, hj, e'⟩ := e'; rw [HG.out _ (by omega)] at e'; unfold rl at e'; omega)).trans Y6; have y0 := (hk2.cell (o := oy + k) ly (fun e' => by obtain ⟨j, hj, e'⟩ := e'; rw [hgy] at e'; unfold rl at e'; omega)).trans y0; have Z0 := (hk2.cell (o := 0) Zz (fun e' => by obtain ⟨j, hj, e'⟩ := e'; rw [HG.out _ (by omega)] at e'; unfold rl at e'; omega)).trans Z0; have Z1 := (hk2.cell (o := 1) Zz (fun e' => by obtain ⟨j, hj, e'⟩ := e'; rw [HG.out _ (by omega)] at e'; unfold rl at e'; omega)).trans Z1; have Z2 := (hk2.cell (o := 2) Zz (fun e' => by obtain ⟨j, hj, e'⟩ := e'; rw [HG.out _ (by omega)] at e'; unfold rl at e'; omega)).trans Z2; have Z3 := (hk2.cell (o := 3) Zz (fun e' => by obtain ⟨j, hj, e'⟩ := e'; rw [HG.out _ (by omega)] at e'; unfold rl at e'; omega)).trans Z3; have Z4 := (hk2.cell (o := 4) Zz (fun e' => by obtain ⟨j, hj, e'⟩ := e'; rw [HG.out _ (by omega)] at e'; unfold rl at e'; omega)).trans Z4; have Z5 := (hk2.cell (o := 5) Zz (fun e' => by obtain ⟨j, hj, e'⟩ := e'; rw [HG.out _ (by omega)] at e'; unfold rl at e'; omega)).trans Z5; have Z6 := (hk2.cell (o := 6) Zz (fun e' => by obtain ⟨j, hj, e'⟩ := e'; rw [HG.out _ (by omega)] at e'; unfold rl at e'; omega)).trans Z6; have Z7 := (hk2.cell (o := 7) Zz (fun e' => by obtain ⟨j, hj, e'⟩ := e'; rw [HG.out _ (by omega)] at e'; unfold rl at e'; omega)).trans Z7; have Z8 := (hk2.cell (o := 8) Zz (fun e' => by obtain ⟨j, hj, e'⟩ := e'; rw [HG.out _ (by omega)] at e'; unfold rl at e'; omega)).trans Z8; have Z9 := (hk2.cell (o := 9) Zz (fun e' => by obtain ⟨j, hj, e'⟩ := e'; rw [HG.out _ (by omega)] at e'; unfold rl at e'; omega)).trans Z9; have Z10 := (hk2.cell (o := 10) Zz (fun e' => by obtain ⟨j, hj, e'⟩ := e'; rw [HG.out _ (by omega)] at e'; unfold rl at e'; omega)).trans Z10; have Z11 := (hk2.cell (o := 11) Zz (fun e' => by obtain ⟨j, hj, e'⟩ := e'; rw [HG.out _ (by omega)] at e'; unfold rl at e'; omega)).trans Z11; have Z12 := (hk2.cell (o := 12) Zz (fun e' => by obtain ⟨j, hj, e'⟩ := e'; rw [HG.out _ (by omega)] at e'; unfold rl at e'; omega)).trans Z12; have Zf0 := (hk2.frozen (o := 0) Zz (fun e' => by obtain ⟨j, hj, e'⟩ := e'; rw [HG.out _ (by omega)] at e'; unfold rl at e'; omega)).trans Zf0; have Zf1 := (hk2.frozen (o := 1) Zz (fun e' => by obtain ⟨j, hj, e'⟩ := e'; rw [HG.out _ (by omega)] at e'; unfold rl at e'; omega)).trans Zf1; have Zf2 := (hk2.frozen (o := 2) Zz (fun e' => by obtain ⟨j, hj, e'⟩ := e'; rw [HG.out _ (by omega)] at e'; unfold rl at e'; omega)).trans Zf2; have Zf3 := (hk2.frozen (o := 3) Zz (fun e' => by obtain ⟨j, hj, e'⟩ := e'; rw [HG.out _ (by omega)] at e'; unfold rl at e'; omega)).trans Zf3; have Zf4 := (hk2.frozen (o := 4) Zz (fun e' => by obtain ⟨j, hj, e'⟩ := e'; rw [HG.out _ (by omega)] at e'; unfold rl at e'; omega)).trans Zf4; have Zf5 := (hk2.frozen (o := 5) Zz (fun e' => by obtain ⟨j, hj, e'⟩ := e'; rw [HG.out _ (by omega)] at e'; unfold rl at e'; omega)).trans Zf5; have Zf6 := (hk2.frozen (o := 6) Zz (fun e' => by obtain ⟨j, hj, e'⟩ := e'; rw [HG.out _ (by omega)] at e'; unfold rl at e'; omega)).trans Zf6; have Zf7 := (hk2.frozen (o := 7) Zz (fun e' => by obtain ⟨j, hj, e'⟩ := e'; rw [HG.out _ (by omega)] at e'; unfold rl at e'; omega)).trans Zf7; have Zf8 := (hk2.frozen (o := 8) Zz (fun e' => by obtain ⟨j, hj, e'⟩ := e'; rw [HG.out _ (by omega)] at e'; unfold rl at e'; omega)).trans Zf8; have Zf9 := (hk2.frozen (o := 9) Zz (fun e' => by obtain ⟨j, hj, e'⟩ := e'; rw [HG.out _ (by omega)] at e'; unfold rl at e'; omega)).trans Zf9; have Zf10 := (hk2.frozen (o := 10) Zz (fun e' => by obtain ⟨j, hj, e'⟩ := e'; rw [HG.out _ (by omega)] at e'; unfold rl at e'; omega)).trans Zf10; have Zf11 := (hk2.frozen (o := 11) Zz (fun e' => by obtain ⟨j, hj, e'⟩ := e'; rw [HG.out _ (by omega)] at e'; unfold rl at e'; omega)).trans Zf11; have Zf12 := (hk2.frozen (o := 12) Zz (fun e' => by obtain ⟨j, hj, e'⟩ := e'; rw [HG.out _ (by omega)] at e'; unfold rl at e'; omega)).trans Zf12; have HR := hH hR; have HG1 := hH hG1; have HC2 := hH hC2; have HK2 := hH hk2; clear hR hG1 hC2 hk2; unfold ChM.val))
 have Zz1 : w.heap.size + 1 + 1 < (w1.drewN 1).heap.size := Zz; go_wp2; refine bodyPost_ret (v := .tuple #[.agg (chC R), .bool true]) (by simp [results, Tryd.results97, go_sem, *]) rfl ?_; rw [← HR.out]; exact late_turn HG'.out (HK.out.drewN 1) HG1.out HC2.out HK2.out (fun b h1 h2 => (HG1.out b h2).trans (HG.out b h1)) (((((((((((((((Keeps.refl (fun b => w.heap.size ≤ b ∧ b < (w1.drewN 1).heap.size) w2)).setCell (p := ⟨w.heap.size + 1 + 1, 0, none⟩) (.inr ⟨by omega, Zz1⟩) _).setCell (p := ⟨w.heap.size + 1 + 1, 1, none⟩) (.inr ⟨by omega, Zz1⟩) _).setCell (p := ⟨w.heap.size + 1 + 1, 2, none⟩) (.inr ⟨by omega, Zz1⟩) _).setCell (p := ⟨w.heap.size + 1 + 1, 3, none⟩) (.inr ⟨by omega, Zz1⟩) _).setCell (p := ⟨w.heap.size + 1 + 1, 4, none⟩) (.inr ⟨by omega, Zz1⟩) _).setCell (p := ⟨w.heap.size + 1 + 1, 5, none⟩) (.inr ⟨by omega, Zz1⟩) _).setCell (p := ⟨w.heap.size + 1 + 1, 6, none⟩) (.inr ⟨by omega, Zz1⟩) _).setCell (p := ⟨w.heap.size + 1 + 1, 7, none⟩) (.inr ⟨by omega, Zz1⟩) _).setCell (p := ⟨w.heap.size + 1 + 1, 8, none⟩) (.inr ⟨by omega, Zz1⟩) _).setCell (p := ⟨w.heap.size + 1 + 1, 9, none⟩) (.inr ⟨by omega, Zz1⟩) _).setCell (p := ⟨w.heap.size + 1 + 1, 10, none⟩) (.inr ⟨by omega, Zz1⟩) _).setCell (p := ⟨w.heap.size + 1 + 1, 11, none⟩) (.inr ⟨by omega, Zz1⟩) _).setCell (p := ⟨w.heap.size + 1 + 1, 12, none⟩) (.inr ⟨by omega, Zz1⟩) _)
theorem l13Tell_any (G : Nat → Nat) (i : Nat) (c : ChM) (y : StM) (q : Int) (w : World) (hc : ChR G i w c) (hy : StI G w y) (hx : StFit c.st.x) (hyf : y.x.got.length = 8) (hq : okB c.bk.b = true) :
  Calls Tryd.prog 97 #[c.val, y.val, .int .i64 q] w (RetLate G i w (tellCh c y.x q) (tellB c.st.x y.x q)) := by
 rcases Bool.eq_false_or_eq_true (mineB c.st.x q) with hm | hm
 ·obtain ⟨k, rfl, hk⟩ := mineB_range hm
  unfold tellCh tellB; rw [show ((k : Int) + 1 - 1).toNat = k by omega, hm]
  by_cases hg : y.x.got.getD k 0 = 0
  ·rw [show (true && !decide (y.x.got.getD k 0 = 0)) = false by simp only [hg, decide_true]; rfl, if_neg (by decide)]
   exact l13Tell_none G i c y k w hc hy hx hyf hq hk hm hg
  ·rw [show (true && !decide (y.x.got.getD k 0 = 0)) = true by simp only [hg, decide_false]; rfl, if_pos rfl]
   exact l13Tell_told G i c y k w hc hy hx hyf hq hk hm hg
 ·have e : tellB c.st.x y.x q = false := by unfold tellB; rw [hm]; rfl
  unfold tellCh; rw [e, if_neg (by decide)]; exact l13Tell_no G i c y q w hc hy hx hyf hq hm

def payK (p : Pk) : Int := if p.k = 2 then 1 else 2
def payOk (b : BankL) (p : Pk) : Bool := !decide (p.t = 0) && decide (p.m ≤ room b (payK p))
def payB (b : BankL) (p : Pk) : BankL := if p.t = 0 then b else turnB b (payK p) p.t p.m
def payN (b : BankL) (p : Pk) : Int := if payOk b p = true then 1 else 2
def RetPay (G : Nat → Nat) (i : Nat) (w : World) (s : BkM) (b : BankL) (n : Int) (e : Ending) (w' : World) : Prop :=
 e = .returned (.tuple #[({ s with b := b } : BkM).val, .int .i64 n]) ∧ BkR G (rl i) w' { s with b := b } ∧ Keeps (MtB G i) w w'
theorem pay_end {G : Nat → Nat} {i : Nat} {w W : World} {s : BkM} {n : Int} (h : BkR G (rl i) w s) (hk : Keeps noBlk w W) : RetPay G i w s s.b n (.returned (.tuple #[s.val, .int .i64 n])) W :=
 ⟨rfl, h.keeps hk fun _ _ _ _ _ h => h, hk.more fun _ _ h => h.elim⟩
theorem pay_turn {G : Nat → Nat} {i : Nat} {w w1 W : World} {s : BkM} {b : BankL} {n : Int} (hG : ∀ b, w.heap.size ≤ b → G b = 0) (h : BkR G (rl i) w1 { s with b := b }) (hk : Keeps (MtB G i) w w1) (hk2 : Keeps (fun b => w.heap.size ≤ b) w1 W) :
  RetPay G i w s b n (.returned (.tuple #[({ s with b := b } : BkM).val, .int .i64 n])) W :=
 ⟨rfl, h.keeps hk2 fun b k _ _ e e' => by rw [hG b e'] at e; unfold rl at e; omega, hk.then hk2 fun b hb e => by omega⟩
theorem l13Pay_zero1 (G : Nat → Nat) (i : Nat) (s : BkM) (p : Pk) (w : World) (h : BkR G (rl i) w s) (hG : ∀ b, w.heap.size ≤ b → G b = 0) (hq : okB s.b = true) (hk : p.k = 2) (ht : p.t = 0) :
  Calls Tryd.prog 107 #[s.val, p.val] w (RetPay G i w s (s.b) (2)) := by
 have HB := hH h; have HQ := hH hq; have HG := hH hG; clear h hq hG; have HBB := hH (((Box.new w (w.heap.size) (by simp) 91 (bkC s)).alloc (.cells (pkC p) 29)).alloc (.cells #[.slice none 0 0, .slice none 0 0, .int .i64 0] 91)); have HBP := hH ((Box.new (w.alloc (.cells (bkC s) 91)) (w.heap.size + 1) (by simp) 29 (pkC p)).alloc (.cells #[.slice none 0 0, .slice none 0 0, .int .i64 0] 91)); have HBZ := hH (Box.new ((w.alloc (.cells (bkC s) 91)).alloc (.cells (pkC p) 29)) (w.heap.size + 1 + 1) (by simp) 91 #[.slice none 0 0, .slice none 0 0, .int .i64 0]); have HK := hH ((((Keeps.refl (noBlk) w).alloc (.cells (bkC s) 91)).alloc (.cells (pkC p) 29)).alloc (.cells #[.slice none 0 0, .slice none 0 0, .int .i64 0] 91))
 have hsz : w.heap.size + 3 ≤ (((w.alloc (.cells (bkC s) 91)).alloc (.cells (pkC p) 29)).alloc (.cells #[.slice none 0 0, .slice none 0 0, .int .i64 0] 91)).heap.size := by simp
 have e1 : (p.k == 2) = true := by simpa using hk
 have e2 : (p.t == 0) = true := by simpa using ht
 clear hk ht; unfold BkM.val Pk.val
 go_enter Tryd.func107, Tryd.ntmps107
 go_wp2; refine bodyPost_ret (v := .tuple #[.agg (bkC s), .int .i64 2]) (by simp [results, Tryd.results107, go_sem, *]) rfl ?_; exact pay_end HB.out ((((Keeps.refl _ _).alloc _).alloc _).alloc _)
theorem l13Pay_zero2 (G : Nat → Nat) (i : Nat) (s : BkM) (p : Pk) (w : World) (h : BkR G (rl i) w s) (hG : ∀ b, w.heap.size ≤ b → G b = 0) (hq : okB s.b = true) (hk : p.k ≠ 2) (ht : p.t = 0) :
  Calls Tryd.prog 107 #[s.val, p.val] w (RetPay G i w s (s.b) (2)) := by
 have HB := hH h; have HQ := hH hq; have HG := hH hG; clear h hq hG; have HBB := hH (((Box.new w (w.heap.size) (by simp) 91 (bkC s)).alloc (.cells (pkC p) 29)).alloc (.cells #[.slice none 0 0, .slice none 0 0, .int .i64 0] 91)); have HBP := hH ((Box.new (w.alloc (.cells (bkC s) 91)) (w.heap.size + 1) (by simp) 29 (pkC p)).alloc (.cells #[.slice none 0 0, .slice none 0 0, .int .i64 0] 91)); have HBZ := hH (Box.new ((w.alloc (.cells (bkC s) 91)).alloc (.cells (pkC p) 29)) (w.heap.size + 1 + 1) (by simp) 91 #[.slice none 0 0, .slice none 0 0, .int .i64 0]); have HK := hH ((((Keeps.refl (noBlk) w).alloc (.cells (bkC s) 91)).alloc (.cells (pkC p) 29)).alloc (.cells #[.slice none 0 0, .slice none 0 0, .int .i64 0] 91))
 have hsz : w.heap.size + 3 ≤ (((w.alloc (.cells (bkC s) 91)).alloc (.cells (pkC p) 29)).alloc (.cells #[.slice none 0 0, .slice none 0 0, .int .i64 0] 91)).heap.size := by simp
 have e1 : (p.k == 2) = false := by simpa using hk
 have e2 : (p.t == 0) = true := by simpa using ht
 clear hk ht; unfold BkM.val Pk.val
 go_enter Tryd.func107, Tryd.ntmps107
 go_wp2; refine bodyPost_ret (v := .tuple #[.agg (bkC s), .int .i64 2]) (by simp [results, Tryd.results107, go_sem, *]) rfl ?_; exact pay_end HB.out ((((Keeps.refl _ _).alloc _).alloc _).alloc _)
theorem l13Pay_yes1 (G : Nat → Nat) (i : Nat) (s : BkM) (p : Pk) (w : World) (h : BkR G (rl i) w s) (hG : ∀ b, w.heap.size ≤ b → G b = 0) (hq : okB s.b = true) (hk : p.k = 2) (ht : p.t ≠ 0) (hu : userB p.t = true) (hm0 : 0 ≤ p.m) (hm1 : p.m ≤ 1000) (hr : p.m ≤ room s.b 1) :
  Calls Tryd.prog 107 #[s.val, p.val] w (RetPay G i w s (turnB s.b 1 p.t p.m) (1)) := by
 have HB := hH h; have HQ := hH hq; have HG := hH hG; clear h hq hG; have HBB := hH (((Box.new w (w.heap.size) (by simp) 91 (bkC s)).alloc (.cells (pkC p) 29)).alloc (.cells #[.slice none 0 0, .slice none 0 0, .int .i64 0] 91)); have HBP := hH ((Box.new (w.alloc (.cells (bkC s) 91)) (w.heap.size + 1) (by simp) 29 (pkC p)).alloc (.cells #[.slice none 0 0, .slice none 0 0, .int .i64 0] 91)); have HBZ := hH (Box.new ((w.alloc (.cells (bkC s) 91)).alloc (.cells (pkC p) 29)) (w.heap.size + 1 + 1) (by simp) 91 #[.slice none 0 0, .slice none 0 0, .int .i64 0]); have HK := hH ((((Keeps.refl (noBlk) w).alloc (.cells (bkC s) 91)).alloc (.cells (pkC p) 29)).alloc (.cells #[.slice none 0 0, .slice none 0 0, .int .i64 0] 91))
 have hsz : w.heap.size + 3 ≤ (((w.alloc (.cells (bkC s) 91)).alloc (.cells (pkC p) 29)).alloc (.cells #[.slice none 0 0, .slice none 0 0, .int .i64 0] 91)).heap.size := by simp
 have e1 : (p.k == 2) = true := by simpa using hk
 have e2 : (p.t == 0) = false := by simpa using ht
 clear hk ht; have HTB := hH (l1Back_g G i s 1 p.t p.m _ (HB.out.keeps HK.out (fun _ _ _ _ _ h => h)) HQ.out (by decide) hu hm0 hm1); rw [decide_eq_true hr] at HTB; clear hr; generalize turnB s.b 1 p.t p.m = b' at HTB ⊢; obtain ⟨own', notes', lk'⟩ := b'; unfold RetBk at HTB; unfold BkM.val at HTB ⊢; unfold Pk.val; dsimp only at HTB
 go_enter Tryd.func107, Tryd.ntmps107
 go_wp2_with fail; refine HTB.out.mono ?_; rintro e w1 ⟨rfl, hb1, hk1⟩; have hbz := HBZ.out.keeps hk1 (fun e' => by rcases e' with e' | e' <;> (rw [HG.out _ (by omega)] at e'; unfold rl at e'; omega)); have hbb := HBB.out.keeps hk1 (fun e' => by rcases e' with e' | e' <;> (rw [HG.out _ (by omega)] at e'; unfold rl at e'; omega)); have z0 := hbz.cell 0; have zf0 := hbz.frozen 0; have b0 := hbb.cell 0; have z1 := hbz.cell 1; have zf1 := hbz.frozen 1; have b1 := hbb.cell 1; have z2 := hbz.cell 2; have zf2 := hbz.frozen 2; have b2 := hbb.cell 2; simp at z0 b0 z1 b1 z2 b2; have zz := hbz.lt; have zb : w.heap.size < w1.heap.size := hbb.lt; have HB1 := hH hb1; have HK1 := hH ((HK.out.more (T := MtB G i) fun _ _ h => h.elim).trans hk1); clear hbz hbb hb1 hk1 HTB HBB HBZ HBP
 have : w.heap.size < w1.heap.size + 1 := by omega
 have : ¬ w.heap.size = w1.heap.size := by omega
 have : ¬ w1.heap.size = w.heap.size := by omega
 have : w.heap.size + 1 + 1 < w1.heap.size + 1 := by omega
 have : ¬ w.heap.size + 1 + 1 = w1.heap.size := by omega
 have : ¬ w1.heap.size = w.heap.size + 1 + 1 := by omega
 go_wp2; refine bodyPost_ret (v := .tuple #[.agg #[.slice s.A1 own'.length s.c1, .slice s.A2 notes'.length s.c2, .int .i64 lk'], .int .i64 1]) (by simp [results, Tryd.results107, go_sem, *]) rfl ?_; exact pay_turn HG.out HB1.out HK1.out ((((Keeps.refl (fun b => w.heap.size ≤ b) w1)).put3 (w.heap.size + 1 + 1) (.inr (by first | omega | (dsimp only; omega)))).alloc _)
theorem l13Pay_no1 (G : Nat → Nat) (i : Nat) (s : BkM) (p : Pk) (w : World) (h : BkR G (rl i) w s) (hG : ∀ b, w.heap.size ≤ b → G b = 0) (hq : okB s.b = true) (hk : p.k = 2) (ht : p.t ≠ 0) (hu : userB p.t = true) (hm0 : 0 ≤ p.m) (hm1 : p.m ≤ 1000) (hr : ¬ p.m ≤ room s.b 1) :
  Calls Tryd.prog 107 #[s.val, p.val] w (RetPay G i w s (s.b) (2)) := by
 have HB := hH h; have HQ := hH hq; have HG := hH hG; clear h hq hG; have HBB := hH (((Box.new w (w.heap.size) (by simp) 91 (bkC s)).alloc (.cells (pkC p) 29)).alloc (.cells #[.slice none 0 0, .slice none 0 0, .int .i64 0] 91)); have HBP := hH ((Box.new (w.alloc (.cells (bkC s) 91)) (w.heap.size + 1) (by simp) 29 (pkC p)).alloc (.cells #[.slice none 0 0, .slice none 0 0, .int .i64 0] 91)); have HBZ := hH (Box.new ((w.alloc (.cells (bkC s) 91)).alloc (.cells (pkC p) 29)) (w.heap.size + 1 + 1) (by simp) 91 #[.slice none 0 0, .slice none 0 0, .int .i64 0]); have HK := hH ((((Keeps.refl (noBlk) w).alloc (.cells (bkC s) 91)).alloc (.cells (pkC p) 29)).alloc (.cells #[.slice none 0 0, .slice none 0 0, .int .i64 0] 91))
 have hsz : w.heap.size + 3 ≤ (((w.alloc (.cells (bkC s) 91)).alloc (.cells (pkC p) 29)).alloc (.cells #[.slice none 0 0, .slice none 0 0, .int .i64 0] 91)).heap.size := by simp
 have e1 : (p.k == 2) = true := by simpa using hk
 have e2 : (p.t == 0) = false := by simpa using ht
 clear hk ht; have HTB := hH (l1Back_g G i s 1 p.t p.m _ (HB.out.keeps HK.out (fun _ _ _ _ _ h => h)) HQ.out (by decide) hu hm0 hm1); rw [decide_eq_false hr, show turnB s.b 1 p.t p.m = s.b by unfold turnB; rw [if_neg hr]] at HTB; clear hr; unfold RetBk at HTB; unfold BkM.val at HTB ⊢; unfold Pk.val; dsimp only at HTB
 go_enter Tryd.func107, Tryd.ntmps107
 go_wp2_with fail; refine HTB.out.mono ?_; rintro e w1 ⟨rfl, hb1, hk1⟩; have hbz := HBZ.out.keeps hk1 (fun e' => by rcases e' with e' | e' <;> (rw [HG.out _ (by omega)] at e'; unfold rl at e'; omega)); have hbb := HBB.out.keeps hk1 (fun e' => by rcases e' with e' | e' <;> (rw [HG.out _ (by omega)] at e'; unfold rl at e'; omega)); have z0 := hbz.cell 0; have zf0 := hbz.frozen 0; have b0 := hbb.cell 0; have z1 := hbz.cell 1; have zf1 := hbz.frozen 1; have b1 := hbb.cell 1; have z2 := hbz.cell 2; have zf2 := hbz.frozen 2; have b2 := hbb.cell 2; simp at z0 b0 z1 b1 z2 b2; have zz := hbz.lt; have zb : w.heap.size < w1.heap.size := hbb.lt; have HB1 := hH hb1; have HK1 := hH ((HK.out.more (T := MtB G i) fun _ _ h => h.elim).trans hk1); clear hbz hbb hb1 hk1 HTB HBB HBZ HBP
 have : w.heap.size < w1.heap.size + 1 := by omega
 have : ¬ w.heap.size = w1.heap.size := by omega
 have : ¬ w1.heap.size = w.heap.size := by omega
 have : w.heap.size + 1 + 1 < w1.heap.size + 1 := by omega
 have : ¬ w.heap.size + 1 + 1 = w1.heap.size := by omega
 have : ¬ w1.heap.size = w.heap.size + 1 + 1 := by omega
 go_wp2; refine bodyPost_ret (v := .tuple #[.agg (bkC s), .int .i64 2]) (by simp [results, Tryd.results107, go_sem, *]) rfl ?_; exact pay_turn HG.out HB1.out HK1.out ((((Keeps.refl (fun b => w.heap.size ≤ b) w1)).put3 (w.heap.size + 1 + 1) (.inr (by first | omega | (dsimp only; omega)))).alloc _)
theorem l13Pay_yes2 (G : Nat → Nat) (i : Nat) (s : BkM) (p : Pk) (w : World) (h : BkR G (rl i) w s) (hG : ∀ b, w.heap.size ≤ b → G b = 0) (hq : okB s.b = true) (hk : p.k ≠ 2) (ht : p.t ≠ 0) (hu : userB p.t = true) (hm0 : 0 ≤ p.m) (hm1 : p.m ≤ 1000) (hr : p.m ≤ room s.b 2) :
  Calls Tryd.prog 107 #[s.val, p.val] w (RetPay G i w s (turnB s.b 2 p.t p.m) (1)) := by
 have HB := hH h; have HQ := hH hq; have HG := hH hG; clear h hq hG; have HBB := hH (((Box.new w (w.heap.size) (by simp) 91 (bkC s)).alloc (.cells (pkC p) 29)).alloc (.cells #[.slice none 0 0, .slice none 0 0, .int .i64 0] 91)); have HBP := hH ((Box.new (w.alloc (.cells (bkC s) 91)) (w.heap.size + 1) (by simp) 29 (pkC p)).alloc (.cells #[.slice none 0 0, .slice none 0 0, .int .i64 0] 91)); have HBZ := hH (Box.new ((w.alloc (.cells (bkC s) 91)).alloc (.cells (pkC p) 29)) (w.heap.size + 1 + 1) (by simp) 91 #[.slice none 0 0, .slice none 0 0, .int .i64 0]); have HK := hH ((((Keeps.refl (noBlk) w).alloc (.cells (bkC s) 91)).alloc (.cells (pkC p) 29)).alloc (.cells #[.slice none 0 0, .slice none 0 0, .int .i64 0] 91))
 have hsz : w.heap.size + 3 ≤ (((w.alloc (.cells (bkC s) 91)).alloc (.cells (pkC p) 29)).alloc (.cells #[.slice none 0 0, .slice none 0 0, .int .i64 0] 91)).heap.size := by simp
 have e1 : (p.k == 2) = false := by simpa using hk
 have e2 : (p.t == 0) = false := by simpa using ht
 clear hk ht; have HTB := hH (l1Back_g G i s 2 p.t p.m _ (HB.out.keeps HK.out (fun _ _ _ _ _ h => h)) HQ.out (by decide) hu hm0 hm1); rw [decide_eq_true hr] at HTB; clear hr; generalize turnB s.b 2 p.t p.m = b' at HTB ⊢; obtain ⟨own', notes', lk'⟩ := b'; unfold RetBk at HTB; unfold BkM.val at HTB ⊢; unfold Pk.val; dsimp only at HTB
 go_enter Tryd.func107, Tryd.ntmps107
 go_wp2_with fail; refine HTB.out.mono ?_; rintro e w1 ⟨rfl, hb1, hk1⟩; have hbz := HBZ.out.keeps hk1 (fun e' => by rcases e' with e' | e' <;> (rw [HG.out _ (by omega)] at e'; unfold rl at e'; omega)); have hbb := HBB.out.keeps hk1 (fun e' => by rcases e' with e' | e' <;> (rw [HG.out _ (by omega)] at e'; unfold rl at e'; omega)); have z0 := hbz.cell 0; have zf0 := hbz.frozen 0; have b0 := hbb.cell 0; have z1 := hbz.cell 1; have zf1 := hbz.frozen 1; have b1 := hbb.cell 1; have z2 := hbz.cell 2; have zf2 := hbz.frozen 2; have b2 := hbb.cell 2; simp at z0 b0 z1 b1 z2 b2; have zz := hbz.lt; have zb : w.heap.size < w1.heap.size := hbb.lt; have HB1 := hH hb1; have HK1 := hH ((HK.out.more (T := MtB G i) fun _ _ h => h.elim).trans hk1); clear hbz hbb hb1 hk1 HTB HBB HBZ HBP
 have : w.heap.size < w1.heap.size + 1 := by omega
 have : ¬ w.heap.size = w1.heap.size := by omega
 have : ¬ w1.heap.size = w.heap.size := by omega
 have : w.heap.size + 1 + 1 < w1.heap.size + 1 := by omega
 have : ¬ w.heap.size + 1 + 1 = w1.heap.size := by omega
 have : ¬ w1.heap.size = w.heap.size + 1 + 1 := by omega
 go_wp2; refine bodyPost_ret (v := .tuple #[.agg #[.slice s.A1 own'.length s.c1, .slice s.A2 notes'.length s.c2, .int .i64 lk'], .int .i64 1]) (by simp [results, Tryd.results107, go_sem, *]) rfl ?_; exact pay_turn HG.out HB1.out HK1.out ((((Keeps.refl (fun b => w.heap.size ≤ b) w1)).put3 (w.heap.size + 1 + 1) (.inr (by first | omega | (dsimp only; omega)))).alloc _)
theorem l13Pay_no2 (G : Nat → Nat) (i : Nat) (s : BkM) (p : Pk) (w : World) (h : BkR G (rl i) w s) (hG : ∀ b, w.heap.size ≤ b → G b = 0) (hq : okB s.b = true) (hk : p.k ≠ 2) (ht : p.t ≠ 0) (hu : userB p.t = true) (hm0 : 0 ≤ p.m) (hm1 : p.m ≤ 1000) (hr : ¬ p.m ≤ room s.b 2) :
  Calls Tryd.prog 107 #[s.val, p.val] w (RetPay G i w s (s.b) (2)) := by
 have HB := hH h; have HQ := hH hq; have HG := hH hG; clear h hq hG; have HBB := hH (((Box.new w (w.heap.size) (by simp) 91 (bkC s)).alloc (.cells (pkC p) 29)).alloc (.cells #[.slice none 0 0, .slice none 0 0, .int .i64 0] 91)); have HBP := hH ((Box.new (w.alloc (.cells (bkC s) 91)) (w.heap.size + 1) (by simp) 29 (pkC p)).alloc (.cells #[.slice none 0 0, .slice none 0 0, .int .i64 0] 91)); have HBZ := hH (Box.new ((w.alloc (.cells (bkC s) 91)).alloc (.cells (pkC p) 29)) (w.heap.size + 1 + 1) (by simp) 91 #[.slice none 0 0, .slice none 0 0, .int .i64 0]); have HK := hH ((((Keeps.refl (noBlk) w).alloc (.cells (bkC s) 91)).alloc (.cells (pkC p) 29)).alloc (.cells #[.slice none 0 0, .slice none 0 0, .int .i64 0] 91))
 have hsz : w.heap.size + 3 ≤ (((w.alloc (.cells (bkC s) 91)).alloc (.cells (pkC p) 29)).alloc (.cells #[.slice none 0 0, .slice none 0 0, .int .i64 0] 91)).heap.size := by simp
 have e1 : (p.k == 2) = false := by simpa using hk
 have e2 : (p.t == 0) = false := by simpa using ht
 clear hk ht; have HTB := hH (l1Back_g G i s 2 p.t p.m _ (HB.out.keeps HK.out (fun _ _ _ _ _ h => h)) HQ.out (by decide) hu hm0 hm1); rw [decide_eq_false hr, show turnB s.b 2 p.t p.m = s.b by unfold turnB; rw [if_neg hr]] at HTB; clear hr; unfold RetBk at HTB; unfold BkM.val at HTB ⊢; unfold Pk.val; dsimp only at HTB
 go_enter Tryd.func107, Tryd.ntmps107
 go_wp2_with fail; refine HTB.out.mono ?_; rintro e w1 ⟨rfl, hb1, hk1⟩; have hbz := HBZ.out.keeps hk1 (fun e' => by rcases e' with e' | e' <;> (rw [HG.out _ (by omega)] at e'; unfold rl at e'; omega)); have hbb := HBB.out.keeps hk1 (fun e' => by rcases e' with e' | e' <;> (rw [HG.out _ (by omega)] at e'; unfold rl at e'; omega)); have z0 := hbz.cell 0; have zf0 := hbz.frozen 0; have b0 := hbb.cell 0; have z1 := hbz.cell 1; have zf1 := hbz.frozen 1; have b1 := hbb.cell 1; have z2 := hbz.cell 2; have zf2 := hbz.frozen 2; have b2 := hbb.cell 2; simp at z0 b0 z1 b1 z2 b2; have zz := hbz.lt; have zb : w.heap.size < w1.heap.size := hbb.lt; have HB1 := hH hb1; have HK1 := hH ((HK.out.more (T := MtB G i) fun _ _ h => h.elim).trans hk1); clear hbz hbb hb1 hk1 HTB HBB HBZ HBP
 have : w.heap.size < w1.heap.size + 1 := by omega
 have : ¬ w.heap.size = w1.heap.size := by omega
 have : ¬ w1.heap.size = w.heap.size := by omega
 have : w.heap.size + 1 + 1 < w1.heap.size + 1 := by omega
 have : ¬ w.heap.size + 1 + 1 = w1.heap.size := by omega
 have : ¬ w1.heap.size = w.heap.size + 1 + 1 := by omega
 go_wp2; refine bodyPost_ret (v := .tuple #[.agg (bkC s), .int .i64 2]) (by simp [results, Tryd.results107, go_sem, *]) rfl ?_; exact pay_turn HG.out HB1.out HK1.out ((((Keeps.refl (fun b => w.heap.size ≤ b) w1)).put3 (w.heap.size + 1 + 1) (.inr (by first | omega | (dsimp only; omega)))).alloc _)
theorem l13Pay_any (G : Nat → Nat) (i : Nat) (s : BkM) (p : Pk) (w : World) (h : BkR G (rl i) w s) (hG : ∀ b, w.heap.size ≤ b → G b = 0) (hq : okB s.b = true) (hu : p.t = 0 ∨ userB p.t = true) (hm0 : 0 ≤ p.m) (hm1 : p.m ≤ 1000) :
  Calls Tryd.prog 107 #[s.val, p.val] w (RetPay G i w s (payB s.b p) (payN s.b p)) := by
 unfold payB payN payOk payK
 by_cases ht : p.t = 0
 ·rw [if_pos ht, if_neg (by simp only [ht, decide_true]; simp)]
  by_cases hk : p.k = 2
  ·exact l13Pay_zero1 G i s p w h hG hq hk ht
  ·exact l13Pay_zero2 G i s p w h hG hq hk ht
 ·have hu := hu.resolve_left ht
  rw [if_neg ht]
  by_cases hk : p.k = 2
  ·rw [if_pos hk]
   by_cases hr : p.m ≤ room s.b 1
   ·rw [if_pos (by simp only [ht, hr, decide_true, decide_false]; rfl)]
    exact l13Pay_yes1 G i s p w h hG hq hk ht hu hm0 hm1 hr
   ·rw [if_neg (by simp only [hr, decide_false, Bool.and_false]; decide), show turnB s.b 1 p.t p.m = s.b by unfold turnB; rw [if_neg hr]]
    exact l13Pay_no1 G i s p w h hG hq hk ht hu hm0 hm1 hr
  ·rw [if_neg hk]
   by_cases hr : p.m ≤ room s.b 2
   ·rw [if_pos (by simp only [ht, hr, decide_true, decide_false]; rfl)]
    exact l13Pay_yes2 G i s p w h hG hq hk ht hu hm0 hm1 hr
   ·rw [if_neg (by simp only [hr, decide_false, Bool.and_false]; decide), show turnB s.b 2 p.t p.m = s.b by unfold turnB; rw [if_neg hr]]
    exact l13Pay_no2 G i s p w h hG hq hk ht hu hm0 hm1 hr
end Go.Proofs.YtjcbeihoeanhaaaDoor
