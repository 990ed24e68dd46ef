/- l21Relay of the model: what needs that the other chain was in a state, as it is known (nothing comes of it). -/
import Derived.Test.YtjcbeihoeanhaaaDoorUGet
import Derived.Test.YtjcbeihoeanhaaaDoorUKnow
set_option maxRecDepth 100000
set_option maxHeartbeats 4000000
set_option linter.unusedVariables false
set_option linter.unusedSimpArgs false
namespace Go.Proofs.YtjcbeihoeanhaaaDoor
open Go.RowKit

structure Ev where
 kd : Int
 ch : Int
 h : Int
 n : Int
 p : Pk
def Ev.val (e : Ev) : Value := .agg #[.int .i64 e.kd, .int .i64 e.ch, .int .i64 e.h, .int .i64 e.n, .int .i64 e.p.s, .int .i64 e.p.k, .int .i64 e.p.f, .int .i64 e.p.t, .int .i64 e.p.m, .int .i64 e.p.u, .int .i64 e.p.v]
theorem past_at {G : Nat → Nat} {r : Nat} {w : World} {A : Option Addr} {pc k : Nat} {past : List StM} {y : StM} (h : Rw G r w 27 7 (.slice A past.length pc) past.length (vSs past)) (hy : past[k]? = some y) :
  ∃ g, A = some ⟨g, 0, none⟩ ∧ g < w.heap.size ∧ w.cell? ⟨g, k * 7, none⟩ = some (.int .i64 y.x.way) ∧ w.cell? ⟨g, k * 7 + 1, none⟩ = some (.int .i64 y.x.ver) ∧ w.cell? ⟨g, k * 7 + 2, none⟩ = some (.int .i64 y.x.want) ∧
   w.cell? ⟨g, k * 7 + 3, none⟩ = some (.slice y.A1 y.x.sent.length y.c1) ∧ w.cell? ⟨g, k * 7 + 4, none⟩ = some (.slice y.A2 y.x.live.length y.c2) ∧ w.cell? ⟨g, k * 7 + 5, none⟩ = some (.slice y.A3 y.x.back.length y.c3) ∧
   w.cell? ⟨g, k * 7 + 6, none⟩ = some (.slice y.A4 y.x.got.length y.c4) := by
 have hk := (List.getElem?_eq_some_iff.1 hy).1; obtain ⟨_, h1, h2⟩ := owns_cells h.1
 cases A with
 | none => have := (h1 rfl).1; omega
 | some a =>
  obtain ⟨g, rfl, hg, hc, _⟩ := h2 a rfl
  have hq : ∀ q u, q < 7 → y.cs[q]? = some u → w.cell? ⟨g, k * 7 + q, none⟩ = some u := fun q u hq hu => by
   have := hc (k * 7 + q) u (by rw [vSs, flat_at 7 _ stcs_length _ _ _ hq, hy]; exact hu)
   rwa [Nat.zero_add] at this
  exact ⟨g, rfl, hg, hq 0 _ (by decide) rfl, hq 1 _ (by decide) rfl, hq 2 _ (by decide) rfl, hq 3 _ (by decide) rfl, hq 4 _ (by decide) rfl, hq 5 _ (by decide) rfl, hq 6 _ (by decide) rfl⟩
theorem ch_no {G : Nat → Nat} {i : Nat} {w W : World} {c : ChM} (hC : ChR G i w c) (hk : Keeps noBlk w W) : RetCh G i w (fun c' => c' = c) (.returned c.val) W :=
 ⟨G, c, rfl, rfl, fun _ _ => rfl, hC.kept hk, hk.more fun _ _ h => h.elim⟩
theorem ch_turn {G G0 G1 : Nat → Nat} {i : Nat} {w W1 w2 W : World} {c : ChM} (hG : ∀ b, b < w.heap.size → G0 b = G b) (hk1 : Keeps noBlk w W1) (hG1 : ∀ b, b < W1.heap.size → G1 b = G0 b) (hC : ChR G1 i w2 c) (hk2 : Keeps (Mt G0 i) W1 w2)
  (hN : ∀ b, w.heap.size ≤ b → b < W1.heap.size → G1 b = 0) (hk3 : Keeps (fun b => w.heap.size ≤ b ∧ b < W1.heap.size) w2 W) : RetCh G i w (fun c' => c' = c) (.returned c.val) W := by
 obtain ⟨G', _, h1, h2, h3⟩ := late_turn (o := true) hG hk1 hG1 hC hk2 hN hk3; exact ⟨G', c, rfl, rfl, h1, h2, h3⟩
theorem l13Step_late (G : Nat → Nat) (i : Nat) (c : ChM) (y : StM) (k : Int) (w : World) (hc : ChR G i w c) (hy : StR G im w y) (hv : -100 ≤ c.st.x.ver ∧ c.st.x.ver ≤ 100) :
  Calls Tryd.prog 92 #[c.val, y.val, .int .i64 k] w (RetLate G i w (stepCh c y.x k) (mayB c.st.x y.x k)) :=
 (l13Step_any c y.x y.A1 y.A2 y.A3 y.A4 y.c1 y.c2 y.c3 y.c4 k w hc.2.1.at_ hy.at_ hv).mono fun _ _ ⟨he, hk⟩ => ⟨G, he, fun _ _ => rfl, (hc.step y.x k).kept hk, hk.more fun _ _ h => h.elim⟩
theorem l21Relay_unknown (G : Nat → Nat) (i j : Nat) (c d : ChM) (ch n : Int) (p : Pk) (w : World) (hc : ChR G i w c) (hd : ChR G j w d) (hkl : c.knows.length ≤ 1000) (hpl : d.past.length ≤ 1000) (kd h : Int) (hm : decide (h ∈ c.knows) = false) :
  Calls Tryd.prog 93 #[c.val, d.val, Ev.val ⟨kd, ch, h, n, p⟩] w (RetCh G i w fun c' => c' = c) := by
 have HC := hH hc; have HD := hH hd; clear hc hd; have HBC := hH ((((Box.new w (w.heap.size) (by simp) 94 (chC c)).alloc (.cells (chC d) 94)).alloc (.cells (evC kd ch h n p) 102)).alloc (.cells zC13 94)); have HBO := hH (((Box.new (w.alloc (.cells (chC c) 94)) (w.heap.size + 1) (by simp) 94 (chC d)).alloc (.cells (evC kd ch h n p) 102)).alloc (.cells zC13 94)); have HBE := hH ((Box.new ((w.alloc (.cells (chC c) 94)).alloc (.cells (chC d) 94)) (w.heap.size + 1 + 1) (by simp) 102 (evC kd ch h n p)).alloc (.cells zC13 94)); have HBZ := hH (Box.new (((w.alloc (.cells (chC c) 94)).alloc (.cells (chC d) 94)).alloc (.cells (evC kd ch h n p) 102)) (w.heap.size + 1 + 1 + 1) (by simp) 94 zC13); have HK := hH (((((Keeps.refl (noBlk) w).alloc (.cells (chC c) 94)).alloc (.cells (chC d) 94)).alloc (.cells (evC kd ch h n p) 102)).alloc (.cells zC13 94))
 have hsz : w.heap.size + 4 ≤ ((((w.alloc (.cells (chC c) 94)).alloc (.cells (chC d) 94)).alloc (.cells (evC kd ch h n p) 102)).alloc (.cells zC13 94)).heap.size := by simp
 have HAM := hH (fun W (hk : Keeps noBlk w W) => (show Calls Tryd.prog 100 #[.slice c.kA c.knows.length c.kc, .int .i64 h] W (fun e w' => e = .returned (.bool false) ∧ Keeps noBlk W w') from by rw [← hm]; exact l21Among_any c.kA c.kc c.knows h W (owns_ints (HC.out.kept hk).2.2.2.2.1) (by unfold maxLen; omega))); clear hm; unfold ChM.val Ev.val; dsimp only
 go_enter Tryd.func93, Tryd.ntmps93
 go_wp2_with fail; refine (HAM.out _ HK.out).mono ?_; rintro e w1 ⟨rfl, hk1⟩; replace HBC := hH (HBC.out.keeps hk1 (fun h => h)); replace HBO := hH (HBO.out.keeps hk1 (fun h => h)); replace HBE := hH (HBE.out.keeps hk1 (fun h => h)); replace HBZ := hH (HBZ.out.keeps hk1 (fun h => h)); replace HK := hH (HK.out.trans hk1); have hw1 := HBZ.out.lt; have hb := HBC.out; obtain ⟨C0, C1, C2, C3, C4, C5, C6, C7, C8, C9, C10, C11, C12⟩ := hb.cells13; have Cz := hb.lt; clear hb; have hb := HBZ.out; obtain ⟨Z0, Z1, Z2, Z3, Z4, Z5, Z6, Z7, Z8, Z9, Z10, Z11, Z12⟩ := hb.cells13; obtain ⟨Zf0, Zf1, Zf2, Zf3, Zf4, Zf5, Zf6, Zf7, Zf8, Zf9, Zf10, Zf11, Zf12⟩ := hb.fz13; have Zz := hb.lt; clear hb
 have hz3 : w.heap.size ≤ w.heap.size + 1 + 1 + 1 := by omega
 go_wp2; refine bodyPost_ret (v := .agg (chC c)) (by simp [results, Tryd.results93, go_sem, *]) rfl ?_; exact ch_no HC.out ((HK.out).new13 hz3)
theorem l21Relay_later (G : Nat → Nat) (i j : Nat) (c d : ChM) (ch n : Int) (p : Pk) (w : World) (hc : ChR G i w c) (hd : ChR G j w d) (hkl : c.knows.length ≤ 1000) (hpl : d.past.length ≤ 1000) (kd h : Int) (hm : decide (h ∈ c.knows) = true) (hl : (d.past.length : Int) < h) :
  Calls Tryd.prog 93 #[c.val, d.val, Ev.val ⟨kd, ch, h, n, p⟩] w (RetCh G i w fun c' => c' = c) := by
 have HC := hH hc; have HD := hH hd; clear hc hd; have HBC := hH ((((Box.new w (w.heap.size) (by simp) 94 (chC c)).alloc (.cells (chC d) 94)).alloc (.cells (evC kd ch h n p) 102)).alloc (.cells zC13 94)); have HBO := hH (((Box.new (w.alloc (.cells (chC c) 94)) (w.heap.size + 1) (by simp) 94 (chC d)).alloc (.cells (evC kd ch h n p) 102)).alloc (.cells zC13 94)); have HBE := hH ((Box.new ((w.alloc (.cells (chC c) 94)).alloc (.cells (chC d) 94)) (w.heap.size + 1 + 1) (by simp) 102 (evC kd ch h n p)).alloc (.cells zC13 94)); have HBZ := hH (Box.new (((w.alloc (.cells (chC c) 94)).alloc (.cells (chC d) 94)).alloc (.cells (evC kd ch h n p) 102)) (w.heap.size + 1 + 1 + 1) (by simp) 94 zC13); have HK := hH (((((Keeps.refl (noBlk) w).alloc (.cells (chC c) 94)).alloc (.cells (chC d) 94)).alloc (.cells (evC kd ch h n p) 102)).alloc (.cells zC13 94))
 have hsz : w.heap.size + 4 ≤ ((((w.alloc (.cells (chC c) 94)).alloc (.cells (chC d) 94)).alloc (.cells (evC kd ch h n p) 102)).alloc (.cells zC13 94)).heap.size := by simp
 have HAM := hH (fun W (hk : Keeps noBlk w W) => (show Calls Tryd.prog 100 #[.slice c.kA c.knows.length c.kc, .int .i64 h] W (fun e w' => e = .returned (.bool true) ∧ Keeps noBlk W w') from by rw [← hm]; exact l21Among_any c.kA c.kc c.knows h W (owns_ints (HC.out.kept hk).2.2.2.2.1) (by unfold maxLen; omega))); clear hm; unfold ChM.val Ev.val; dsimp only
 have e1 : decide ((d.past.length : Int) < h) = true := by simpa using hl
 clear hl
 go_enter Tryd.func93, Tryd.ntmps93
 go_wp2_with fail; refine (HAM.out _ HK.out).mono ?_; rintro e w1 ⟨rfl, hk1⟩; replace HBC := hH (HBC.out.keeps hk1 (fun h => h)); replace HBO := hH (HBO.out.keeps hk1 (fun h => h)); replace HBE := hH (HBE.out.keeps hk1 (fun h => h)); replace HBZ := hH (HBZ.out.keeps hk1 (fun h => h)); replace HK := hH (HK.out.trans hk1); have hw1 := HBZ.out.lt; have hb := HBC.out; obtain ⟨C0, C1, C2, C3, C4, C5, C6, C7, C8, C9, C10, C11, C12⟩ := hb.cells13; have Cz := hb.lt; clear hb; have hb := HBO.out; have O11 := hb.cell 11; simp at O11; have Oz := hb.lt; clear hb; have hb := HBE.out; have E0 := hb.cell 0; have E2 := hb.cell 2; simp at E0 E2; have Ez := hb.lt; clear hb; have hb := HBZ.out; obtain ⟨Z0, Z1, Z2, Z3, Z4, Z5, Z6, Z7, Z8, Z9, Z10, Z11, Z12⟩ := hb.cells13; obtain ⟨Zf0, Zf1, Zf2, Zf3, Zf4, Zf5, Zf6, Zf7, Zf8, Zf9, Zf10, Zf11, Zf12⟩ := hb.fz13; have Zz := hb.lt; clear hb
 have hz3 : w.heap.size ≤ w.heap.size + 1 + 1 + 1 := by omega
 go_wp2; refine bodyPost_ret (v := .agg (chC c)) (by simp [results, Tryd.results93, go_sem, *]) rfl ?_; exact ch_no HC.out ((HK.out).new13 hz3)
end Go.Proofs.YtjcbeihoeanhaaaDoor
