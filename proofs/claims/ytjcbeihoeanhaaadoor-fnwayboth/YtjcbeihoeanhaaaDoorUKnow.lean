/- l21Among of the model: whether a number is among such. l21Know of the model: a chain knows a height of the other one. l21Know of the model: it is told. -/
import Derived.Test.YtjcbeihoeanhaaaDoorULate
set_option maxRecDepth 100000
set_option maxHeartbeats 4000000
set_option linter.unusedVariables false
set_option linter.unusedSimpArgs false
/-! GAmong -/
namespace Go.Proofs.YtjcbeihoeanhaaaDoor
open Go.RowKit

theorem among_yes {xs : List Int} {k : Nat} {n : Int} (hk : k < xs.length) (h : xs.getD k 0 = n) : n ∈ xs := by
 rw [List.getD_eq_getElem?_getD, List.getElem?_eq_getElem hk] at h; subst h; exact List.getElem_mem hk
theorem among_no {xs : List Int} {k : Nat} {n : Int} (hk : k < xs.length) (h : xs.getD k 0 ≠ n) (hn : n ∉ xs.take k) : n ∉ xs.take (k + 1) := by
 rw [List.take_add_one, List.getElem?_eq_getElem hk]; rw [List.getD_eq_getElem?_getD, List.getElem?_eq_getElem hk] at h; simp only [Option.toList_some, List.mem_append, List.mem_singleton, not_or]; exact ⟨hn, fun e => h e.symm⟩
theorem l21Among_any (A : Option Addr) (c : Nat) (xs : List Int) (n : Int) (w : World) (h : Ints w A xs.length xs) (hm : xs.length ≤ maxLen) :
  Calls Tryd.prog 100 #[.slice A xs.length c, .int .i64 n] w fun e w' => e = .returned (.bool (decide (n ∈ xs))) ∧ Keeps noBlk w w' := by
 have H := hH h; clear h; unfold maxLen at hm
 go_enter Tryd.func100, Tryd.ntmps100
 go_wp2
 go_loopw [5] (fun i wr => ∃ k : Nat, k ≤ xs.length ∧ i = .int .i64 k ∧ n ∉ xs.take k ∧ wr = w) (fun i _ => xs.length - (intOf i).toNat)
 case atStart => exact ⟨0, Nat.zero_le _, rfl, by simp, rfl⟩
 case round =>
  obtain ⟨k, hk, rfl, hn, rfl⟩ := hrel; have HN := hH hn; clear hn
  by_cases hlt : k < xs.length
  ·obtain ⟨b2, off2, rfl, e2, d2⟩ := H.out.at_ hlt
   have HY := hH (@among_yes xs k n hlt); have HO := hH (@among_no xs k n hlt); generalize xs.getD k 0 = v at d2 HY HO
   by_cases hv : v = n
   ·have e0 : (v == n) = true := by simp [hv]
    have HE := hH (HY.out hv); clear hv; go_wp2; go_ret; exact ⟨by simp [HE.out], Keeps.refl _ _⟩
   ·have e0 : (v == n) = false := by simp [hv]
    have HE := hH (HO.out hv HN.out); clear hv; go_wp2; exact ⟨⟨k + 1, by omega, by go_num, HE.out, by first | rfl | trivial⟩, by simp [intOf]; omega⟩
  ·obtain rfl : k = xs.length := by omega
   have HE := hH (show n ∉ xs by have := HN.out; rwa [List.take_length] at this); go_wp2; go_ret; exact ⟨by simp [HE.out], Keeps.refl _ _⟩

def below (xs : List Int) (h : Int) : List Int := xs.filter fun v => decide (v < h)
def over (xs : List Int) (h : Int) : List Int := xs.filter fun v => decide (h < v)
def knowL (xs : List Int) (n : Nat) (h : Int) : List Int := if 1 ≤ h ∧ h ≤ n ∧ h ∉ xs then below xs h ++ [h] ++ over xs h else xs
theorem filter_step (p : Int → Bool) {xs : List Int} {k : Nat} (hk : k < xs.length) : (xs.take (k + 1)).filter p = (xs.take k).filter p ++ (if p (xs.getD k 0) = true then [xs.getD k 0] else []) := by
 rw [List.take_add_one, List.getElem?_eq_getElem hk, List.getD_eq_getElem?_getD, List.getElem?_eq_getElem hk, List.filter_append]; simp only [Option.toList_some, Option.getD_some, List.filter_cons, List.filter_nil]
theorem filter_len (p : Int → Bool) (xs : List Int) (k : Nat) (hk : k ≤ xs.length) : ((xs.take k).filter p).length ≤ xs.length := Nat.le_trans (List.length_filter_le _ _) (by rw [List.length_take]; omega)
def knowP (c : ChM) (n : Nat) (h : Int) (c' : ChM) : Prop := ∃ A k, c' = { c with knows := knowL c.knows n h, kA := A, kc := k }
def RetKnow (G : Nat → Nat) (i : Nat) (w : World) (P : ChM → Prop) (e : Ending) (w' : World) : Prop :=
 ∃ (G' : Nat → Nat) (c : ChM), e = .returned c.val ∧ P c ∧ (∀ b, b < w.heap.size → G' b = G b) ∧ ChR G' i w' c ∧ Keeps noBlk w w'
theorem know_no {G : Nat → Nat} {i : Nat} {w W : World} {c : ChM} {n : Nat} {h : Int} (hn : ¬ (1 ≤ h ∧ h ≤ n ∧ h ∉ c.knows)) (hC : ChR G i w c) (hk : Keeps noBlk w W) : RetKnow G i w (knowP c n h) (.returned c.val) W :=
 ⟨G, c, rfl, ⟨c.kA, c.kc, by unfold knowL; rw [if_neg hn]⟩, fun _ _ => rfl, hC.kept hk, hk⟩
theorem know_yes {G : Nat → Nat} {i : Nat} {w W : World} {c : ChM} {n : Nat} {h : Int} {A : Option Addr} {k : Nat} (hn : 1 ≤ h ∧ h ≤ n ∧ h ∉ c.knows) (hC : ChR G i w c) (hk : Keeps noBlk w W)
  (ho : W.ownsRow 0 3 1 (.slice A (below c.knows h ++ [h] ++ over c.knows h).length k) (below c.knows h ++ [h] ++ over c.knows h).length (vIs (below c.knows h ++ [h] ++ over c.knows h)))
  (hf : ∀ g, (Value.slice A (below c.knows h ++ [h] ++ over c.knows h).length k).ownBlock = some g → w.heap.size ≤ g) :
  ∃ G' : Nat → Nat, (∀ b, b < w.heap.size → G' b = G b) ∧ ChR G' i W { c with knows := below c.knows h ++ [h] ++ over c.knows h, kA := A, kc := k } := by
 have hC' := (hC.ext (G' := up G w.heap.size 1) fun b hb => up_old hb).kept hk; exact ⟨up G w.heap.size 1, fun b hb => up_old hb, hC'.1, hC'.2.1, hC'.2.2.1, hC'.2.2.2.1, ho, fun g hg => up_new (hf g hg)⟩
def knTo (xs : List Int) (h : Int) (k : Nat) : List Int := below xs h ++ [h] ++ (xs.take k).filter fun v => decide (h < v)
theorem knTo_zero (xs : List Int) (h : Int) : knTo xs h 0 = below xs h ++ [h] := by simp [knTo]
theorem knTo_all (xs : List Int) (h : Int) : knTo xs h xs.length = below xs h ++ [h] ++ over xs h := by simp [knTo, over]
theorem knTo_yes {xs : List Int} {h : Int} {k : Nat} (hk : k < xs.length) (hv : h < xs.getD k 0) : knTo xs h (k + 1) = knTo xs h k ++ [xs.getD k 0] := by
 unfold knTo; rw [filter_step _ hk, if_pos (by simpa using hv), List.append_assoc _ _ [xs.getD k 0]]
theorem knTo_no {xs : List Int} {h : Int} {k : Nat} (hk : k < xs.length) (hv : ¬ h < xs.getD k 0) : knTo xs h (k + 1) = knTo xs h k := by
 unfold knTo; rw [filter_step _ hk, if_neg (by simpa using hv), List.append_nil]
theorem knTo_len (xs : List Int) (h : Int) (k : Nat) (hk : k ≤ xs.length) : (knTo xs h k).length ≤ 2 * xs.length + 1 := by
 have h1 := filter_len (fun v => decide (h < v)) xs k hk; have h2 : (below xs h).length ≤ xs.length := List.length_filter_le _ _; unfold knTo; simp only [List.length_append, List.length_singleton]
 omega
theorem l21Know_out (G : Nat → Nat) (i : Nat) (c d : ChM) (h : Int) (w : World) (hc : ChR G i w c) (hkl : c.knows.length ≤ 1000) (hpl : d.past.length ≤ 1000) (hb : in2 h 1 d.past.length = false) :
  Calls Tryd.prog 89 #[c.val, d.val, .int .i64 h] w (RetKnow G i w (knowP c d.past.length h)) := by
 have HC := hH hc; clear hc; have HBC := hH (((Box.new w (w.heap.size) (by simp) 94 (chC c)).alloc (.cells (chC d) 94)).alloc (.cells zC13 94)); have HBO := hH ((Box.new (w.alloc (.cells (chC c) 94)) (w.heap.size + 1) (by simp) 94 (chC d)).alloc (.cells zC13 94)); have HBZ := hH (Box.new ((w.alloc (.cells (chC c) 94)).alloc (.cells (chC d) 94)) (w.heap.size + 1 + 1) (by simp) 94 zC13); have HK := hH ((((Keeps.refl (noBlk) w).alloc (.cells (chC c) 94)).alloc (.cells (chC d) 94)).alloc (.cells zC13 94))
 have hsz : w.heap.size + 3 ≤ (((w.alloc (.cells (chC c) 94)).alloc (.cells (chC d) 94)).alloc (.cells zC13 94)).heap.size := by simp
 have HN := hH (show ¬ (1 ≤ h ∧ h ≤ d.past.length ∧ h ∉ c.knows) from fun k => by rw [in2_yes k.1 k.2.1] at hb; cases hb); have HIN := hH (fun W => (show Calls Tryd.prog 50 #[.int .i64 h, .int .i64 1, .int .i64 d.past.length] W (fun e w' => e = .returned (.bool false) ∧ W = w') from by rw [← hb]; exact l6In_any h 1 d.past.length W)); clear hb; unfold ChM.val
 (try dsimp only)
 go_enter Tryd.func89, Tryd.ntmps89
 go_wp2_with fail; refine (HIN.out _).mono ?_; rintro e _ ⟨rfl, rfl⟩; go_wp2; refine bodyPost_ret (v := .agg (chC c)) (by simp [results, Tryd.results89, go_sem, *]) rfl ?_; exact know_no HN.out HC.out ((((Keeps.refl _ _).alloc _).alloc _).alloc _)
theorem l21Know_known (G : Nat → Nat) (i : Nat) (c d : ChM) (h : Int) (w : World) (hc : ChR G i w c) (hkl : c.knows.length ≤ 1000) (hpl : d.past.length ≤ 1000) (hb : in2 h 1 d.past.length = true) (hm : decide (h ∈ c.knows) = true) :
  Calls Tryd.prog 89 #[c.val, d.val, .int .i64 h] w (RetKnow G i w (knowP c d.past.length h)) := by
 have HC := hH hc; clear hc; have HBC := hH (((Box.new w (w.heap.size) (by simp) 94 (chC c)).alloc (.cells (chC d) 94)).alloc (.cells zC13 94)); have HBO := hH ((Box.new (w.alloc (.cells (chC c) 94)) (w.heap.size + 1) (by simp) 94 (chC d)).alloc (.cells zC13 94)); have HBZ := hH (Box.new ((w.alloc (.cells (chC c) 94)).alloc (.cells (chC d) 94)) (w.heap.size + 1 + 1) (by simp) 94 zC13); have HK := hH ((((Keeps.refl (noBlk) w).alloc (.cells (chC c) 94)).alloc (.cells (chC d) 94)).alloc (.cells zC13 94))
 have hsz : w.heap.size + 3 ≤ (((w.alloc (.cells (chC c) 94)).alloc (.cells (chC d) 94)).alloc (.cells zC13 94)).heap.size := by simp
 have HN := hH (show ¬ (1 ≤ h ∧ h ≤ d.past.length ∧ h ∉ c.knows) from fun k => k.2.2 (by simpa using hm)); have HIN := hH (fun W => (show Calls Tryd.prog 50 #[.int .i64 h, .int .i64 1, .int .i64 d.past.length] W (fun e w' => e = .returned (.bool true) ∧ W = w') from by rw [← hb]; exact l6In_any h 1 d.past.length W)); have HAM := hH (fun W (hk : Keeps noBlk w W) => (show Calls Tryd.prog 100 #[.slice c.kA c.knows.length c.kc, .int .i64 h] W (fun e w' => e = .returned (.bool true) ∧ Keeps noBlk W w') from by rw [← hm]; exact l21Among_any c.kA c.kc c.knows h W (owns_ints (HC.out.kept hk).2.2.2.2.1) (by unfold maxLen; omega))); clear hb hm; unfold ChM.val
 (try dsimp only)
 go_enter Tryd.func89, Tryd.ntmps89
 go_wp2_with fail; refine (HIN.out _).mono ?_; rintro e _ ⟨rfl, rfl⟩; go_wp2_with fail; refine (HAM.out _ HK.out).mono ?_; rintro e w1 ⟨rfl, hk1⟩; replace HBC := hH (HBC.out.keeps hk1 (fun h => h)); replace HBO := hH (HBO.out.keeps hk1 (fun h => h)); replace HBZ := hH (HBZ.out.keeps hk1 (fun h => h)); replace HK := hH (HK.out.trans hk1); have hb := HBC.out; obtain ⟨C0, C1, C2, C3, C4, C5, C6, C7, C8, C9, C10, C11, C12⟩ := hb.cells13; have Cz := hb.lt; clear hb; have hb := HBZ.out; obtain ⟨Z0, Z1, Z2, Z3, Z4, Z5, Z6, Z7, Z8, Z9, Z10, Z11, Z12⟩ := hb.cells13; obtain ⟨Zf0, Zf1, Zf2, Zf3, Zf4, Zf5, Zf6, Zf7, Zf8, Zf9, Zf10, Zf11, Zf12⟩ := hb.fz13; have Zz := hb.lt; clear hb
 have hz3 : w.heap.size ≤ w.heap.size + 1 + 1 := by omega
 go_wp2; refine bodyPost_ret (v := .agg (chC c)) (by simp [results, Tryd.results89, go_sem, *]) rfl ?_; exact know_no HN.out HC.out ((HK.out).new13 hz3)

theorem l21Know_new (G : Nat → Nat) (i : Nat) (c d : ChM) (h : Int) (w : World) (hc : ChR G i w c) (hkl : c.knows.length ≤ 1000) (hpl : d.past.length ≤ 1000) (hb : in2 h 1 d.past.length = true) (hm : decide (h ∈ c.knows) = false) :
  Calls Tryd.prog 89 #[c.val, d.val, .int .i64 h] w (RetKnow G i w (knowP c d.past.length h)) := by
 obtain ⟨id, bk, st, past, pA, pc, knows, kA, kc⟩ := c; dsimp only at *; have HC := hH hc; clear hc; have HBC := hH (((Box.new w (w.heap.size) (by simp) 94 #[.int .i64 id, .slice bk.A1 bk.b.own.length bk.c1, .slice bk.A2 bk.b.notes.length bk.c2, .int .i64 bk.b.locked, .int .i64 st.x.way, .int .i64 st.x.ver, .int .i64 st.x.want, .slice st.A1 st.x.sent.length st.c1, .slice st.A2 st.x.live.length st.c2, .slice st.A3 st.x.back.length st.c3, .slice st.A4 st.x.got.length st.c4, .slice pA past.length pc, .slice kA knows.length kc]).alloc (.cells (chC d) 94)).alloc (.cells zC13 94)); have HBO := hH ((Box.new (w.alloc (.cells #[.int .i64 id, .slice bk.A1 bk.b.own.length bk.c1, .slice bk.A2 bk.b.notes.length bk.c2, .int .i64 bk.b.locked, .int .i64 st.x.way, .int .i64 st.x.ver, .int .i64 st.x.want, .slice st.A1 st.x.sent.length st.c1, .slice st.A2 st.x.live.length st.c2, .slice st.A3 st.x.back.length st.c3, .slice st.A4 st.x.got.length st.c4, .slice pA past.length pc, .slice kA knows.length kc] 94)) (w.heap.size + 1) (by simp) 94 (chC d)).alloc (.cells zC13 94)); have HBZ := hH (Box.new ((w.alloc (.cells #[.int .i64 id, .slice bk.A1 bk.b.own.length bk.c1, .slice bk.A2 bk.b.notes.length bk.c2, .int .i64 bk.b.locked, .int .i64 st.x.way, .int .i64 st.x.ver, .int .i64 st.x.want, .slice st.A1 st.x.sent.length st.c1, .slice st.A2 st.x.live.length st.c2, .slice st.A3 st.x.back.length st.c3, .slice st.A4 st.x.got.length st.c4, .slice pA past.length pc, .slice kA knows.length kc] 94)).alloc (.cells (chC d) 94)) (w.heap.size + 1 + 1) (by simp) 94 zC13); have HK := hH ((((Keeps.refl (noBlk) w).alloc (.cells #[.int .i64 id, .slice bk.A1 bk.b.own.length bk.c1, .slice bk.A2 bk.b.notes.length bk.c2, .int .i64 bk.b.locked, .int .i64 st.x.way, .int .i64 st.x.ver, .int .i64 st.x.want, .slice st.A1 st.x.sent.length st.c1, .slice st.A2 st.x.live.length st.c2, .slice st.A3 st.x.back.length st.c3, .slice st.A4 st.x.got.length st.c4, .slice pA past.length pc, .slice kA knows.length kc] 94)).alloc (.cells (chC d) 94)).alloc (.cells zC13 94))
 have hsz : w.heap.size + 3 ≤ (((w.alloc (.cells #[.int .i64 id, .slice bk.A1 bk.b.own.length bk.c1, .slice bk.A2 bk.b.notes.length bk.c2, .int .i64 bk.b.locked, .int .i64 st.x.way, .int .i64 st.x.ver, .int .i64 st.x.want, .slice st.A1 st.x.sent.length st.c1, .slice st.A2 st.x.live.length st.c2, .slice st.A3 st.x.back.length st.c3, .slice st.A4 st.x.got.length st.c4, .slice pA past.length pc, .slice kA knows.length kc] 94)).alloc (.cells (chC d) 94)).alloc (.cells zC13 94)).heap.size := by simp
 have HN := hH (show 1 ≤ h ∧ h ≤ d.past.length ∧ h ∉ knows from ⟨(in2_parts hb).1, (in2_parts hb).2, by simpa using hm⟩); have HIN := hH (fun W => (show Calls Tryd.prog 50 #[.int .i64 h, .int .i64 1, .int .i64 d.past.length] W (fun e w' => e = .returned (.bool true) ∧ W = w') from by rw [← hb]; exact l6In_any h 1 d.past.length W)); have HAM := hH (fun W (hk : Keeps noBlk w W) => (show Calls Tryd.prog 100 #[.slice kA knows.length kc, .int .i64 h] W (fun e w' => e = .returned (.bool false) ∧ Keeps noBlk W w') from by rw [← hm]; exact l21Among_any kA kc knows h W (owns_ints (HC.out.kept hk).2.2.2.2.1) (by unfold maxLen; omega))); clear hb hm; unfold ChM.val
 (try dsimp only)
 go_enter Tryd.func89, Tryd.ntmps89
 go_wp2_with fail; refine (HIN.out _).mono ?_; rintro e _ ⟨rfl, rfl⟩; go_wp2_with fail; refine (HAM.out _ HK.out).mono ?_; rintro e w1 ⟨rfl, hk1⟩; replace HBC := hH (HBC.out.keeps hk1 (fun h => h)); replace HBO := hH (HBO.out.keeps hk1 (fun h => h)); replace HBZ := hH (HBZ.out.keeps hk1 (fun h => h)); replace HK := hH (HK.out.trans hk1); have hb := HBC.out; obtain ⟨C0, C1, C2, C3, C4, C5, C6, C7, C8, C9, C10, C11, C12⟩ := hb.cells13; have Cz := hb.lt; clear hb; have hb := HBZ.out; obtain ⟨Z0, Z1, Z2, Z3, Z4, Z5, Z6, Z7, Z8, Z9, Z10, Z11, Z12⟩ := hb.cells13; obtain ⟨Zf0, Zf1, Zf2, Zf3, Zf4, Zf5, Zf6, Zf7, Zf8, Zf9, Zf10, Zf11, Zf12⟩ := hb.fz13; have Zz := hb.lt; clear hb; have HE0 := hH (owns_lit0 w1 w1.heap.size rfl 3 1); replace HBC := hH (HBC.out.alloc (.cells #[] 3)); replace HBZ := hH (HBZ.out.alloc (.cells #[] 3)); have hh := HK.out.alloc (.cells #[] 3); clear HK HBO; have HK := hH hh; clear hh; have hs1 : w.heap.size + 1 + 1 < w1.heap.size := Zz; clear C0 C1 C2 C3 C4 C5 C6 C7 C8 C9 C10 C11 C12 Cz Z0 Z1 Z2 Z3 Z4 Z5 Z6 Z7 Z8 Z9 Z10 Z11 Z12 Zf0 Zf1 Zf2 Zf3 Zf4 Zf5 Zf6 Zf7 Zf8 Zf9 Zf10 Zf11 Zf12 Zz; go_wp2
 go_loopw [7, 8] (fun V i wr => ∃ k : Nat, k ≤ knows.length ∧ i = .int .i64 k ∧ wr.ownsRow 0 3 1 V ((knows.take k).filter (fun v => decide (v < h))).length (vIs ((knows.take k).filter (fun v => decide (v < h)))) ∧ (∀ g, V.ownBlock = some g → w1.heap.size ≤ g) ∧ Box wr (w.heap.size) 94 #[.int .i64 id, .slice bk.A1 bk.b.own.length bk.c1, .slice bk.A2 bk.b.notes.length bk.c2, .int .i64 bk.b.locked, .int .i64 st.x.way, .int .i64 st.x.ver, .int .i64 st.x.want, .slice st.A1 st.x.sent.length st.c1, .slice st.A2 st.x.live.length st.c2, .slice st.A3 st.x.back.length st.c3, .slice st.A4 st.x.got.length st.c4, .slice pA past.length pc, .slice kA knows.length kc] ∧ Box wr (w.heap.size + 1 + 1) 94 zC13 ∧ Keeps noBlk w wr ∧ w1.heap.size ≤ wr.heap.size) (fun _ i _ => knows.length - (intOf i).toNat)
 case atStart => exact ⟨0, Nat.zero_le _, rfl, HE0.out, fun g hg => by simp [Value.ownBlock] at hg; omega, HBC.out, HBZ.out, HK.out, by simp⟩
 case round =>
  obtain ⟨k, hk, rfl, hown, hlo, hbc, hbz, hkp, hsr⟩ := hrel; have hll := filter_len (fun v => decide (v < h)) knows k hk; have HO := hH hown; have HLO := hH hlo; have HBc := hH hbc; have HBz := hH hbz; have HKr := hH hkp; have C12 := hbc.cell 12; simp at C12; have Cz := hbc.lt; clear hown hlo hbc hbz hkp
  by_cases hlt : k < knows.length
  ·have HFS := hH (filter_step (fun v => decide (v < h)) hlt)
   obtain ⟨bb, off, rfl, e2, d2⟩ := (owns_ints (HC.out.kept HKr.out).2.2.2.2.1).at_ hlt; generalize knows.getD k 0 = v at d2 HFS
   by_cases hv : v < h
   ·have e0 : decide (v < h) = true := by simp [hv]
    have hfs := HFS.out; rw [if_pos (by simpa using hv)] at hfs; have HF2 := hH hfs; clear hfs hv HFS
    go_wp2_with (at_builtin; refine wpList_app1 _ rfl _ _ 25 rfl 3 (.int .i64 0) 1 8 Tryd.underlying25 info_int3 rfl (by decide) (by decide) _ _ _ rfl HO.out _ rfl #[.int .i64 v] _ rfl rfl rfl ?qd ?qe ?_)
    case qd => first | rfl | exact one_ints (xs := [v])
    case qe => omega
    intro A' c' w3 ho3 hk3 hf3; have HO3 := hH ho3; have HK3 := hH (HKr.out.then hk3 fun i hi h => by have := HLO.out i h; omega); have HBc3 := hH (HBc.out.keeps hk3 fun h => by have := HLO.out _ h; omega); have HBz3 := hH (HBz.out.keeps hk3 fun h => by have := HLO.out _ h; omega); have HLO3 := hH (fun g (hg : (Value.slice A' (((knows.take k).filter (fun v => decide (v < h))).length + 1) c').ownBlock = some g) => (show w1.heap.size ≤ g by rcases hf3 g hg with h | h; exact HLO.out g h; omega)); have hs3 := hk3.size; clear ho3 hk3 hf3; go_wp2; refine ⟨⟨k + 1, by omega, by go_num, ?_, HLO3.out, HBc3.out, HBz3.out, HK3.out, by omega⟩, by simp [intOf]; omega⟩; rw [HF2.out, List.length_append, vIs_snoc]; exact HO3.out
   ·have e0 : decide (v < h) = false := by simp [hv]
    have hfs := HFS.out; rw [if_neg (by simpa using hv), List.append_nil] at hfs; have HF2 := hH hfs; clear hfs hv HFS; go_wp2; refine ⟨⟨k + 1, by omega, by go_num, ?_, HLO.out, HBc.out, HBz.out, HKr.out, hsr⟩, by simp [intOf]; omega⟩; rw [HF2.out]; exact HO.out
  ·obtain rfl : k = knows.length := by omega
   have HOb := hH (show _ from HO.out); have HOb := hH (show wr.ownsRow 0 3 1 u7 (below knows h).length (vIs (below knows h)) from by have h9 := HO.out; rwa [List.take_length] at h9); have hbl : (below knows h).length ≤ knows.length := List.length_filter_le _ _
   go_wp2_with (at_builtin; refine wpList_app1 _ rfl _ _ 25 rfl 3 (.int .i64 0) 1 8 Tryd.underlying25 info_int3 rfl (by decide) (by decide) _ _ _ rfl HOb.out _ rfl #[.int .i64 h] _ rfl rfl rfl ?qd ?qe ?_)
   case qd => first | rfl | exact one_ints (xs := [h])
   case qe => omega
   intro A4 k4 w4 ho4 hk4 hf4; have HO4 := hH ho4; have HK4 := hH (HKr.out.then hk4 fun i hi h => by have := HLO.out i h; omega); have HBc4 := hH (HBc.out.keeps hk4 fun h => by have := HLO.out _ h; omega); have HBz4 := hH (HBz.out.keeps hk4 fun h => by have := HLO.out _ h; omega); have HLO4 := hH (fun g (hg : (Value.slice A4 ((below knows h).length + 1) k4).ownBlock = some g) => (show w1.heap.size ≤ g by rcases hf4 g hg with h | h; exact HLO.out g h; omega)); have hs4 := hk4.size; clear ho4 hk4 hf4 HO HOb HLO HBc HBz HKr C12 hll; clear Cz; go_wp2
   go_loopw [7, 9] (fun V i wr => ∃ k : Nat, k ≤ knows.length ∧ i = .int .i64 k ∧ wr.ownsRow 0 3 1 V (knTo knows h k).length (vIs (knTo knows h k)) ∧ (∀ g, V.ownBlock = some g → w1.heap.size ≤ g) ∧ Box wr (w.heap.size) 94 #[.int .i64 id, .slice bk.A1 bk.b.own.length bk.c1, .slice bk.A2 bk.b.notes.length bk.c2, .int .i64 bk.b.locked, .int .i64 st.x.way, .int .i64 st.x.ver, .int .i64 st.x.want, .slice st.A1 st.x.sent.length st.c1, .slice st.A2 st.x.live.length st.c2, .slice st.A3 st.x.back.length st.c3, .slice st.A4 st.x.got.length st.c4, .slice pA past.length pc, .slice kA knows.length kc] ∧ Box wr (w.heap.size + 1 + 1) 94 zC13 ∧ Keeps noBlk w wr ∧ w1.heap.size ≤ wr.heap.size) (fun _ i _ => knows.length - (intOf i).toNat)
   case atStart => exact ⟨0, Nat.zero_le _, rfl, by rw [knTo_zero, List.length_append, vIs_snoc]; exact HO4.out, HLO4.out, HBc4.out, HBz4.out, HK4.out, by omega⟩
   case round =>
    obtain ⟨k, hk, rfl, hown, hlo, hbc, hbz, hkp, hsr⟩ := hrel; have hll := knTo_len knows h k hk; have HO := hH hown; have HLO := hH hlo; have HBc := hH hbc; have HBz := hH hbz; have HKr := hH hkp; have C12 := hbc.cell 12; simp at C12; have Cz := hbc.lt; clear hown hlo hbc hbz hkp
    by_cases hlt : k < knows.length
    ·have HFY := hH (@knTo_yes knows h k hlt)
     have HFN := hH (@knTo_no knows h k hlt); obtain ⟨bb, off, rfl, e2, d2⟩ := (owns_ints (HC.out.kept HKr.out).2.2.2.2.1).at_ hlt; generalize knows.getD k 0 = v at d2 HFY HFN
     by_cases hv : h < v
     ·have e0 : decide (h < v) = true := by simp [hv]
      have HF2 := hH (HFY.out hv); clear hv HFY HFN
      go_wp2_with (at_builtin; refine wpList_app1 _ rfl _ _ 25 rfl 3 (.int .i64 0) 1 8 Tryd.underlying25 info_int3 rfl (by decide) (by decide) _ _ _ rfl HO.out _ rfl #[.int .i64 v] _ rfl rfl rfl ?qd ?qe ?_)
      case qd => first | rfl | exact one_ints (xs := [v])
      case qe => omega
      intro A' c' w3 ho3 hk3 hf3; have HO3 := hH ho3; have HK3 := hH (HKr.out.then hk3 fun i hi h => by have := HLO.out i h; omega); have HBc3 := hH (HBc.out.keeps hk3 fun h => by have := HLO.out _ h; omega); have HBz3 := hH (HBz.out.keeps hk3 fun h => by have := HLO.out _ h; omega); have HLO3 := hH (fun g (hg : (Value.slice A' ((knTo knows h k).length + 1) c').ownBlock = some g) => (show w1.heap.size ≤ g by rcases hf3 g hg with h | h; exact HLO.out g h; omega)); have hs3 := hk3.size; clear ho3 hk3 hf3; go_wp2; refine ⟨⟨k + 1, by omega, by go_num, ?_, HLO3.out, HBc3.out, HBz3.out, HK3.out, by omega⟩, by simp [intOf]; omega⟩; rw [HF2.out, List.length_append, vIs_snoc]; exact HO3.out
     ·have e0 : decide (h < v) = false := by simp [hv]
      have HF2 := hH (HFN.out hv); clear hv HFY HFN; go_wp2; refine ⟨⟨k + 1, by omega, by go_num, ?_, HLO.out, HBc.out, HBz.out, HKr.out, hsr⟩, by simp [intOf]; omega⟩; rw [HF2.out]; exact HO.out
    ·obtain rfl : k = knows.length := by omega
     have HOb := hH (show _ from HO.out); have HOf := hH (show wr.ownsRow 0 3 1 u7 (below knows h ++ [h] ++ over knows h).length (vIs (below knows h ++ [h] ++ over knows h)) from by have h9 := HO.out; rwa [knTo_all] at h9); obtain ⟨A, cc, rfl⟩ := (show Rw (fun _ => 0) 0 wr 3 1 u7 _ _ from ⟨HOf.out, fun _ _ => rfl⟩).shape; have hb := HBc.out; have x0 := hb.cell 0; have x1 := hb.cell 1; have x2 := hb.cell 2; have x3 := hb.cell 3; have x4 := hb.cell 4; have x5 := hb.cell 5; have x6 := hb.cell 6; have x7 := hb.cell 7; have x8 := hb.cell 8; have x9 := hb.cell 9; have x10 := hb.cell 10; have x11 := hb.cell 11; have x12 := hb.cell 12; have xf := hb.frozen 12; have hb2 := HBz.out; have y0 := hb2.cell 0; have yf0 := hb2.frozen 0; have y1 := hb2.cell 1; have yf1 := hb2.frozen 1; have y2 := hb2.cell 2; have yf2 := hb2.frozen 2; have y3 := hb2.cell 3; have yf3 := hb2.frozen 3; have y4 := hb2.cell 4; have yf4 := hb2.frozen 4; have y5 := hb2.cell 5; have yf5 := hb2.frozen 5; have y6 := hb2.cell 6; have yf6 := hb2.frozen 6; have y7 := hb2.cell 7; have yf7 := hb2.frozen 7; have y8 := hb2.cell 8; have yf8 := hb2.frozen 8; have y9 := hb2.cell 9; have yf9 := hb2.frozen 9; have y10 := hb2.cell 10; have yf10 := hb2.frozen 10; have y11 := hb2.cell 11; have yf11 := hb2.frozen 11; have y12 := hb2.cell 12; have yf12 := hb2.frozen 12; simp at x0 y0 x1 y1 x2 y2 x3 y3 x4 y4 x5 y5 x6 y6 x7 y7 x8 y8 x9 y9 x10 y10 x11 y11 x12 y12; clear hb hb2 C12; have zz := HBz.out.lt; generalize hfin : below knows h ++ [h] ++ over knows h = ks at HOf HLO; have HFI := hH hfin; clear hfin; go_wp2; refine bodyPost_ret (v := .agg #[.int .i64 id, .slice bk.A1 bk.b.own.length bk.c1, .slice bk.A2 bk.b.notes.length bk.c2, .int .i64 bk.b.locked, .int .i64 st.x.way, .int .i64 st.x.ver, .int .i64 st.x.want, .slice st.A1 st.x.sent.length st.c1, .slice st.A2 st.x.live.length st.c2, .slice st.A3 st.x.back.length st.c3, .slice st.A4 st.x.got.length st.c4, .slice pA past.length pc, .slice A ks.length cc]) (by simp [results, Tryd.results89, go_sem, *]) rfl ?_; have KO : Keeps (fun b => b < w1.heap.size) wr ((((((((((((((wr.setCell ⟨w.heap.size, 12, none⟩ (.slice A ks.length cc)).setCell ⟨w.heap.size + 1 + 1, 0, none⟩ (.int .i64 id)).setCell ⟨w.heap.size + 1 + 1, 1, none⟩ (.slice bk.A1 bk.b.own.length bk.c1)).setCell ⟨w.heap.size + 1 + 1, 2, none⟩ (.slice bk.A2 bk.b.notes.length bk.c2)).setCell ⟨w.heap.size + 1 + 1, 3, none⟩ (.int .i64 bk.b.locked)).setCell ⟨w.heap.size + 1 + 1, 4, none⟩ (.int .i64 st.x.way)).setCell ⟨w.heap.size + 1 + 1, 5, none⟩ (.int .i64 st.x.ver)).setCell ⟨w.heap.size + 1 + 1, 6, none⟩ (.int .i64 st.x.want)).setCell ⟨w.heap.size + 1 + 1, 7, none⟩ (.slice st.A1 st.x.sent.length st.c1)).setCell ⟨w.heap.size + 1 + 1, 8, none⟩ (.slice st.A2 st.x.live.length st.c2)).setCell ⟨w.heap.size + 1 + 1, 9, none⟩ (.slice st.A3 st.x.back.length st.c3)).setCell ⟨w.heap.size + 1 + 1, 10, none⟩ (.slice st.A4 st.x.got.length st.c4)).setCell ⟨w.heap.size + 1 + 1, 11, none⟩ (.slice pA past.length pc)).setCell ⟨w.heap.size + 1 + 1, 12, none⟩ (.slice A ks.length cc)) := ((Keeps.refl (fun b => b < w1.heap.size) wr).setCell (p := ⟨w.heap.size, 12, none⟩) (.inr (by dsimp only; omega)) _).put13 (w.heap.size + 1 + 1) (.inr (by first | omega | (dsimp only; omega)))
     have KN : Keeps noBlk w ((((((((((((((wr.setCell ⟨w.heap.size, 12, none⟩ (.slice A ks.length cc)).setCell ⟨w.heap.size + 1 + 1, 0, none⟩ (.int .i64 id)).setCell ⟨w.heap.size + 1 + 1, 1, none⟩ (.slice bk.A1 bk.b.own.length bk.c1)).setCell ⟨w.heap.size + 1 + 1, 2, none⟩ (.slice bk.A2 bk.b.notes.length bk.c2)).setCell ⟨w.heap.size + 1 + 1, 3, none⟩ (.int .i64 bk.b.locked)).setCell ⟨w.heap.size + 1 + 1, 4, none⟩ (.int .i64 st.x.way)).setCell ⟨w.heap.size + 1 + 1, 5, none⟩ (.int .i64 st.x.ver)).setCell ⟨w.heap.size + 1 + 1, 6, none⟩ (.int .i64 st.x.want)).setCell ⟨w.heap.size + 1 + 1, 7, none⟩ (.slice st.A1 st.x.sent.length st.c1)).setCell ⟨w.heap.size + 1 + 1, 8, none⟩ (.slice st.A2 st.x.live.length st.c2)).setCell ⟨w.heap.size + 1 + 1, 9, none⟩ (.slice st.A3 st.x.back.length st.c3)).setCell ⟨w.heap.size + 1 + 1, 10, none⟩ (.slice st.A4 st.x.got.length st.c4)).setCell ⟨w.heap.size + 1 + 1, 11, none⟩ (.slice pA past.length pc)).setCell ⟨w.heap.size + 1 + 1, 12, none⟩ (.slice A ks.length cc)) := (HKr.out.new (g := w.heap.size) (by omega) _ _).new13 (g := w.heap.size + 1 + 1) (by omega)
     have hof := owns_keeps HOf.out KO fun b hb e => by have := HLO.out b hb; omega
     have hlo := HLO.out; clear HO HOf HLO; have hks := HFI.out; subst hks; obtain ⟨G', hG, hCh⟩ := know_yes HN.out HC.out KN hof (fun g hg => by have := hlo g hg; omega); exact ⟨G', _, by simp [ChM.val], ⟨A, cc, by unfold knowL; rw [if_pos HN.out]⟩, hG, hCh, KN⟩
theorem l21Know_any (G : Nat → Nat) (i : Nat) (c d : ChM) (h : Int) (w : World) (hc : ChR G i w c) (hkl : c.knows.length ≤ 1000) (hpl : d.past.length ≤ 1000) :
  Calls Tryd.prog 89 #[c.val, d.val, .int .i64 h] w (RetKnow G i w (knowP c d.past.length h)) := by
 cases hb : in2 h 1 d.past.length with
 | false => exact l21Know_out G i c d h w hc hkl hpl hb
 | true =>
  cases hm : decide (h ∈ c.knows) with
  | false => exact l21Know_new G i c d h w hc hkl hpl hb hm
  | true => exact l21Know_known G i c d h w hc hkl hpl hb hm
end Go.Proofs.YtjcbeihoeanhaaaDoor
