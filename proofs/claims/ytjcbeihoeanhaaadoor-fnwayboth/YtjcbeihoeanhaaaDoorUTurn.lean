/- l1List, l1Copy of the model. BankMove of the model answers as moved. l1Away and l1Back of the model, which turn a bank in place. -/
import Derived.Deep.RegionLawGrows
import Derived.OwnWalk
import Derived.Deep.RegionHeld3
import Derived.Test.YtjcbeihoeanhaaaDoorUBOk
set_option maxHeartbeats 2000000
set_option linter.unusedVariables false
set_option linter.unusedSimpArgs false
/-! Copy -/
namespace Go.Proofs.YtjcbeihoeanhaaaDoor
open Go.RowKit

def vInts (xs : List Int) : List Value := xs.map fun x => Value.int .i64 x
theorem vInts_length (xs : List Int) : (vInts xs).length = xs.length := by simp [vInts]
theorem vInts_get {xs : List Int} {j : Nat} {u : Value} (h : (vInts xs)[j]? = some u) : ∃ x, xs[j]? = some x ∧ u = .int .i64 x := by
 simp only [vInts, List.getElem?_map, Option.map_eq_some_iff] at h; obtain ⟨x, hx, rfl⟩ := h; exact ⟨x, hx, rfl⟩

theorem Row.of_owns {w : World} {lo e n : Nat} {v : Value} {xs : List Int} (h : w.ownsRow lo e 1 v n (vInts xs)) (hn : 0 < n) :
  ∃ g cap, v = .slice (some ⟨g, 0, none⟩) n cap ∧ Row w lo (some ⟨g, 0, none⟩) n xs ∧ lo ≤ g ∧ g < w.heap.size ∧ n ≤ cap ∧ cap ≤ maxLen := by
 obtain ⟨hl, h2⟩ := h
 rcases h2 with ⟨_, h0⟩ | ⟨g, cap, cur, rfl, hb, hg, hc, hm, hs, ht⟩
 ·omega
 ·have hbx : Box w g e cur := hg
  have hcell : ∀ (j : Nat) (x : Int), xs[j]? = some x → w.cell? ⟨g, 0 + j, none⟩ = some (.int .i64 x) := by
   intro j x hx; rw [Nat.zero_add, hbx.cell j]
   have hj : j < n := by
    have := (List.getElem?_eq_some_iff.1 hx).1; rw [vInts_length] at hl
    omega
   have : (cur.toList.take (n * 1))[j]? = (vInts xs)[j]? := by rw [ht]
   rw [List.getElem?_take_of_lt (by omega)] at this; simp only [vInts, List.getElem?_map, hx, Option.map_some] at this
   simpa using this
  refine ⟨g, cap, rfl, ⟨⟨by rw [vInts_length] at hl; omega, fun _ => ⟨g, 0, rfl, hbx.lt, hcell⟩⟩, fun _ => ⟨g, 0, rfl, hb, fun j _ => by rw [Nat.zero_add]; exact hbx.frozen j⟩⟩, hb, hbx.lt, hc, hm⟩

theorem step_copy {ops : Array Oper} {o : Oper} {a : Act} {w : World} {K : Act → World → Prop} {Q : Exit → Act → World → Prop} {E : Prop}
  (hg : o.guard = none) (s x : Operand) (hop : o.op = Op.call { callee := Callee.builtin Builtin.append, args := #[s, x], argTypes := #[ 25, 25 ] })
  (ao : Addr) (hs : a.eval s = .slice (some ao) 0 0) (A : Option Addr) (m c : Nat) (hx : a.eval x = .slice A m c) (xs : List Int) (hi : Ints w A m xs) (hm : 0 < m) (hm2 : m ≤ 1000)
  (hK : ∀ g cap w', Row w' w.heap.size (some ⟨g, 0, none⟩) m xs → w.heap.size ≤ g → g < w'.heap.size → Keeps noBlk w w' → m ≤ cap → cap ≤ maxLen → K (a.put o.dst (.slice (some ⟨g, 0, none⟩) m cap)) w') :
  if Region.wanted o (yielded ops a.tmps) = true then Oper.wp Tryd.prog o a w K Q else E := by
 obtain ⟨i0, hi0, hz0, hz1, hz2⟩ := info_parts info_int; obtain ⟨hl, h2⟩ := hi; obtain ⟨b, off, rfl, hb, hc⟩ := h2 hm
 refine step_append_grows (P := Tryd.prog) hg s x 25 hop 3 i0 (.int .i64 0) 1 8 Tryd.underlying25 hi0 hz0 hz1 hz2 rfl (by omega) (some ao) 0 0 [] hs (by simp) (by simp) (by simp)
  ⟨b, off, none⟩ m c (vInts xs) hx (by rw [vInts_length]; omega) (fun j u hu => ?_) (fun u hu => ?_) (by omega) (by simp only [maxLen]; omega) (by omega) fun v' w' hown hgr => ?_
 ·obtain ⟨y, hy, rfl⟩ := vInts_get hu
  have := hc j y hy
  by_cases h0 : j = 0
  ·subst h0
   simpa [Addr.add] using this
  ·simpa [Addr.add, h0] using this
 ·simp only [vInts, List.mem_map] at hu
  obtain ⟨y, _, rfl⟩ := hu
  rfl
 ·rw [List.nil_append, Nat.zero_add] at hown
  obtain ⟨g, cap, rfl, hr, h1, h2, h3, h4⟩ := Row.of_owns hown hm; exact hK g cap w' hr h1 h2 ((Keeps.of_grown hgr).more fun b _ h => by cases h) h3 h4

theorem l1List_own (A1 A2 : Option Addr) (n1 n2 c1 c2 : Nat) (L : Int) (w : World) :
  Calls Tryd.prog 103 #[.agg #[.slice A1 n1 c1, .slice A2 n2 c2, .int .i64 L], .int .i64 1] w fun e w' => e = .returned (.slice A1 n1 c1) ∧ w' = w.alloc (.cells #[.slice A1 n1 c1, .slice A2 n2 c2, .int .i64 L] 91) := by
 go_enter Tryd.func103, Tryd.ntmps103
 go_wp2; go_ret; exact ⟨rfl, rfl⟩
theorem l1List_note (A1 A2 : Option Addr) (n1 n2 c1 c2 : Nat) (L : Int) (w : World) :
  Calls Tryd.prog 103 #[.agg #[.slice A1 n1 c1, .slice A2 n2 c2, .int .i64 L], .int .i64 2] w fun e w' => e = .returned (.slice A2 n2 c2) ∧ w' = w.alloc (.cells #[.slice A1 n1 c1, .slice A2 n2 c2, .int .i64 L] 91) := by
 go_enter Tryd.func103, Tryd.ntmps103
 go_wp2; go_ret; exact ⟨rfl, rfl⟩

theorem l1Copy_any (A1 A2 : Option Addr) (n1 n2 c1 c2 : Nat) (L : Int) (xs ys : List Int) (w : World) (ha1 : Ints w A1 n1 xs) (ha2 : Ints w A2 n2 ys) (p1 : 0 < n1) (p2 : 0 < n2) (m1 : n1 ≤ 1000) (m2 : n2 ≤ 1000) :
  Calls Tryd.prog 104 #[.agg #[.slice A1 n1 c1, .slice A2 n2 c2, .int .i64 L]] w (RetBank w ⟨xs, ys, L⟩) := by
 have HA1 := hH ha1; have HA2 := hH ha2; clear ha1 ha2
 go_enter Tryd.func104, Tryd.ntmps104
 go_wp2
 go_region_held3 (fun w' => w'.cell? ⟨w.heap.size, 0, none⟩ = some (.slice A1 n1 c1) ∧ w'.cell? ⟨w.heap.size, 1, none⟩ = some (.slice A2 n2 c2) ∧ w'.cell? ⟨w.heap.size, 2, none⟩ = some (.int .i64 L))
  (first | (go_keep; done) | ((try dsimp only); go_split_ands; (repeat' apply And.intro) <;> (first | assumption | (refine (hk2.cell ?_ (fun h => h)).trans ?_ <;> first | assumption | (simp; done) | (simp; omega) | (have h9 := hk1.size; simp at h9 ⊢; omega)) | (refine (hk1.cell ?_ (fun h => h)).trans ?_ <;> first | assumption | (simp; done) | (simp; omega) | (have h9 := hk2.size; simp at h9 ⊢; omega)))))
  (first | (refine step_copy rfl (.tmp 3) (.tmp 5) rfl _ (by rfl) A1 n1 c1 (by rfl) xs (by repeat (first | with_reducible exact HA1.out | with_reducible refine Ints.alloc ?_ _ | with_reducible refine Ints.drew ?_ | with_reducible refine Ints.keeps (S := noBlk) ?_ hk2 (fun _ _ h => h))) p1 m1 ?_; intro g1 cap1 w1 hr1 hg1 hl1 hk1 hc1 hm1; have hB : Box w1 (w.heap.size + 1) 91 #[.slice none 0 0, .slice none 0 0, .int .i64 0] := (by refine Box.keeps ?_ hk1 (fun h => h); repeat (first | with_reducible exact Box.new (w.alloc _) (w.heap.size + 1) (by simp) _ _ | with_reducible refine Box.alloc ?_ _ | with_reducible refine Box.drew ?_ | with_reducible refine Box.keeps ?_ hk2 (fun h => h))); have s0 := hB.cell 0; have s1 := hB.cell 1; have s2 := hB.cell 2; have s3 := hB.frozen 0; have s4 := hB.frozen 1; have s5 := hB.frozen 2; simp at s0 s1 s2; have HB := hH hB; clear hB) | (refine step_copy rfl (.tmp 7) (.tmp 9) rfl _ (by rfl) A2 n2 c2 (by rfl) ys (by repeat (first | with_reducible exact HA2.out | with_reducible refine Ints.alloc ?_ _ | with_reducible refine Ints.drew ?_ | with_reducible refine Ints.keeps (S := noBlk) ?_ hk1 (fun _ _ h => h))) p2 m2 ?_; intro g2 cap2 w2 hr2 hg2 hl2 hk2 hc2 hm2; have hB : Box w2 (w.heap.size + 1) 91 #[.slice none 0 0, .slice none 0 0, .int .i64 0] := (by refine Box.keeps ?_ hk2 (fun h => h); repeat (first | with_reducible exact Box.new (w.alloc _) (w.heap.size + 1) (by simp) _ _ | with_reducible refine Box.alloc ?_ _ | with_reducible refine Box.drew ?_ | with_reducible refine Box.keeps ?_ hk1 (fun h => h))); have s0 := hB.cell 0; have s1 := hB.cell 1; have s2 := hB.cell 2; have s3 := hB.frozen 0; have s4 := hB.frozen 1; have s5 := hB.frozen 2; simp at s0 s1 s2; have HB := hH hB; clear hB))
 all_goals
  have hr1' : Row w1 w.heap.size (some ⟨g1, 0, none⟩) n1 xs := hr1.less (by simp; omega)
  have hR1 : Row w2 w.heap.size (some ⟨g1, 0, none⟩) n1 xs := by
   refine Row.keeps ?_ hk2 (fun _ _ h => h)
   repeat (first | with_reducible exact hr1' | with_reducible refine Row.alloc ?_ _ | with_reducible refine Row.drew ?_)
  have hR2 : Row w2 w.heap.size (some ⟨g2, 0, none⟩) n2 ys := hr2.less (by have h9 := hk1.size; simp at h9; (try simp); omega)
  have hne : ¬ g1 = g2 := by (try simp at hg2); omega
  have h11 : ¬ g1 = w.heap.size + 1 := by have h9 := hg1; simp at h9; omega
  have h21 : ¬ g2 = w.heap.size + 1 := by have h9 := hk1.size; have h8 := hg2; simp at h9; (try simp at h8); omega
  have hK2 : Keeps noBlk w w2 := by
   refine Keeps.trans ?_ hk2
   repeat (first | with_reducible exact Keeps.refl _ _ | with_reducible refine Keeps.alloc ?_ _ | with_reducible refine Keeps.drew ?_ | with_reducible refine Keeps.trans ?_ hk1)
  have HR1 := hH hR1; have HR2 := hH hR2; have HK2 := hH hK2; clear hR1 hR2 hK2 hr1 hr1' hr2 hk1 hk2 HB; go_wp2; refine bodyPost_ret (v := .agg #[.slice (some ⟨g1, 0, none⟩) n1 cap1, .slice (some ⟨g2, 0, none⟩) n2 cap2, .int .i64 L]) (by simp [results, Tryd.results104, go_sem, *]) rfl ?_
  have b1 : ¬ blk (some ⟨g1, 0, none⟩) n1 (w.heap.size + 1) := fun h => h11 (blk_some h)
  have b2 : ¬ blk (some ⟨g2, 0, none⟩) n2 (w.heap.size + 1) := fun h => h21 (blk_some h)
  refine ⟨_, rfl, ⟨_, _, _, _, _, _, rfl, ((HR1.out.far b1 _).far b1 _).far b1 _, ((HR2.out.far b2 _).far b2 _).far b2 _, fun i x y => hne ((blk_some x).trans (blk_some y).symm), hc1, hc2, hm1, hm2⟩, ?_⟩; exact ((HK2.out.new (by omega) _ _).new (by omega) _ _).new (by omega) _ _

theorem l1User_bk (x : Int) (w : World) : Calls Tryd.prog 63 #[.int .i64 x] w fun e w' => e = .returned (.bool (userB x)) ∧ w = w' := by
 go_enter Tryd.func63, Tryd.ntmps63
 go_wp2_with fail; refine (l6In_bk x 1 3 _).mono ?_; rintro e w' ⟨rfl, rfl⟩; go_wp2; go_ret; exact ⟨rfl, rfl⟩
theorem l6In_kind (x : Int) (w : World) : Calls Tryd.prog 50 #[.int .i64 x, .int .i64 1, .int .i64 2] w fun e w' => e = .returned (.bool (kindB x)) ∧ w = w' := l6In_bk x 1 2 w

def RetNo (w : World) (e : Ending) (w' : World) : Prop := e = .returned (.tuple #[noBank, .bool false]) ∧ Keeps noBlk w w'

theorem specMove_f1 (A1 A2 : Option Addr) (n1 n2 c1 c2 : Nat) (L : Int) (xs ys : List Int) (w : World) (ha1 : Ints w A1 n1 xs) (ha2 : Ints w A2 n2 ys)
  (h1 : n1 ≤ maxLen) (h2 : n2 ≤ maxLen) (hL : L ≤ 9223372036854775807) (kd fr to sm : Int) (q1 : okB ⟨xs, ys, L⟩ = false) :
  Calls Tryd.prog 91 #[.agg #[.slice A1 n1 c1, .slice A2 n2 c2, .int .i64 L], .int .i64 kd, .int .i64 fr, .int .i64 to, .int .i64 sm] w (RetNo w) := by
 have HA1 := hH ha1; have HA2 := hH ha2; clear ha1 ha2
 go_enter Tryd.func91, Tryd.ntmps91
 go_wp2_with fail; refine (specOk_any A1 A2 n1 n2 _ _ L xs ys _ ((HA1.out.alloc _).alloc _) ((HA2.out.alloc _).alloc _) h1 h2 hL).mono ?_; rintro e w1 ⟨rfl, hk1⟩
 have hb5 := ((Box.new w _ rfl 91 #[.slice A1 n1 c1, .slice A2 n2 c2, .int .i64 L]).alloc (.cells #[.slice none 0 0, .slice none 0 0, .int .i64 0] 91)).keeps hk1 fun h => h
 have hb6 := (Box.new (w.alloc (.cells #[.slice A1 n1 c1, .slice A2 n2 c2, .int .i64 L] 91)) (w.heap.size + 1) (by simp) 91 #[.slice none 0 0, .slice none 0 0, .int .i64 0]).keeps hk1 fun h => h
 have a0 := hb5.cell 0; have a1 := hb5.cell 1; have a2 := hb5.cell 2; have r0 := hb6.cell 0; have r1 := hb6.cell 1; have r2 := hb6.cell 2; obtain ⟨f0, f1, f2⟩ := hb6.fz3; simp at a0 a1 a2 r0 r1 r2; have hz : w.heap.size + 1 < w1.heap.size := hb6.lt
 have hz0 : w.heap.size < w1.heap.size := by omega
 have HB5 := hH hb5; have HB6 := hH hb6; have HK1 := hH hk1; clear hb5 hb6 hk1; go_wp2; refine bodyPost_ret (v := .tuple #[noBank, .bool false]) (by simp [results, Tryd.results91, go_sem, noBank, r0, r1, r2, hz]) rfl ?_; exact ⟨rfl, (((((((Keeps.refl _ w).alloc _).alloc _).trans HK1.out).new (by omega) _ _).new (by omega) _ _).new (by omega) _ _)⟩

theorem specMove_f2 (A1 A2 : Option Addr) (n1 n2 c1 c2 : Nat) (L : Int) (xs ys : List Int) (w : World) (ha1 : Ints w A1 n1 xs) (ha2 : Ints w A2 n2 ys)
  (h1 : n1 ≤ maxLen) (h2 : n2 ≤ maxLen) (hL : L ≤ 9223372036854775807) (kd fr to sm : Int) (q1 : okB ⟨xs, ys, L⟩ = true) (q2 : kindB kd = false) :
  Calls Tryd.prog 91 #[.agg #[.slice A1 n1 c1, .slice A2 n2 c2, .int .i64 L], .int .i64 kd, .int .i64 fr, .int .i64 to, .int .i64 sm] w (RetNo w) := by
 have HA1 := hH ha1; have HA2 := hH ha2; clear ha1 ha2
 go_enter Tryd.func91, Tryd.ntmps91
 go_wp2_with fail; refine (specOk_any A1 A2 n1 n2 _ _ L xs ys _ ((HA1.out.alloc _).alloc _) ((HA2.out.alloc _).alloc _) h1 h2 hL).mono ?_; rintro e w1 ⟨rfl, hk1⟩
 have hb5 := ((Box.new w _ rfl 91 #[.slice A1 n1 c1, .slice A2 n2 c2, .int .i64 L]).alloc (.cells #[.slice none 0 0, .slice none 0 0, .int .i64 0] 91)).keeps hk1 fun h => h
 have hb6 := (Box.new (w.alloc (.cells #[.slice A1 n1 c1, .slice A2 n2 c2, .int .i64 L] 91)) (w.heap.size + 1) (by simp) 91 #[.slice none 0 0, .slice none 0 0, .int .i64 0]).keeps hk1 fun h => h
 have a0 := hb5.cell 0; have a1 := hb5.cell 1; have a2 := hb5.cell 2; have r0 := hb6.cell 0; have r1 := hb6.cell 1; have r2 := hb6.cell 2; obtain ⟨f0, f1, f2⟩ := hb6.fz3; simp at a0 a1 a2 r0 r1 r2; have hz : w.heap.size + 1 < w1.heap.size := hb6.lt
 have hz0 : w.heap.size < w1.heap.size := by omega
 have HB5 := hH hb5; have HB6 := hH hb6; have HK1 := hH hk1; clear hb5 hb6 hk1; go_wp2_with fail; refine (l6In_kind kd _).mono ?_; rintro e w' ⟨rfl, rfl⟩; go_wp2; refine bodyPost_ret (v := .tuple #[noBank, .bool false]) (by simp [results, Tryd.results91, go_sem, noBank, r0, r1, r2, hz]) rfl ?_; exact ⟨rfl, (((((((Keeps.refl _ w).alloc _).alloc _).trans HK1.out).new (by omega) _ _).new (by omega) _ _).new (by omega) _ _)⟩

theorem specMove_f3 (A1 A2 : Option Addr) (n1 n2 c1 c2 : Nat) (L : Int) (xs ys : List Int) (w : World) (ha1 : Ints w A1 n1 xs) (ha2 : Ints w A2 n2 ys)
  (h1 : n1 ≤ maxLen) (h2 : n2 ≤ maxLen) (hL : L ≤ 9223372036854775807) (kd fr to sm : Int) (q1 : okB ⟨xs, ys, L⟩ = true) (q2 : kindB kd = true) (q3 : userB fr = false) :
  Calls Tryd.prog 91 #[.agg #[.slice A1 n1 c1, .slice A2 n2 c2, .int .i64 L], .int .i64 kd, .int .i64 fr, .int .i64 to, .int .i64 sm] w (RetNo w) := by
 have HA1 := hH ha1; have HA2 := hH ha2; clear ha1 ha2
 go_enter Tryd.func91, Tryd.ntmps91
 go_wp2_with fail; refine (specOk_any A1 A2 n1 n2 _ _ L xs ys _ ((HA1.out.alloc _).alloc _) ((HA2.out.alloc _).alloc _) h1 h2 hL).mono ?_; rintro e w1 ⟨rfl, hk1⟩
 have hb5 := ((Box.new w _ rfl 91 #[.slice A1 n1 c1, .slice A2 n2 c2, .int .i64 L]).alloc (.cells #[.slice none 0 0, .slice none 0 0, .int .i64 0] 91)).keeps hk1 fun h => h
 have hb6 := (Box.new (w.alloc (.cells #[.slice A1 n1 c1, .slice A2 n2 c2, .int .i64 L] 91)) (w.heap.size + 1) (by simp) 91 #[.slice none 0 0, .slice none 0 0, .int .i64 0]).keeps hk1 fun h => h
 have a0 := hb5.cell 0; have a1 := hb5.cell 1; have a2 := hb5.cell 2; have r0 := hb6.cell 0; have r1 := hb6.cell 1; have r2 := hb6.cell 2; obtain ⟨f0, f1, f2⟩ := hb6.fz3; simp at a0 a1 a2 r0 r1 r2; have hz : w.heap.size + 1 < w1.heap.size := hb6.lt
 have hz0 : w.heap.size < w1.heap.size := by omega
 have HB5 := hH hb5; have HB6 := hH hb6; have HK1 := hH hk1; clear hb5 hb6 hk1; go_wp2_with fail; refine (l6In_kind kd _).mono ?_; rintro e w' ⟨rfl, rfl⟩; go_wp2_with fail; refine (l1User_bk fr _).mono ?_; rintro e w' ⟨rfl, rfl⟩; go_wp2; refine bodyPost_ret (v := .tuple #[noBank, .bool false]) (by simp [results, Tryd.results91, go_sem, noBank, r0, r1, r2, hz]) rfl ?_; exact ⟨rfl, (((((((Keeps.refl _ w).alloc _).alloc _).trans HK1.out).new (by omega) _ _).new (by omega) _ _).new (by omega) _ _)⟩

theorem specMove_f4 (A1 A2 : Option Addr) (n1 n2 c1 c2 : Nat) (L : Int) (xs ys : List Int) (w : World) (ha1 : Ints w A1 n1 xs) (ha2 : Ints w A2 n2 ys)
  (h1 : n1 ≤ maxLen) (h2 : n2 ≤ maxLen) (hL : L ≤ 9223372036854775807) (kd fr to sm : Int) (q1 : okB ⟨xs, ys, L⟩ = true) (q2 : kindB kd = true) (q3 : userB fr = true) (q4 : userB to = false) :
  Calls Tryd.prog 91 #[.agg #[.slice A1 n1 c1, .slice A2 n2 c2, .int .i64 L], .int .i64 kd, .int .i64 fr, .int .i64 to, .int .i64 sm] w (RetNo w) := by
 have HA1 := hH ha1; have HA2 := hH ha2; clear ha1 ha2
 go_enter Tryd.func91, Tryd.ntmps91
 go_wp2_with fail; refine (specOk_any A1 A2 n1 n2 _ _ L xs ys _ ((HA1.out.alloc _).alloc _) ((HA2.out.alloc _).alloc _) h1 h2 hL).mono ?_; rintro e w1 ⟨rfl, hk1⟩
 have hb5 := ((Box.new w _ rfl 91 #[.slice A1 n1 c1, .slice A2 n2 c2, .int .i64 L]).alloc (.cells #[.slice none 0 0, .slice none 0 0, .int .i64 0] 91)).keeps hk1 fun h => h
 have hb6 := (Box.new (w.alloc (.cells #[.slice A1 n1 c1, .slice A2 n2 c2, .int .i64 L] 91)) (w.heap.size + 1) (by simp) 91 #[.slice none 0 0, .slice none 0 0, .int .i64 0]).keeps hk1 fun h => h
 have a0 := hb5.cell 0; have a1 := hb5.cell 1; have a2 := hb5.cell 2; have r0 := hb6.cell 0; have r1 := hb6.cell 1; have r2 := hb6.cell 2; obtain ⟨f0, f1, f2⟩ := hb6.fz3; simp at a0 a1 a2 r0 r1 r2; have hz : w.heap.size + 1 < w1.heap.size := hb6.lt
 have hz0 : w.heap.size < w1.heap.size := by omega
 have HB5 := hH hb5; have HB6 := hH hb6; have HK1 := hH hk1; clear hb5 hb6 hk1; go_wp2_with fail; refine (l6In_kind kd _).mono ?_; rintro e w' ⟨rfl, rfl⟩; go_wp2_with fail; refine (l1User_bk fr _).mono ?_; rintro e w' ⟨rfl, rfl⟩; go_wp2_with fail; refine (l1User_bk to _).mono ?_; rintro e w' ⟨rfl, rfl⟩; go_wp2; refine bodyPost_ret (v := .tuple #[noBank, .bool false]) (by simp [results, Tryd.results91, go_sem, noBank, r0, r1, r2, hz]) rfl ?_; exact ⟨rfl, (((((((Keeps.refl _ w).alloc _).alloc _).trans HK1.out).new (by omega) _ _).new (by omega) _ _).new (by omega) _ _)⟩

theorem specMove_f5 (A1 A2 : Option Addr) (n1 n2 c1 c2 : Nat) (L : Int) (xs ys : List Int) (w : World) (ha1 : Ints w A1 n1 xs) (ha2 : Ints w A2 n2 ys)
  (h1 : n1 ≤ maxLen) (h2 : n2 ≤ maxLen) (hL : L ≤ 9223372036854775807) (kd fr to sm : Int) (q1 : okB ⟨xs, ys, L⟩ = true) (q2 : kindB kd = true) (q3 : userB fr = true) (q4 : userB to = true) (q5 : decide (sm < 0) = true) :
  Calls Tryd.prog 91 #[.agg #[.slice A1 n1 c1, .slice A2 n2 c2, .int .i64 L], .int .i64 kd, .int .i64 fr, .int .i64 to, .int .i64 sm] w (RetNo w) := by
 have HA1 := hH ha1; have HA2 := hH ha2; clear ha1 ha2
 go_enter Tryd.func91, Tryd.ntmps91
 go_wp2_with fail; refine (specOk_any A1 A2 n1 n2 _ _ L xs ys _ ((HA1.out.alloc _).alloc _) ((HA2.out.alloc _).alloc _) h1 h2 hL).mono ?_; rintro e w1 ⟨rfl, hk1⟩
 have hb5 := ((Box.new w _ rfl 91 #[.slice A1 n1 c1, .slice A2 n2 c2, .int .i64 L]).alloc (.cells #[.slice none 0 0, .slice none 0 0, .int .i64 0] 91)).keeps hk1 fun h => h
 have hb6 := (Box.new (w.alloc (.cells #[.slice A1 n1 c1, .slice A2 n2 c2, .int .i64 L] 91)) (w.heap.size + 1) (by simp) 91 #[.slice none 0 0, .slice none 0 0, .int .i64 0]).keeps hk1 fun h => h
 have a0 := hb5.cell 0; have a1 := hb5.cell 1; have a2 := hb5.cell 2; have r0 := hb6.cell 0; have r1 := hb6.cell 1; have r2 := hb6.cell 2; obtain ⟨f0, f1, f2⟩ := hb6.fz3; simp at a0 a1 a2 r0 r1 r2; have hz : w.heap.size + 1 < w1.heap.size := hb6.lt
 have hz0 : w.heap.size < w1.heap.size := by omega
 have HB5 := hH hb5; have HB6 := hH hb6; have HK1 := hH hk1; clear hb5 hb6 hk1; go_wp2_with fail; refine (l6In_kind kd _).mono ?_; rintro e w' ⟨rfl, rfl⟩; go_wp2_with fail; refine (l1User_bk fr _).mono ?_; rintro e w' ⟨rfl, rfl⟩; go_wp2_with fail; refine (l1User_bk to _).mono ?_; rintro e w' ⟨rfl, rfl⟩; go_wp2; refine bodyPost_ret (v := .tuple #[noBank, .bool false]) (by simp [results, Tryd.results91, go_sem, noBank, r0, r1, r2, hz]) rfl ?_; exact ⟨rfl, (((((((Keeps.refl _ w).alloc _).alloc _).trans HK1.out).new (by omega) _ _).new (by omega) _ _).new (by omega) _ _)⟩

theorem specMove_f6_1 (A1 A2 : Option Addr) (n1 n2 c1 c2 : Nat) (L : Int) (xs ys : List Int) (w : World) (ha1 : Ints w A1 n1 xs) (ha2 : Ints w A2 n2 ys)
  (h1 : n1 ≤ maxLen) (h2 : n2 ≤ maxLen) (hL : L ≤ 9223372036854775807) (u : Nat) (to sm : Int) (q1 : okB ⟨xs, ys, L⟩ = true) (q3 : userB ((u : Int) + 1) = true) (q4 : userB to = true) (q5 : decide (sm < 0) = false) (q6 : xs.getD u 0 < sm) :
  Calls Tryd.prog 91 #[.agg #[.slice A1 n1 c1, .slice A2 n2 c2, .int .i64 L], .int .i64 1, .int .i64 ((u : Int) + 1), .int .i64 to, .int .i64 sm] w (RetNo w) := by
 have q2 : kindB 1 = true := rfl; have hu := user_range q3; have hl := lst_len q1 1
 have hun : (u : Int) < (n1 : Int) := by have := (ha1).1; simp [lst] at hl; omega
 have HA1 := hH ha1; have HA2 := hH ha2; clear ha1 ha2
 go_enter Tryd.func91, Tryd.ntmps91
 go_wp2_with fail; refine (specOk_any A1 A2 n1 n2 _ _ L xs ys _ ((HA1.out.alloc _).alloc _) ((HA2.out.alloc _).alloc _) h1 h2 hL).mono ?_; rintro e w1 ⟨rfl, hk1⟩
 have hb5 := ((Box.new w _ rfl 91 #[.slice A1 n1 c1, .slice A2 n2 c2, .int .i64 L]).alloc (.cells #[.slice none 0 0, .slice none 0 0, .int .i64 0] 91)).keeps hk1 fun h => h
 have hb6 := (Box.new (w.alloc (.cells #[.slice A1 n1 c1, .slice A2 n2 c2, .int .i64 L] 91)) (w.heap.size + 1) (by simp) 91 #[.slice none 0 0, .slice none 0 0, .int .i64 0]).keeps hk1 fun h => h
 have a0 := hb5.cell 0; have a1 := hb5.cell 1; have a2 := hb5.cell 2; have r0 := hb6.cell 0; have r1 := hb6.cell 1; have r2 := hb6.cell 2; obtain ⟨f0, f1, f2⟩ := hb6.fz3; simp at a0 a1 a2 r0 r1 r2; have hz : w.heap.size + 1 < w1.heap.size := hb6.lt
 have hz0 : w.heap.size < w1.heap.size := by omega
 have HB5 := hH hb5; have HB6 := hH hb6; have HK1 := hH hk1; clear hb5 hb6 hk1; go_wp2_with fail; refine (l6In_kind 1 _).mono ?_; rintro e w' ⟨rfl, rfl⟩; go_wp2_with fail; refine (l1User_bk _ _).mono ?_; rintro e w' ⟨rfl, rfl⟩; go_wp2_with fail; refine (l1User_bk to _).mono ?_; rintro e w' ⟨rfl, rfl⟩; obtain ⟨b, off, rfl, hb, hc⟩ := (((HA1.out.alloc _).alloc _).keeps HK1.out fun _ _ h => h).at_ (k := u) (by omega)
 have d6 : decide (xs.getD u 0 < sm) = true := by simpa using q6
 generalize xs.getD u 0 = y at hc d6 q6; go_wp2_with fail; refine (l1List_own _ _ n1 n2 _ _ L _).mono ?_; rintro e w' ⟨rfl, rfl⟩; go_wp2; refine bodyPost_ret (v := .tuple #[noBank, .bool false]) (by simp [results, Tryd.results91, go_sem, noBank, r0, r1, r2, hz]) rfl ?_; exact ⟨rfl, (((((((Keeps.refl _ w).alloc _).alloc _).trans HK1.out).new (by omega) _ _).new (by omega) _ _).new (by omega) _ _).alloc _⟩

theorem specMove_f6_2 (A1 A2 : Option Addr) (n1 n2 c1 c2 : Nat) (L : Int) (xs ys : List Int) (w : World) (ha1 : Ints w A1 n1 xs) (ha2 : Ints w A2 n2 ys)
  (h1 : n1 ≤ maxLen) (h2 : n2 ≤ maxLen) (hL : L ≤ 9223372036854775807) (u : Nat) (to sm : Int) (q1 : okB ⟨xs, ys, L⟩ = true) (q3 : userB ((u : Int) + 1) = true) (q4 : userB to = true) (q5 : decide (sm < 0) = false) (q6 : ys.getD u 0 < sm) :
  Calls Tryd.prog 91 #[.agg #[.slice A1 n1 c1, .slice A2 n2 c2, .int .i64 L], .int .i64 2, .int .i64 ((u : Int) + 1), .int .i64 to, .int .i64 sm] w (RetNo w) := by
 have q2 : kindB 2 = true := rfl; have hu := user_range q3; have hl := lst_len q1 2
 have hun : (u : Int) < (n2 : Int) := by have := (ha2).1; simp [lst] at hl; omega
 have HA1 := hH ha1; have HA2 := hH ha2; clear ha1 ha2
 go_enter Tryd.func91, Tryd.ntmps91
 go_wp2_with fail; refine (specOk_any A1 A2 n1 n2 _ _ L xs ys _ ((HA1.out.alloc _).alloc _) ((HA2.out.alloc _).alloc _) h1 h2 hL).mono ?_; rintro e w1 ⟨rfl, hk1⟩
 have hb5 := ((Box.new w _ rfl 91 #[.slice A1 n1 c1, .slice A2 n2 c2, .int .i64 L]).alloc (.cells #[.slice none 0 0, .slice none 0 0, .int .i64 0] 91)).keeps hk1 fun h => h
 have hb6 := (Box.new (w.alloc (.cells #[.slice A1 n1 c1, .slice A2 n2 c2, .int .i64 L] 91)) (w.heap.size + 1) (by simp) 91 #[.slice none 0 0, .slice none 0 0, .int .i64 0]).keeps hk1 fun h => h
 have a0 := hb5.cell 0; have a1 := hb5.cell 1; have a2 := hb5.cell 2; have r0 := hb6.cell 0; have r1 := hb6.cell 1; have r2 := hb6.cell 2; obtain ⟨f0, f1, f2⟩ := hb6.fz3; simp at a0 a1 a2 r0 r1 r2; have hz : w.heap.size + 1 < w1.heap.size := hb6.lt
 have hz0 : w.heap.size < w1.heap.size := by omega
 have HB5 := hH hb5; have HB6 := hH hb6; have HK1 := hH hk1; clear hb5 hb6 hk1; go_wp2_with fail; refine (l6In_kind 2 _).mono ?_; rintro e w' ⟨rfl, rfl⟩; go_wp2_with fail; refine (l1User_bk _ _).mono ?_; rintro e w' ⟨rfl, rfl⟩; go_wp2_with fail; refine (l1User_bk to _).mono ?_; rintro e w' ⟨rfl, rfl⟩; obtain ⟨b, off, rfl, hb, hc⟩ := (((HA2.out.alloc _).alloc _).keeps HK1.out fun _ _ h => h).at_ (k := u) (by omega)
 have d6 : decide (ys.getD u 0 < sm) = true := by simpa using q6
 generalize ys.getD u 0 = y at hc d6 q6; go_wp2_with fail; refine (l1List_note _ _ n1 n2 _ _ L _).mono ?_; rintro e w' ⟨rfl, rfl⟩; go_wp2; refine bodyPost_ret (v := .tuple #[noBank, .bool false]) (by simp [results, Tryd.results91, go_sem, noBank, r0, r1, r2, hz]) rfl ?_; exact ⟨rfl, (((((((Keeps.refl _ w).alloc _).alloc _).trans HK1.out).new (by omega) _ _).new (by omega) _ _).new (by omega) _ _).alloc _⟩

theorem getD_set (zs : List Int) (u v : Nat) (x : Int) : (zs.set u x).getD v 0 = if u = v ∧ u < zs.length then x else zs.getD v 0 := by
 simp only [List.getD_eq_getElem?_getD, List.getElem?_set]
 by_cases h : u = v
 ·subst h
  by_cases h2 : u < zs.length
  ·simp [h2]
  ·simp [h2]
 ·simp [h]
theorem ix (n : Nat) : ((n : Int) + 1 - 1).toNat = n := by omega
theorem moved_1 (xs ys : List Int) (L : Int) (u v : Nat) (sm : Int) : moved ⟨xs, ys, L⟩ 1 (u + 1) (v + 1) sm = put ⟨xs, ys, L⟩ 1 ((xs.set u (xs.getD u 0 - sm)).set v ((xs.set u (xs.getD u 0 - sm)).getD v 0 + sm)) := by
 simp only [moved, give, put, has, lst, if_true, ix]
 rfl
theorem moved_2 (xs ys : List Int) (L : Int) (u v : Nat) (sm : Int) : moved ⟨xs, ys, L⟩ 2 (u + 1) (v + 1) sm = put ⟨xs, ys, L⟩ 2 ((ys.set u (ys.getD u 0 - sm)).set v ((ys.set u (ys.getD u 0 - sm)).getD v 0 + sm)) := by
 have h : ¬ (2 : Int) = 1 := by omega
 simp only [moved, give, put, has, lst, if_neg h, ix]
 rfl
def RetYes (w : World) (b : BankL) (e : Ending) (w' : World) : Prop := ∃ v, e = .returned (.tuple #[v, .bool true]) ∧ BankAt w' w.heap.size v b ∧ Keeps noBlk w w'

theorem specMove_ok_1 (A1 A2 : Option Addr) (c1 c2 : Nat) (L : Int) (xs ys : List Int) (w : World) (ha1 : Ints w A1 3 xs) (ha2 : Ints w A2 3 ys)
  (h1 : 3 ≤ maxLen) (h2 : 3 ≤ maxLen) (hL : L ≤ 9223372036854775807) (u v : Nat) (sm : Int) (q1 : okB ⟨xs, ys, L⟩ = true) (q3 : userB ((u : Int) + 1) = true) (q4 : userB ((v : Int) + 1) = true) (q5 : decide (sm < 0) = false) (q6 : sm ≤ xs.getD u 0) :
  Calls Tryd.prog 91 #[.agg #[.slice A1 3 c1, .slice A2 3 c2, .int .i64 L], .int .i64 1, .int .i64 ((u : Int) + 1), .int .i64 ((v : Int) + 1), .int .i64 sm] w (RetYes w (moved ⟨xs, ys, L⟩ 1 (u + 1) (v + 1) sm)) := by
 have q2 : kindB 1 = true := rfl; have hu := user_range q3; have hv := user_range q4; have hl1 : xs.length = 3 := lst_len q1 1; have hl2 : ys.length = 3 := lst_len q1 2
 have hun : (u : Int) < 3 := by omega
 have hvn : (v : Int) < 3 := by omega
 have hs0 : 0 ≤ sm := by simpa using q5
 have hx : 0 ≤ xs.getD u 0 ∧ xs.getD u 0 ≤ 30 := by simpa [has, lst] using has_bounds q1 1 ((u : Int) + 1)
 have hy : -60 ≤ (xs.set u (xs.getD u 0 - sm)).getD v 0 ∧ (xs.set u (xs.getD u 0 - sm)).getD v 0 ≤ 60 := by
  have h9 : 0 ≤ xs.getD v 0 ∧ xs.getD v 0 ≤ 30 := by simpa [has, lst] using has_bounds q1 1 ((v : Int) + 1)
  rw [getD_set]
  split
  ·omega
  ·omega
 have HM : Hid (moved ⟨xs, ys, L⟩ 1 (u + 1) (v + 1) sm = put ⟨xs, ys, L⟩ 1 ((xs.set u (xs.getD u 0 - sm)).set v ((xs.set u (xs.getD u 0 - sm)).getD v 0 + sm))) := by
  show _ = _
  exact moved_1 xs ys L u v sm
 generalize hxe : xs.getD u 0 = x at q6 hx hy HM; generalize hye : (xs.set u (x - sm)).getD v 0 = y at hy HM; have HXE := hH hxe; have HYE := hH hye
 have d6 : decide (x < sm) = false := by simpa using q6
 clear hxe hye; have HA1 := hH ha1; have HA2 := hH ha2; clear ha1 ha2
 go_enter Tryd.func91, Tryd.ntmps91
 go_wp2_with fail; refine (specOk_any A1 A2 3 3 _ _ L xs ys _ ((HA1.out.alloc _).alloc _) ((HA2.out.alloc _).alloc _) h1 h2 hL).mono ?_; rintro e w1 ⟨rfl, hk1⟩
 have hb5 := ((Box.new w _ rfl 91 #[.slice A1 3 c1, .slice A2 3 c2, .int .i64 L]).alloc (.cells #[.slice none 0 0, .slice none 0 0, .int .i64 0] 91)).keeps hk1 fun h => h
 have hb6 := (Box.new (w.alloc (.cells #[.slice A1 3 c1, .slice A2 3 c2, .int .i64 L] 91)) (w.heap.size + 1) (by simp) 91 #[.slice none 0 0, .slice none 0 0, .int .i64 0]).keeps hk1 fun h => h
 have a0 := hb5.cell 0; have a1 := hb5.cell 1; have a2 := hb5.cell 2; have r0 := hb6.cell 0; have r1 := hb6.cell 1; have r2 := hb6.cell 2; obtain ⟨f0, f1, f2⟩ := hb6.fz3; simp at a0 a1 a2 r0 r1 r2; have hz : w.heap.size + 1 < w1.heap.size := hb6.lt
 have hz0 : w.heap.size < w1.heap.size := by omega
 have HB5 := hH hb5; have HB6 := hH hb6; have HK1 := hH hk1; clear hb5 hb6 hk1; go_wp2_with fail; refine (l6In_kind 1 _).mono ?_; rintro e w' ⟨rfl, rfl⟩; go_wp2_with fail; refine (l1User_bk _ _).mono ?_; rintro e w' ⟨rfl, rfl⟩; go_wp2_with fail; refine (l1User_bk _ _).mono ?_; rintro e w' ⟨rfl, rfl⟩; obtain ⟨b, off, e1, hb, hc⟩ := (((HA1.out.alloc _).alloc _).keeps HK1.out fun _ _ h => h).at_ (k := u) (by omega); subst e1; rw [HXE.out] at hc; go_wp2_with fail; refine (l1List_own _ _ 3 3 _ _ L _).mono ?_; rintro e w' ⟨rfl, rfl⟩; go_wp2_with fail; refine (l1Copy_any _ _ 3 3 _ _ L xs ys _ ((((HA1.out.alloc _).alloc _).keeps HK1.out fun _ _ h => h).alloc _) ((((HA2.out.alloc _).alloc _).keeps HK1.out fun _ _ h => h).alloc _) (by omega) (by omega) (by omega) (by omega)).mono ?_; rintro e w2 ⟨_, rfl, ⟨B1, m1, d1, B2, m2, d2, rfl, hr1, hr2, hd, hd1, hd2, hm1, hm2⟩, hk2⟩; obtain rfl : 3 = m1 := hl1.symm.trans hr1.1.1; obtain rfl : 3 = m2 := hl2.symm.trans hr2.1.1; obtain ⟨g, og, e2, hgl, hg, hcg, hfg⟩ := hr1.at_ (k := u) (by omega); subst e2; rw [HXE.out] at hcg; have hrs := hr1.set_ (k := u) (by omega) (x - sm); obtain ⟨g', og', e3, _, _, hcv, hfv⟩ := hrs.at_ (k := v) (by omega)
 injection e3 with e3
 injection e3 with e4 e5
 subst e4; subst e5
 have hcv1 : (w2.setCell ⟨g, og + u, none⟩ (.int .i64 (x - sm))).cell? ⟨g, og + v, none⟩ = some (.int .i64 y) := by rw [← HYE.out]; exact hcv
 clear hcv; have hrt := hrs.set_ (k := v) (by omega) (y + sm)
 have hb6 := (HB6.out.alloc (.cells #[.slice (some ⟨b, off, none⟩) 3 c1, .slice A2 3 c2, .int .i64 L] 91)).keeps hk2 fun h => h
 have hz2 : w.heap.size + 1 < w2.heap.size := hb6.lt
 have hz3 : w.heap.size < w2.heap.size := by omega
 have hlo : w.heap.size + 1 < g := by have h9 := HB6.out.lt; simp at hgl; omega
 have hb7 := (hb6.far (p := ⟨g, og + u, none⟩) (by dsimp only; omega) (.int .i64 (x - sm))).far (p := ⟨g, og + v, none⟩) (by dsimp only; omega) (.int .i64 (y + sm)); have r0 := hb7.cell 0; have r1 := hb7.cell 1; have r2 := hb7.cell 2; obtain ⟨f0, f1, f2⟩ := hb7.fz3; simp only [List.getElem?_toArray, List.getElem?_cons_zero, List.getElem?_cons_succ] at r0 r1 r2; have HR1 := hH hr1; have HR2 := hH hr2; have HRT := hH hrt; have HK2 := hH hk2; have HD := hH hd; clear hb6 hb7 hr1 hr2 hrt hrs hk2 hd hc; go_wp2_with fail; refine (l1List_own _ _ 3 3 _ _ L _).mono ?_; rintro e w' ⟨rfl, rfl⟩; go_wp2; refine bodyPost_ret (v := .tuple #[.agg #[(.slice (some ⟨g, og, none⟩) 3 d1), (.slice B2 3 d2), .int .i64 L], .bool true]) (by simp [results, Tryd.results91, go_sem, r0, r1, r2, hz2, hz3]) rfl ?_; have hS : Keeps (two (w.heap.size + 1) g) w2 _ := (((((Keeps.refl (two (w.heap.size + 1) g) w2).setB (og + u) (.int .i64 (x - sm))).setB (og + v) (.int .i64 (y + sm))).setA 0 (.slice (some ⟨g, og, none⟩) 3 d1)).setA 1 (.slice B2 3 d2)).setA 2 (.int .i64 L); have hT := (((Keeps.refl (one (w.heap.size + 1)) ((w2.setCell ⟨g, og + u, none⟩ (.int .i64 (x - sm))).setCell ⟨g, og + v, none⟩ (.int .i64 (y + sm)))).set1 0 (.slice (some ⟨g, og, none⟩) 3 d1)).set1 1 (.slice B2 3 d2)).set1 2 (.int .i64 L)
 have hlo2 : w.heap.size ≤ (w1.alloc (.cells #[.slice (some ⟨b, off, none⟩) 3 c1, .slice A2 3 c2, .int .i64 L] 91)).heap.size := by simp; omega
 rw [HM.out]; refine ⟨_, rfl, ⟨_, _, _, _, _, _, rfl, ?_, ?_, HD.out, hd1, hd2, hm1, hm2⟩, ?_⟩
 ·exact (((HRT.out.keeps hT fun i hi h => by have := blk_some hi; simp at this; have h' : i = w.heap.size + 1 := h; omega).alloc _).alloc _).less hlo2
 ·exact (((HR2.out.keeps hS fun i hi h => by rcases h with h | h; (have := HR2.out.ge hi; simp at this; omega); (exact HD.out i (h ▸ blk_mk (by omega)) hi)).alloc _).alloc _).less hlo2
 ·exact ((((((Keeps.refl noBlk w).alloc _).alloc _).trans HK1.out).alloc _).trans HK2.out |>.then hS fun i hi h => by rcases h with h | h <;> omega).alloc _ |>.alloc _

theorem specMove_ok_2 (A1 A2 : Option Addr) (c1 c2 : Nat) (L : Int) (xs ys : List Int) (w : World) (ha1 : Ints w A1 3 xs) (ha2 : Ints w A2 3 ys)
  (h1 : 3 ≤ maxLen) (h2 : 3 ≤ maxLen) (hL : L ≤ 9223372036854775807) (u v : Nat) (sm : Int) (q1 : okB ⟨xs, ys, L⟩ = true) (q3 : userB ((u : Int) + 1) = true) (q4 : userB ((v : Int) + 1) = true) (q5 : decide (sm < 0) = false) (q6 : sm ≤ ys.getD u 0) :
  Calls Tryd.prog 91 #[.agg #[.slice A1 3 c1, .slice A2 3 c2, .int .i64 L], .int .i64 2, .int .i64 ((u : Int) + 1), .int .i64 ((v : Int) + 1), .int .i64 sm] w (RetYes w (moved ⟨xs, ys, L⟩ 2 (u + 1) (v + 1) sm)) := by
 have q2 : kindB 2 = true := rfl; have hu := user_range q3; have hv := user_range q4; have hl1 : xs.length = 3 := lst_len q1 1; have hl2 : ys.length = 3 := lst_len q1 2
 have hun : (u : Int) < 3 := by omega
 have hvn : (v : Int) < 3 := by omega
 have hs0 : 0 ≤ sm := by simpa using q5
 have hx : 0 ≤ ys.getD u 0 ∧ ys.getD u 0 ≤ 30 := by simpa [has, lst] using has_bounds q1 2 ((u : Int) + 1)
 have hy : -60 ≤ (ys.set u (ys.getD u 0 - sm)).getD v 0 ∧ (ys.set u (ys.getD u 0 - sm)).getD v 0 ≤ 60 := by
  have h9 : 0 ≤ ys.getD v 0 ∧ ys.getD v 0 ≤ 30 := by simpa [has, lst] using has_bounds q1 2 ((v : Int) + 1)
  rw [getD_set]
  split
  ·omega
  ·omega
 have HM : Hid (moved ⟨xs, ys, L⟩ 2 (u + 1) (v + 1) sm = put ⟨xs, ys, L⟩ 2 ((ys.set u (ys.getD u 0 - sm)).set v ((ys.set u (ys.getD u 0 - sm)).getD v 0 + sm))) := by
  show _ = _
  exact moved_2 xs ys L u v sm
 generalize hxe : ys.getD u 0 = x at q6 hx hy HM; generalize hye : (ys.set u (x - sm)).getD v 0 = y at hy HM; have HXE := hH hxe; have HYE := hH hye
 have d6 : decide (x < sm) = false := by simpa using q6
 clear hxe hye; have HA1 := hH ha1; have HA2 := hH ha2; clear ha1 ha2
 go_enter Tryd.func91, Tryd.ntmps91
 go_wp2_with fail; refine (specOk_any A1 A2 3 3 _ _ L xs ys _ ((HA1.out.alloc _).alloc _) ((HA2.out.alloc _).alloc _) h1 h2 hL).mono ?_; rintro e w1 ⟨rfl, hk1⟩
 have hb5 := ((Box.new w _ rfl 91 #[.slice A1 3 c1, .slice A2 3 c2, .int .i64 L]).alloc (.cells #[.slice none 0 0, .slice none 0 0, .int .i64 0] 91)).keeps hk1 fun h => h
 have hb6 := (Box.new (w.alloc (.cells #[.slice A1 3 c1, .slice A2 3 c2, .int .i64 L] 91)) (w.heap.size + 1) (by simp) 91 #[.slice none 0 0, .slice none 0 0, .int .i64 0]).keeps hk1 fun h => h
 have a0 := hb5.cell 0; have a1 := hb5.cell 1; have a2 := hb5.cell 2; have r0 := hb6.cell 0; have r1 := hb6.cell 1; have r2 := hb6.cell 2; obtain ⟨f0, f1, f2⟩ := hb6.fz3; simp at a0 a1 a2 r0 r1 r2; have hz : w.heap.size + 1 < w1.heap.size := hb6.lt
 have hz0 : w.heap.size < w1.heap.size := by omega
 have HB5 := hH hb5; have HB6 := hH hb6; have HK1 := hH hk1; clear hb5 hb6 hk1; go_wp2_with fail; refine (l6In_kind 2 _).mono ?_; rintro e w' ⟨rfl, rfl⟩; go_wp2_with fail; refine (l1User_bk _ _).mono ?_; rintro e w' ⟨rfl, rfl⟩; go_wp2_with fail; refine (l1User_bk _ _).mono ?_; rintro e w' ⟨rfl, rfl⟩; obtain ⟨b, off, e1, hb, hc⟩ := (((HA2.out.alloc _).alloc _).keeps HK1.out fun _ _ h => h).at_ (k := u) (by omega); subst e1; rw [HXE.out] at hc; go_wp2_with fail; refine (l1List_note _ _ 3 3 _ _ L _).mono ?_; rintro e w' ⟨rfl, rfl⟩; go_wp2_with fail; refine (l1Copy_any _ _ 3 3 _ _ L xs ys _ ((((HA1.out.alloc _).alloc _).keeps HK1.out fun _ _ h => h).alloc _) ((((HA2.out.alloc _).alloc _).keeps HK1.out fun _ _ h => h).alloc _) (by omega) (by omega) (by omega) (by omega)).mono ?_; rintro e w2 ⟨_, rfl, ⟨B1, m1, d1, B2, m2, d2, rfl, hr1, hr2, hd, hd1, hd2, hm1, hm2⟩, hk2⟩; obtain rfl : 3 = m1 := hl1.symm.trans hr1.1.1; obtain rfl : 3 = m2 := hl2.symm.trans hr2.1.1; obtain ⟨g, og, e2, hgl, hg, hcg, hfg⟩ := hr2.at_ (k := u) (by omega); subst e2; rw [HXE.out] at hcg; have hrs := hr2.set_ (k := u) (by omega) (x - sm); obtain ⟨g', og', e3, _, _, hcv, hfv⟩ := hrs.at_ (k := v) (by omega)
 injection e3 with e3
 injection e3 with e4 e5
 subst e4; subst e5
 have hcv1 : (w2.setCell ⟨g, og + u, none⟩ (.int .i64 (x - sm))).cell? ⟨g, og + v, none⟩ = some (.int .i64 y) := by rw [← HYE.out]; exact hcv
 clear hcv; have hrt := hrs.set_ (k := v) (by omega) (y + sm)
 have hb6 := (HB6.out.alloc (.cells #[.slice A1 3 c1, .slice (some ⟨b, off, none⟩) 3 c2, .int .i64 L] 91)).keeps hk2 fun h => h
 have hz2 : w.heap.size + 1 < w2.heap.size := hb6.lt
 have hz3 : w.heap.size < w2.heap.size := by omega
 have hlo : w.heap.size + 1 < g := by have h9 := HB6.out.lt; simp at hgl; omega
 have hb7 := (hb6.far (p := ⟨g, og + u, none⟩) (by dsimp only; omega) (.int .i64 (x - sm))).far (p := ⟨g, og + v, none⟩) (by dsimp only; omega) (.int .i64 (y + sm)); have r0 := hb7.cell 0; have r1 := hb7.cell 1; have r2 := hb7.cell 2; obtain ⟨f0, f1, f2⟩ := hb7.fz3; simp only [List.getElem?_toArray, List.getElem?_cons_zero, List.getElem?_cons_succ] at r0 r1 r2; have HR1 := hH hr1; have HR2 := hH hr2; have HRT := hH hrt; have HK2 := hH hk2; have HD := hH hd; clear hb6 hb7 hr1 hr2 hrt hrs hk2 hd hc; go_wp2_with fail; refine (l1List_note _ _ 3 3 _ _ L _).mono ?_; rintro e w' ⟨rfl, rfl⟩; go_wp2; refine bodyPost_ret (v := .tuple #[.agg #[(.slice B1 3 d1), (.slice (some ⟨g, og, none⟩) 3 d2), .int .i64 L], .bool true]) (by simp [results, Tryd.results91, go_sem, r0, r1, r2, hz2, hz3]) rfl ?_; have hS : Keeps (two (w.heap.size + 1) g) w2 _ := (((((Keeps.refl (two (w.heap.size + 1) g) w2).setB (og + u) (.int .i64 (x - sm))).setB (og + v) (.int .i64 (y + sm))).setA 0 (.slice B1 3 d1)).setA 1 (.slice (some ⟨g, og, none⟩) 3 d2)).setA 2 (.int .i64 L); have hT := (((Keeps.refl (one (w.heap.size + 1)) ((w2.setCell ⟨g, og + u, none⟩ (.int .i64 (x - sm))).setCell ⟨g, og + v, none⟩ (.int .i64 (y + sm)))).set1 0 (.slice B1 3 d1)).set1 1 (.slice (some ⟨g, og, none⟩) 3 d2)).set1 2 (.int .i64 L)
 have hlo2 : w.heap.size ≤ (w1.alloc (.cells #[.slice A1 3 c1, .slice (some ⟨b, off, none⟩) 3 c2, .int .i64 L] 91)).heap.size := by simp; omega
 rw [HM.out]; refine ⟨_, rfl, ⟨_, _, _, _, _, _, rfl, ?_, ?_, HD.out, hd1, hd2, hm1, hm2⟩, ?_⟩
 ·exact (((HR1.out.keeps hS fun i hi h => by rcases h with h | h; (have := HR1.out.ge hi; simp at this; omega); (exact HD.out i hi (h ▸ blk_mk (by omega)))).alloc _).alloc _).less hlo2
 ·exact (((HRT.out.keeps hT fun i hi h => by have := blk_some hi; simp at this; have h' : i = w.heap.size + 1 := h; omega).alloc _).alloc _).less hlo2
 ·exact ((((((Keeps.refl noBlk w).alloc _).alloc _).trans HK1.out).alloc _).trans HK2.out |>.then hS fun i hi h => by rcases h with h | h <;> omega).alloc _ |>.alloc _

theorem nat_of_user {u : Int} (h : userB u = true) : ∃ n : Nat, u = (n : Int) + 1 := ⟨(u - 1).toNat, by have := user_range h; omega⟩
theorem RetB2.no {w : World} {ok : Bool} {b : BankL} (h : ok = false) {e : Ending} {w' : World} (hr : RetNo w e w') : RetB2 w ok b e w' := .inr ⟨h, hr.1, hr.2⟩
theorem RetB2.yes {w : World} {ok : Bool} {b : BankL} (h : ok = true) {e : Ending} {w' : World} (hr : RetYes w b e w') : RetB2 w ok b e w' := .inl ⟨h, hr⟩

theorem specMove_any (A1 A2 : Option Addr) (n1 n2 c1 c2 : Nat) (L : Int) (xs ys : List Int) (w : World) (ha1 : Ints w A1 n1 xs) (ha2 : Ints w A2 n2 ys)
  (h1 : n1 ≤ maxLen) (h2 : n2 ≤ maxLen) (hL : L ≤ 9223372036854775807) (kd fr to sm : Int) :
  Calls Tryd.prog 91 #[.agg #[.slice A1 n1 c1, .slice A2 n2 c2, .int .i64 L], .int .i64 kd, .int .i64 fr, .int .i64 to, .int .i64 sm] w (RetB2 w (moveOk ⟨xs, ys, L⟩ kd fr to sm) (moved ⟨xs, ys, L⟩ kd fr to sm)) := by
 by_cases q1 : okB ⟨xs, ys, L⟩ = true
 ·by_cases q2 : kindB kd = true
  ·by_cases q3 : userB fr = true
   ·by_cases q4 : userB to = true
    ·by_cases q5 : sm < 0
     ·exact (specMove_f5 A1 A2 n1 n2 c1 c2 L xs ys w ha1 ha2 h1 h2 hL kd fr to sm q1 q2 q3 q4 (by simpa using q5)).mono fun _ _ hr => RetB2.no (by simp [moveOk]; omega) hr
     ·have d5 : decide (sm < 0) = false := by simpa using q5
      by_cases q6 : sm ≤ has ⟨xs, ys, L⟩ kd fr
      ·have hyes : moveOk ⟨xs, ys, L⟩ kd fr to sm = true := by simp [moveOk, q1, q2, q3, q4, q6]; omega
       obtain ⟨u, rfl⟩ := nat_of_user q3; obtain ⟨v, rfl⟩ := nat_of_user q4; obtain rfl : 3 = n1 := (lst_len q1 1).symm.trans ha1.1; obtain rfl : 3 = n2 := (lst_len q1 2).symm.trans ha2.1
       rcases kind_cases q2 with rfl | rfl
       ·exact (specMove_ok_1 A1 A2 c1 c2 L xs ys w ha1 ha2 h1 h2 hL u v sm q1 q3 q4 d5 (by simpa [has, lst, ix] using q6)).mono fun _ _ hr => RetB2.yes hyes hr
       ·exact (specMove_ok_2 A1 A2 c1 c2 L xs ys w ha1 ha2 h1 h2 hL u v sm q1 q3 q4 d5 (by simpa [has, lst, ix] using q6)).mono fun _ _ hr => RetB2.yes hyes hr
      ·have hno : moveOk ⟨xs, ys, L⟩ kd fr to sm = false := by simp [moveOk, q6]
       obtain ⟨u, rfl⟩ := nat_of_user q3
       rcases kind_cases q2 with rfl | rfl
       ·exact (specMove_f6_1 A1 A2 n1 n2 c1 c2 L xs ys w ha1 ha2 h1 h2 hL u to sm q1 q3 q4 d5 (by simpa [has, lst, ix] using q6)).mono fun _ _ hr => RetB2.no hno hr
       ·exact (specMove_f6_2 A1 A2 n1 n2 c1 c2 L xs ys w ha1 ha2 h1 h2 hL u to sm q1 q3 q4 d5 (by simpa [has, lst, ix] using q6)).mono fun _ _ hr => RetB2.no hno hr
    ·exact (specMove_f4 A1 A2 n1 n2 c1 c2 L xs ys w ha1 ha2 h1 h2 hL kd fr to sm q1 q2 q3 (Bool.eq_false_iff.2 q4)).mono fun _ _ hr => RetB2.no (by simp [moveOk, q4]) hr
   ·exact (specMove_f3 A1 A2 n1 n2 c1 c2 L xs ys w ha1 ha2 h1 h2 hL kd fr to sm q1 q2 (Bool.eq_false_iff.2 q3)).mono fun _ _ hr => RetB2.no (by simp [moveOk, q3]) hr
  ·exact (specMove_f2 A1 A2 n1 n2 c1 c2 L xs ys w ha1 ha2 h1 h2 hL kd fr to sm q1 (Bool.eq_false_iff.2 q2)).mono fun _ _ hr => RetB2.no (by simp [moveOk, q2]) hr
 ·exact (specMove_f1 A1 A2 n1 n2 c1 c2 L xs ys w ha1 ha2 h1 h2 hL kd fr to sm (Bool.eq_false_iff.2 q1)).mono fun _ _ hr => RetB2.no (by simp [moveOk, q1]) hr


def RetTurn (w : World) (lo : Nat) (A1 A2 : Option Addr) (c1 c2 : Nat) (b : BankL) (ok : Bool) (e : Ending) (w' : World) : Prop :=
 e = .returned (.tuple #[.agg #[.slice A1 3 c1, .slice A2 3 c2, .int .i64 b.locked], .bool ok]) ∧ Row w' lo A1 3 b.own ∧ Row w' lo A2 3 b.notes ∧ Keeps (fun i => blk A1 3 i ∨ blk A2 3 i) w w'

theorem awayed_1 (xs ys : List Int) (L : Int) (u : Nat) (sm : Int) : awayed ⟨xs, ys, L⟩ 1 (u + 1) sm = ⟨xs.set u (xs.getD u 0 - sm), ys, L + sm⟩ := by
 simp only [awayed, lock, give, put, has, lst, if_true, ix]
 rfl
theorem awayed_2 (xs ys : List Int) (L : Int) (u : Nat) (sm : Int) : awayed ⟨xs, ys, L⟩ 2 (u + 1) sm = ⟨xs, ys.set u (ys.getD u 0 - sm), L⟩ := by
 have h : ¬ (2 : Int) = 1 := by omega
 simp only [awayed, lock, give, put, has, lst, if_neg h, ix]
 rfl
theorem backed_1 (xs ys : List Int) (L : Int) (u : Nat) (sm : Int) : backed ⟨xs, ys, L⟩ 1 (u + 1) sm = ⟨xs.set u (xs.getD u 0 + sm), ys, L - sm⟩ := by
 simp only [backed, lock, give, put, has, lst, if_true, ix]
 rfl
theorem backed_2 (xs ys : List Int) (L : Int) (u : Nat) (sm : Int) : backed ⟨xs, ys, L⟩ 2 (u + 1) sm = ⟨xs, ys.set u (ys.getD u 0 + sm), L⟩ := by
 have h : ¬ (2 : Int) = 1 := by omega
 simp only [backed, lock, give, put, has, lst, if_neg h, ix]

theorem l1Away_ok_1 (A1 A2 : Option Addr) (c1 c2 lo : Nat) (L : Int) (xs ys : List Int) (w : World) (hr1 : Row w lo A1 3 xs) (hr2 : Row w lo A2 3 ys) (hd : ∀ i, blk A1 3 i → ¬ blk A2 3 i)
  (u : Nat) (sm : Int) (q1 : okB ⟨xs, ys, L⟩ = true) (q3 : userB ((u : Int) + 1) = true) (hs0 : 0 ≤ sm) (hs1 : sm ≤ 1000) (q6 : sm ≤ xs.getD u 0) :
  Calls Tryd.prog 101 #[.agg #[.slice A1 3 c1, .slice A2 3 c2, .int .i64 L], .int .i64 1, .int .i64 ((u : Int) + 1), .int .i64 sm] w (RetTurn w lo A1 A2 c1 c2 (awayed ⟨xs, ys, L⟩ 1 (u + 1) sm) true) := by
 have hu := user_range q3
 have hun : (u : Int) < 3 := by omega
 have hx : 0 ≤ xs.getD u 0 ∧ xs.getD u 0 ≤ 30 := by simpa [has, lst, ix] using has_bounds q1 1 ((u : Int) + 1)
 have hLb := locked_bounds q1; dsimp only at hLb
 have HM : Hid (awayed ⟨xs, ys, L⟩ 1 (u + 1) sm = ⟨xs.set u (xs.getD u 0 - sm), ys, L + sm⟩) := by
  show _ = _
  exact awayed_1 xs ys L u sm
 rw [HM.out]; obtain ⟨g, og, e1, hgl, hg, hc, hf⟩ := hr1.at_ (k := u) (by omega); subst e1; have hrs := hr1.set_ (k := u) (by omega) (xs.getD u 0 - sm); have HRS := hH hrs; clear hrs HM
 have d6 : decide (xs.getD u 0 < sm) = false := by simpa using q6
 have hg1 : g < w.heap.size + 1 := by omega
 have hg2 : g < w.heap.size + 1 + 1 := by omega
 have HR1 := hH hr1; have HR2 := hH hr2; have HD := hH hd; clear hr1 hr2 hd; generalize xs.getD u 0 = x at *
 go_enter Tryd.func101, Tryd.ntmps101
 go_wp2_with fail; refine (l1List_own _ _ 3 3 _ _ L _).mono ?_; rintro e w' ⟨rfl, rfl⟩; go_wp2; refine bodyPost_ret (v := .tuple #[.agg #[.slice (some ⟨g, og, none⟩) 3 c1, .slice A2 3 c2, .int .i64 (L + sm)], .bool true]) (by simp [results, Tryd.results101, go_sem]) rfl ?_; refine ⟨rfl, ((HRS.out.alloc _).alloc _).alloc _, (((HR2.out.keeps ((Keeps.refl (one g) w).set1 (og + u) (.int .i64 (x - sm))) fun i hi h => HD.out i (h ▸ blk_mk (by omega)) hi).alloc _).alloc _).alloc _, ?_⟩; exact ((((Keeps.refl _ w).setCell (p := ⟨g, og + u, none⟩) (.inr (.inl (blk_mk (by omega)))) _).alloc _).alloc _).alloc _

theorem l1Away_no_1 (A1 A2 : Option Addr) (c1 c2 lo : Nat) (L : Int) (xs ys : List Int) (w : World) (hr1 : Row w lo A1 3 xs) (hr2 : Row w lo A2 3 ys) (hd : ∀ i, blk A1 3 i → ¬ blk A2 3 i)
  (u : Nat) (sm : Int) (q1 : okB ⟨xs, ys, L⟩ = true) (q3 : userB ((u : Int) + 1) = true) (hs0 : 0 ≤ sm) (hs1 : sm ≤ 1000) (q6 : xs.getD u 0 < sm) :
  Calls Tryd.prog 101 #[.agg #[.slice A1 3 c1, .slice A2 3 c2, .int .i64 L], .int .i64 1, .int .i64 ((u : Int) + 1), .int .i64 sm] w (RetTurn w lo A1 A2 c1 c2 ⟨xs, ys, L⟩ false) := by
 have hu := user_range q3
 have hun : (u : Int) < 3 := by omega
 have hx : 0 ≤ xs.getD u 0 ∧ xs.getD u 0 ≤ 30 := by simpa [has, lst, ix] using has_bounds q1 1 ((u : Int) + 1)
 have hLb := locked_bounds q1; dsimp only at hLb; obtain ⟨g, og, e1, hgl, hg, hc, hf⟩ := hr1.at_ (k := u) (by omega); subst e1
 have d6 : decide (xs.getD u 0 < sm) = true := by simpa using q6
 have hg1 : g < w.heap.size + 1 := by omega
 have hg2 : g < w.heap.size + 1 + 1 := by omega
 have HR1 := hH hr1; have HR2 := hH hr2; have HD := hH hd; clear hr1 hr2 hd; generalize xs.getD u 0 = x at *
 go_enter Tryd.func101, Tryd.ntmps101
 go_wp2_with fail; refine (l1List_own _ _ 3 3 _ _ L _).mono ?_; rintro e w' ⟨rfl, rfl⟩; go_wp2; refine bodyPost_ret (v := .tuple #[.agg #[.slice (some ⟨g, og, none⟩) 3 c1, .slice A2 3 c2, .int .i64 (L)], .bool false]) (by simp [results, Tryd.results101, go_sem]) rfl ?_; exact ⟨rfl, ((HR1.out.alloc _).alloc _).alloc _, ((HR2.out.alloc _).alloc _).alloc _, (((Keeps.refl _ _).alloc _).alloc _).alloc _⟩

theorem l1Away_ok_2 (A1 A2 : Option Addr) (c1 c2 lo : Nat) (L : Int) (xs ys : List Int) (w : World) (hr1 : Row w lo A1 3 xs) (hr2 : Row w lo A2 3 ys) (hd : ∀ i, blk A1 3 i → ¬ blk A2 3 i)
  (u : Nat) (sm : Int) (q1 : okB ⟨xs, ys, L⟩ = true) (q3 : userB ((u : Int) + 1) = true) (hs0 : 0 ≤ sm) (hs1 : sm ≤ 1000) (q6 : sm ≤ ys.getD u 0) :
  Calls Tryd.prog 101 #[.agg #[.slice A1 3 c1, .slice A2 3 c2, .int .i64 L], .int .i64 2, .int .i64 ((u : Int) + 1), .int .i64 sm] w (RetTurn w lo A1 A2 c1 c2 (awayed ⟨xs, ys, L⟩ 2 (u + 1) sm) true) := by
 have hu := user_range q3
 have hun : (u : Int) < 3 := by omega
 have hx : 0 ≤ ys.getD u 0 ∧ ys.getD u 0 ≤ 30 := by simpa [has, lst, ix] using has_bounds q1 2 ((u : Int) + 1)
 have hLb := locked_bounds q1; dsimp only at hLb
 have HM : Hid (awayed ⟨xs, ys, L⟩ 2 (u + 1) sm = ⟨xs, ys.set u (ys.getD u 0 - sm), L⟩) := by
  show _ = _
  exact awayed_2 xs ys L u sm
 rw [HM.out]; obtain ⟨g, og, e1, hgl, hg, hc, hf⟩ := hr2.at_ (k := u) (by omega); subst e1; have hrs := hr2.set_ (k := u) (by omega) (ys.getD u 0 - sm); have HRS := hH hrs; clear hrs HM
 have d6 : decide (ys.getD u 0 < sm) = false := by simpa using q6
 have hg1 : g < w.heap.size + 1 := by omega
 have hg2 : g < w.heap.size + 1 + 1 := by omega
 have HR1 := hH hr1; have HR2 := hH hr2; have HD := hH hd; clear hr1 hr2 hd; generalize ys.getD u 0 = x at *
 go_enter Tryd.func101, Tryd.ntmps101
 go_wp2_with fail; refine (l1List_note _ _ 3 3 _ _ L _).mono ?_; rintro e w' ⟨rfl, rfl⟩; go_wp2; refine bodyPost_ret (v := .tuple #[.agg #[.slice A1 3 c1, .slice (some ⟨g, og, none⟩) 3 c2, .int .i64 (L)], .bool true]) (by simp [results, Tryd.results101, go_sem]) rfl ?_; refine ⟨rfl, (((HR1.out.keeps ((Keeps.refl (one g) w).set1 (og + u) (.int .i64 (x - sm))) fun i hi h => HD.out i hi (h ▸ blk_mk (by omega))).alloc _).alloc _).alloc _, ((HRS.out.alloc _).alloc _).alloc _, ?_⟩; exact ((((Keeps.refl _ w).setCell (p := ⟨g, og + u, none⟩) (.inr (.inr (blk_mk (by omega)))) _).alloc _).alloc _).alloc _

theorem l1Away_no_2 (A1 A2 : Option Addr) (c1 c2 lo : Nat) (L : Int) (xs ys : List Int) (w : World) (hr1 : Row w lo A1 3 xs) (hr2 : Row w lo A2 3 ys) (hd : ∀ i, blk A1 3 i → ¬ blk A2 3 i)
  (u : Nat) (sm : Int) (q1 : okB ⟨xs, ys, L⟩ = true) (q3 : userB ((u : Int) + 1) = true) (hs0 : 0 ≤ sm) (hs1 : sm ≤ 1000) (q6 : ys.getD u 0 < sm) :
  Calls Tryd.prog 101 #[.agg #[.slice A1 3 c1, .slice A2 3 c2, .int .i64 L], .int .i64 2, .int .i64 ((u : Int) + 1), .int .i64 sm] w (RetTurn w lo A1 A2 c1 c2 ⟨xs, ys, L⟩ false) := by
 have hu := user_range q3
 have hun : (u : Int) < 3 := by omega
 have hx : 0 ≤ ys.getD u 0 ∧ ys.getD u 0 ≤ 30 := by simpa [has, lst, ix] using has_bounds q1 2 ((u : Int) + 1)
 have hLb := locked_bounds q1; dsimp only at hLb; obtain ⟨g, og, e1, hgl, hg, hc, hf⟩ := hr2.at_ (k := u) (by omega); subst e1
 have d6 : decide (ys.getD u 0 < sm) = true := by simpa using q6
 have hg1 : g < w.heap.size + 1 := by omega
 have hg2 : g < w.heap.size + 1 + 1 := by omega
 have HR1 := hH hr1; have HR2 := hH hr2; have HD := hH hd; clear hr1 hr2 hd; generalize ys.getD u 0 = x at *
 go_enter Tryd.func101, Tryd.ntmps101
 go_wp2_with fail; refine (l1List_note _ _ 3 3 _ _ L _).mono ?_; rintro e w' ⟨rfl, rfl⟩; go_wp2; refine bodyPost_ret (v := .tuple #[.agg #[.slice A1 3 c1, .slice (some ⟨g, og, none⟩) 3 c2, .int .i64 (L)], .bool false]) (by simp [results, Tryd.results101, go_sem]) rfl ?_; exact ⟨rfl, ((HR1.out.alloc _).alloc _).alloc _, ((HR2.out.alloc _).alloc _).alloc _, (((Keeps.refl _ _).alloc _).alloc _).alloc _⟩

theorem l1Back_ok_1 (A1 A2 : Option Addr) (c1 c2 lo : Nat) (L : Int) (xs ys : List Int) (w : World) (hr1 : Row w lo A1 3 xs) (hr2 : Row w lo A2 3 ys) (hd : ∀ i, blk A1 3 i → ¬ blk A2 3 i)
  (u : Nat) (sm : Int) (q1 : okB ⟨xs, ys, L⟩ = true) (q3 : userB ((u : Int) + 1) = true) (hs0 : 0 ≤ sm) (hs1 : sm ≤ 1000) (q6 : sm ≤ L) :
  Calls Tryd.prog 112 #[.agg #[.slice A1 3 c1, .slice A2 3 c2, .int .i64 L], .int .i64 1, .int .i64 ((u : Int) + 1), .int .i64 sm] w (RetTurn w lo A1 A2 c1 c2 (backed ⟨xs, ys, L⟩ 1 (u + 1) sm) true) := by
 have hu := user_range q3
 have hun : (u : Int) < 3 := by omega
 have hx : 0 ≤ xs.getD u 0 ∧ xs.getD u 0 ≤ 30 := by simpa [has, lst, ix] using has_bounds q1 1 ((u : Int) + 1)
 have hLb := locked_bounds q1; have hNb := notes_bounds q1; have HS2 := hH (lst_small q1 2); simp only [lst] at HS2; dsimp only at hLb hNb
 have HM : Hid (backed ⟨xs, ys, L⟩ 1 (u + 1) sm = ⟨xs.set u (xs.getD u 0 + sm), ys, L - sm⟩) := by
  show _ = _
  exact backed_1 xs ys L u sm
 rw [HM.out]; obtain ⟨g, og, e1, hgl, hg, hc, hf⟩ := hr1.at_ (k := u) (by omega); subst e1; have hrs := hr1.set_ (k := u) (by omega) (xs.getD u 0 + sm); have HRS := hH hrs; clear hrs HM
 have d6 : decide (L < sm) = false := by simp; omega
 have hg1 : g < w.heap.size + 1 := by omega
 have hg2 : g < w.heap.size + 1 + 1 := by omega
 have HR1 := hH hr1; have HR2 := hH hr2; have HD := hH hd; clear hr1 hr2 hd; generalize xs.getD u 0 = x at *
 go_enter Tryd.func112, Tryd.ntmps112
 go_wp2_with fail; refine (l1List_own _ _ 3 3 _ _ L _).mono ?_; rintro e w' ⟨rfl, rfl⟩; go_wp2; refine bodyPost_ret (v := .tuple #[.agg #[.slice (some ⟨g, og, none⟩) 3 c1, .slice A2 3 c2, .int .i64 (L - sm)], .bool true]) (by simp [results, Tryd.results112, go_sem]) rfl ?_; refine ⟨rfl, ((HRS.out.alloc _).alloc _).alloc _, (((HR2.out.keeps ((Keeps.refl (one g) w).set1 (og + u) (.int .i64 (x + sm))) fun i hi h => HD.out i (h ▸ blk_mk (by omega)) hi).alloc _).alloc _).alloc _, ?_⟩; exact ((((Keeps.refl _ w).setCell (p := ⟨g, og + u, none⟩) (.inr (.inl (blk_mk (by omega)))) _).alloc _).alloc _).alloc _

theorem l1Back_no_1 (A1 A2 : Option Addr) (c1 c2 lo : Nat) (L : Int) (xs ys : List Int) (w : World) (hr1 : Row w lo A1 3 xs) (hr2 : Row w lo A2 3 ys) (hd : ∀ i, blk A1 3 i → ¬ blk A2 3 i)
  (u : Nat) (sm : Int) (q1 : okB ⟨xs, ys, L⟩ = true) (q3 : userB ((u : Int) + 1) = true) (hs0 : 0 ≤ sm) (hs1 : sm ≤ 1000) (q6 : L < sm) :
  Calls Tryd.prog 112 #[.agg #[.slice A1 3 c1, .slice A2 3 c2, .int .i64 L], .int .i64 1, .int .i64 ((u : Int) + 1), .int .i64 sm] w (RetTurn w lo A1 A2 c1 c2 ⟨xs, ys, L⟩ false) := by
 have hu := user_range q3
 have hun : (u : Int) < 3 := by omega
 have hx : 0 ≤ xs.getD u 0 ∧ xs.getD u 0 ≤ 30 := by simpa [has, lst, ix] using has_bounds q1 1 ((u : Int) + 1)
 have hLb := locked_bounds q1; have hNb := notes_bounds q1; have HS2 := hH (lst_small q1 2); simp only [lst] at HS2; dsimp only at hLb hNb; obtain ⟨g, og, e1, hgl, hg, hc, hf⟩ := hr1.at_ (k := u) (by omega); subst e1
 have d6 : decide (L < sm) = true := by simp; omega
 have hg1 : g < w.heap.size + 1 := by omega
 have hg2 : g < w.heap.size + 1 + 1 := by omega
 have HR1 := hH hr1; have HR2 := hH hr2; have HD := hH hd; clear hr1 hr2 hd; generalize xs.getD u 0 = x at *
 go_enter Tryd.func112, Tryd.ntmps112
 go_wp2; refine bodyPost_ret (v := .tuple #[.agg #[.slice (some ⟨g, og, none⟩) 3 c1, .slice A2 3 c2, .int .i64 (L)], .bool false]) (by simp [results, Tryd.results112, go_sem]) rfl ?_; exact ⟨rfl, (HR1.out.alloc _).alloc _, (HR2.out.alloc _).alloc _, ((Keeps.refl _ _).alloc _).alloc _⟩

theorem l1Back_ok_2 (A1 A2 : Option Addr) (c1 c2 lo : Nat) (L : Int) (xs ys : List Int) (w : World) (hr1 : Row w lo A1 3 xs) (hr2 : Row w lo A2 3 ys) (hd : ∀ i, blk A1 3 i → ¬ blk A2 3 i)
  (u : Nat) (sm : Int) (q1 : okB ⟨xs, ys, L⟩ = true) (q3 : userB ((u : Int) + 1) = true) (hs0 : 0 ≤ sm) (hs1 : sm ≤ 1000) (q6 : sumL ys + sm ≤ 30) :
  Calls Tryd.prog 112 #[.agg #[.slice A1 3 c1, .slice A2 3 c2, .int .i64 L], .int .i64 2, .int .i64 ((u : Int) + 1), .int .i64 sm] w (RetTurn w lo A1 A2 c1 c2 (backed ⟨xs, ys, L⟩ 2 (u + 1) sm) true) := by
 have hu := user_range q3
 have hun : (u : Int) < 3 := by omega
 have hx : 0 ≤ ys.getD u 0 ∧ ys.getD u 0 ≤ 30 := by simpa [has, lst, ix] using has_bounds q1 2 ((u : Int) + 1)
 have hLb := locked_bounds q1; have hNb := notes_bounds q1; have HS2 := hH (lst_small q1 2); simp only [lst] at HS2; dsimp only at hLb hNb
 have HM : Hid (backed ⟨xs, ys, L⟩ 2 (u + 1) sm = ⟨xs, ys.set u (ys.getD u 0 + sm), L⟩) := by
  show _ = _
  exact backed_2 xs ys L u sm
 rw [HM.out]; obtain ⟨g, og, e1, hgl, hg, hc, hf⟩ := hr2.at_ (k := u) (by omega); subst e1; have hrs := hr2.set_ (k := u) (by omega) (ys.getD u 0 + sm); have HRS := hH hrs; clear hrs HM
 have d6 : decide (30 < sumL ys + sm) = false := by simp; omega
 have hg1 : g < w.heap.size + 1 := by omega
 have hg2 : g < w.heap.size + 1 + 1 := by omega
 have HR1 := hH hr1; have HR2 := hH hr2; have HD := hH hd; clear hr1 hr2 hd; generalize ys.getD u 0 = x at *
 go_enter Tryd.func112, Tryd.ntmps112
 go_wp2_with fail; refine (specAll_any _ 3 _ ys _ (((HR2.out.alloc _).alloc _).ints) HS2.out (by omega)).mono ?_; rintro e w' ⟨rfl, rfl⟩; go_wp2_with fail; refine (l1List_note _ _ 3 3 _ _ L _).mono ?_; rintro e w' ⟨rfl, rfl⟩; go_wp2; refine bodyPost_ret (v := .tuple #[.agg #[.slice A1 3 c1, .slice (some ⟨g, og, none⟩) 3 c2, .int .i64 (L)], .bool true]) (by simp [results, Tryd.results112, go_sem]) rfl ?_; refine ⟨rfl, (((HR1.out.keeps ((Keeps.refl (one g) w).set1 (og + u) (.int .i64 (x + sm))) fun i hi h => HD.out i hi (h ▸ blk_mk (by omega))).alloc _).alloc _).alloc _, ((HRS.out.alloc _).alloc _).alloc _, ?_⟩; exact ((((Keeps.refl _ w).setCell (p := ⟨g, og + u, none⟩) (.inr (.inr (blk_mk (by omega)))) _).alloc _).alloc _).alloc _

theorem l1Back_no_2 (A1 A2 : Option Addr) (c1 c2 lo : Nat) (L : Int) (xs ys : List Int) (w : World) (hr1 : Row w lo A1 3 xs) (hr2 : Row w lo A2 3 ys) (hd : ∀ i, blk A1 3 i → ¬ blk A2 3 i)
  (u : Nat) (sm : Int) (q1 : okB ⟨xs, ys, L⟩ = true) (q3 : userB ((u : Int) + 1) = true) (hs0 : 0 ≤ sm) (hs1 : sm ≤ 1000) (q6 : 30 < sumL ys + sm) :
  Calls Tryd.prog 112 #[.agg #[.slice A1 3 c1, .slice A2 3 c2, .int .i64 L], .int .i64 2, .int .i64 ((u : Int) + 1), .int .i64 sm] w (RetTurn w lo A1 A2 c1 c2 ⟨xs, ys, L⟩ false) := by
 have hu := user_range q3
 have hun : (u : Int) < 3 := by omega
 have hx : 0 ≤ ys.getD u 0 ∧ ys.getD u 0 ≤ 30 := by simpa [has, lst, ix] using has_bounds q1 2 ((u : Int) + 1)
 have hLb := locked_bounds q1; have hNb := notes_bounds q1; have HS2 := hH (lst_small q1 2); simp only [lst] at HS2; dsimp only at hLb hNb; obtain ⟨g, og, e1, hgl, hg, hc, hf⟩ := hr2.at_ (k := u) (by omega); subst e1
 have d6 : decide (30 < sumL ys + sm) = true := by simp; omega
 have hg1 : g < w.heap.size + 1 := by omega
 have hg2 : g < w.heap.size + 1 + 1 := by omega
 have HR1 := hH hr1; have HR2 := hH hr2; have HD := hH hd; clear hr1 hr2 hd; generalize ys.getD u 0 = x at *
 go_enter Tryd.func112, Tryd.ntmps112
 go_wp2_with fail; refine (specAll_any _ 3 _ ys _ (((HR2.out.alloc _).alloc _).ints) HS2.out (by omega)).mono ?_; rintro e w' ⟨rfl, rfl⟩; go_wp2; refine bodyPost_ret (v := .tuple #[.agg #[.slice A1 3 c1, .slice (some ⟨g, og, none⟩) 3 c2, .int .i64 (L)], .bool false]) (by simp [results, Tryd.results112, go_sem]) rfl ?_; exact ⟨rfl, (HR1.out.alloc _).alloc _, (HR2.out.alloc _).alloc _, ((Keeps.refl _ _).alloc _).alloc _⟩

def turnA (b : BankL) (k f s : Int) : BankL := if s ≤ has b k f then awayed b k f s else b
def turnB (b : BankL) (k t s : Int) : BankL := if s ≤ room b k then backed b k t s else b

theorem l1Away_any (A1 A2 : Option Addr) (c1 c2 lo : Nat) (L : Int) (xs ys : List Int) (w : World) (hr1 : Row w lo A1 3 xs) (hr2 : Row w lo A2 3 ys) (hd : ∀ i, blk A1 3 i → ¬ blk A2 3 i)
  (kd f sm : Int) (q1 : okB ⟨xs, ys, L⟩ = true) (q2 : kindB kd = true) (q3 : userB f = true) (hs0 : 0 ≤ sm) (hs1 : sm ≤ 1000) :
  Calls Tryd.prog 101 #[.agg #[.slice A1 3 c1, .slice A2 3 c2, .int .i64 L], .int .i64 kd, .int .i64 f, .int .i64 sm] w (RetTurn w lo A1 A2 c1 c2 (turnA ⟨xs, ys, L⟩ kd f sm) (decide (sm ≤ has ⟨xs, ys, L⟩ kd f))) := by
 obtain ⟨u, rfl⟩ := nat_of_user q3
 by_cases h : sm ≤ has ⟨xs, ys, L⟩ kd ((u : Int) + 1)
 ·rw [turnA, if_pos h, decide_eq_true h]
  rcases kind_cases q2 with rfl | rfl
  ·exact l1Away_ok_1 A1 A2 c1 c2 lo L xs ys w hr1 hr2 hd u sm q1 q3 hs0 hs1 (by simpa [has, lst, ix] using h)
  ·exact l1Away_ok_2 A1 A2 c1 c2 lo L xs ys w hr1 hr2 hd u sm q1 q3 hs0 hs1 (by simpa [has, lst, ix] using h)
 ·rw [turnA, if_neg h, decide_eq_false h]
  rcases kind_cases q2 with rfl | rfl
  ·exact l1Away_no_1 A1 A2 c1 c2 lo L xs ys w hr1 hr2 hd u sm q1 q3 hs0 hs1 (by simpa [has, lst, ix] using h)
  ·exact l1Away_no_2 A1 A2 c1 c2 lo L xs ys w hr1 hr2 hd u sm q1 q3 hs0 hs1 (by simpa [has, lst, ix] using h)

theorem l1Back_any (A1 A2 : Option Addr) (c1 c2 lo : Nat) (L : Int) (xs ys : List Int) (w : World) (hr1 : Row w lo A1 3 xs) (hr2 : Row w lo A2 3 ys) (hd : ∀ i, blk A1 3 i → ¬ blk A2 3 i)
  (kd f sm : Int) (q1 : okB ⟨xs, ys, L⟩ = true) (q2 : kindB kd = true) (q3 : userB f = true) (hs0 : 0 ≤ sm) (hs1 : sm ≤ 1000) :
  Calls Tryd.prog 112 #[.agg #[.slice A1 3 c1, .slice A2 3 c2, .int .i64 L], .int .i64 kd, .int .i64 f, .int .i64 sm] w (RetTurn w lo A1 A2 c1 c2 (turnB ⟨xs, ys, L⟩ kd f sm) (decide (sm ≤ room ⟨xs, ys, L⟩ kd))) := by
 obtain ⟨u, rfl⟩ := nat_of_user q3
 by_cases h : sm ≤ room ⟨xs, ys, L⟩ kd
 ·rw [turnB, if_pos h, decide_eq_true h]
  rcases kind_cases q2 with rfl | rfl
  ·exact l1Back_ok_1 A1 A2 c1 c2 lo L xs ys w hr1 hr2 hd u sm q1 q3 hs0 hs1 (by simpa [room] using h)
  ·exact l1Back_ok_2 A1 A2 c1 c2 lo L xs ys w hr1 hr2 hd u sm q1 q3 hs0 hs1 (by simp [room] at h; omega)
 ·rw [turnB, if_neg h, decide_eq_false h]
  rcases kind_cases q2 with rfl | rfl
  ·exact l1Back_no_1 A1 A2 c1 c2 lo L xs ys w hr1 hr2 hd u sm q1 q3 hs0 hs1 (by simpa [room] using h)
  ·exact l1Back_no_2 A1 A2 c1 c2 lo L xs ys w hr1 hr2 hd u sm q1 q3 hs0 hs1 (by simp [room] at h; omega)

end Go.Proofs.YtjcbeihoeanhaaaDoor
