/- The reader of the draws: l6Open, pick: some number from 0 to n-1; only the reader's own block turns. pick of the model: what it hands back is settled ahead of the call. Worlds of two chains beside a reader of draws: what a draw of plays goes by. Nothing here speaks of the program's functions. A copy of a chain, and what l13Get, l13Tell, l13Late of the model do to it. What SumPlan of the model tells: each by itself. Nothing here speaks of the program's text. No condition. -/
import Derived.Laws.BitsAllLaws
import Derived.Laws.BitsLemmas
import Derived.Test.YtjcbeihoeanhaaaDoorGWdB
import Derived.Test.YtjcbeihoeanhaaaDoorCxWB
set_option maxHeartbeats 2000000
set_option linter.unusedVariables false
set_option linter.unusedSimpArgs false
/-! Pick -/
namespace Go.Proofs.YtjcbeihoeanhaaaDoor
open Go.RowKit

theorem rem_hi {z n : Int} (h : 0 ≤ z) (hn : 0 < n) : z.tmod n < n := by
 rw [Int.tmod_eq_emod_of_nonneg h]; exact Int.emod_lt_of_pos _ hn
theorem xor_low (a b : Int) (ha : 0 ≤ a) (ha2 : a ≤ 1000000000000) (hb : 0 ≤ b) (hb2 : b ≤ 1000000000000) : 0 ≤ bits .xor .i64 a b ∧ bits .xor .i64 a b < 9223372036854775808 := by
 obtain ⟨x, rfl⟩ := Int.eq_ofNat_of_zero_le ha; obtain ⟨y, rfl⟩ := Int.eq_ofNat_of_zero_le hb
 have hof : ∀ n : Nat, n < 9223372036854775808 → (BitVec.ofInt 64 (n : Int)).toNat = n := fun n hn => by
  rw [BitVec.ofInt_natCast, BitVec.toNat_ofNat]; exact Nat.mod_eq_of_lt (by omega)
 have hx : x ^^^ y < 2 ^ 63 := Nat.xor_lt_two_pow (by omega) (by omega)
 have e : bits .xor .i64 (x : Int) (y : Int) = ((x ^^^ y : Nat) : Int) := by
  show IntKind.i64.wrap ((BitVec.ofInt 64 (x : Int) ^^^ BitVec.ofInt 64 (y : Int)).toNat : Int) = _
  rw [BitVec.toNat_xor, hof x (by omega), hof y (by omega), IntKind.wrap_i64]
  omega
 rw [e]
 omega

def Bytes (w : World) (A : Option Addr) (n : Nat) (zs : List Int) : Prop :=
 zs.length = n ∧ (∀ z ∈ zs, 0 ≤ z ∧ z ≤ 255) ∧ (0 < n → ∃ b off, A = some ⟨b, off, none⟩ ∧ b < w.heap.size ∧ ∀ j x, zs[j]? = some x → w.cell? ⟨b, off + j, none⟩ = some (.int .u8 x))
theorem Bytes.keeps {S : Nat → Prop} {w w' : World} {A : Option Addr} {n : Nat} {zs : List Int} (h : Bytes w A n zs) (hk : Keeps S w w') (hs : ∀ b, blk A n b → ¬ S b) : Bytes w' A n zs :=
 ⟨h.1, h.2.1, fun hn => by
  obtain ⟨b, off, e, hb, hc⟩ := h.2.2 hn
  exact ⟨b, off, e, Nat.lt_of_lt_of_le hb hk.size, fun j x hx => (hk.cell hb (hs b ⟨hn, _, e, rfl⟩)).trans (hc j x hx)⟩⟩
theorem Bytes.lt {w : World} {A : Option Addr} {n : Nat} {zs : List Int} (h : Bytes w A n zs) {b : Nat} (hb : blk A n b) : b < w.heap.size := by
 obtain ⟨hn, a, rfl, rfl⟩ := hb; obtain ⟨b, off, e, hl, _⟩ := h.2.2 hn
 injection e with e
 subst e; exact hl
theorem Bytes.at_ {w : World} {A : Option Addr} {n k : Nat} {zs : List Int} (h : Bytes w A n zs) (hk : k < n) :
  ∃ b off z, A = some ⟨b, off, none⟩ ∧ b < w.heap.size ∧ w.cell? ⟨b, off + k, none⟩ = some (.int .u8 z) ∧ 0 ≤ z ∧ z ≤ 255 := by
 obtain ⟨b, off, e, hb, hc⟩ := h.2.2 (by omega)
 have hl : k < zs.length := by have := h.1; omega
 have hz := h.2.1 zs[k] (by simp); exact ⟨b, off, zs[k], e, hb, hc k _ (List.getElem?_eq_getElem hl), hz.1, hz.2⟩

theorem Bytes.take {w : World} {A : Option Addr} {n k : Nat} {zs : List Int} (h : Bytes w A n zs) (hk : k ≤ n) : Bytes w A k (zs.take k) := by
 obtain ⟨h1, h2, h3⟩ := h; refine ⟨by simp; omega, fun z hz => h2 z (List.mem_of_mem_take hz), fun hn => ?_⟩; obtain ⟨b, off, e, hb, hc⟩ := h3 (by omega); refine ⟨b, off, e, hb, fun j x hx => hc j x ?_⟩
 have hj : j < k := by
  have := (List.getElem?_eq_some_iff.1 hx).1; simp at this
  omega
 rw [List.getElem?_take_of_lt hj] at hx; exact hx

def Rd (w : World) (g : Nat) (lim : Int) : Prop :=
 ∃ A m c p zs, Box w g 79 #[.slice A m c, .int .i64 p] ∧ 0 ≤ p ∧ p ≤ lim ∧ m ≤ 2000 ∧ Bytes w A m zs ∧ ∀ b, blk A m b → b < g
theorem Rd.keeps {S : Nat → Prop} {w w' : World} {g : Nat} {lim : Int} (h : Rd w g lim) (hk : Keeps S w w') (hS : ∀ b, b ≤ g → ¬ S b) : Rd w' g lim := by
 obtain ⟨A, m, c, p, zs, h1, h2, h3, h4, h5, h6⟩ := h; exact ⟨A, m, c, p, zs, h1.keeps hk (hS g (Nat.le_refl _)), h2, h3, h4, h5.keeps hk (fun b hb => hS b (Nat.le_of_lt (h6 b hb))), h6⟩
theorem Rd.more {w : World} {g : Nat} {lim lim' : Int} (h : Rd w g lim) (hl : lim ≤ lim') : Rd w g lim' := by
 obtain ⟨A, m, c, p, zs, h1, h2, h3, h4, h5, h6⟩ := h; exact ⟨A, m, c, p, zs, h1, h2, by omega, h4, h5, h6⟩
theorem Rd.alloc {w : World} {g : Nat} {lim : Int} (h : Rd w g lim) (o : Obj) : Rd (w.alloc o) g lim := h.keeps ((Keeps.refl noBlk w).alloc o) fun _ _ x => x
theorem Rd.drew {w : World} {g : Nat} {lim : Int} (h : Rd w g lim) : Rd w.drew g lim := h
theorem Rd.drewN {w : World} {g : Nat} {lim : Int} (h : Rd w g lim) (n : Nat) : Rd (w.drewN n) g lim := h
theorem Rd.lt {w : World} {g : Nat} {lim : Int} (h : Rd w g lim) : g < w.heap.size := by
 obtain ⟨A, m, c, p, zs, h1, _⟩ := h; exact h1.lt

def RetPick (w : World) (g : Nat) (lim n : Int) (e : Ending) (w' : World) : Prop :=
 ∃ v : Int, e = .returned (.int .i64 v) ∧ 0 ≤ v ∧ v < n ∧ Rd w' g (lim + 1) ∧ Keeps (one g) w w'

theorem pick_any (g : Nat) (lim n : Int) (w : World) (hr : Rd w g lim) (hl : lim ≤ 1000000000) (hn : 1 ≤ n) (hn2 : n ≤ 100000) :
  Calls Tryd.prog 43 #[.pointer (some ⟨g, 0, none⟩), .int .i64 n] w (RetPick w g lim n) := by
 obtain ⟨A, m, c, p, zs, h1, h2, h3, h4, h5, h6⟩ := hr; have c0 := h1.cell 0; have c1 := h1.cell 1; have f1 := h1.frozen 1; simp at c0 c1; have H1 := hH h1; have H5 := hH h5; have H6 := hH h6; clear h1 h5 h6
 have hn1 : ¬ n < 1 := by omega
 have hd1 : decide (n < 1) = false := by simpa using hn1
 obtain ⟨k, rfl⟩ := Int.eq_ofNat_of_zero_le h2
 have hend : ∀ W : World, Keeps (one g) w W → Box W g 79 #[.slice A m c, .int .i64 ((k : Int) + 1)] → Rd W g (lim + 1) :=
  fun W hK hB => ⟨A, m, c, (k : Int) + 1, zs, hB, by omega, by omega, h4, H5.out.keeps hK (fun b hb e => Nat.ne_of_lt (H6.out b hb) e), H6.out⟩
 have hK1 : Keeps (one g) w (w.setCell ⟨g, 1, none⟩ (.int .i64 ((k : Int) + 1))) := (Keeps.refl _ w).set1 1 _
 have hB1 : Box (w.setCell ⟨g, 1, none⟩ (.int .i64 ((k : Int) + 1))) g 79 #[.slice A m c, .int .i64 ((k : Int) + 1)] := by
  have := H1.out.set_ 1 (.int .i64 ((k : Int) + 1))
  simpa using this
 have HE := hH hend; have HK := hH hK1; have HB := hH hB1; clear hend hK1 hB1
 by_cases hm : m = 0
 ·have hm0 : ((m : Int) == 0) = true := by simp; omega
  clear hm
  go_enter Tryd.func43, Tryd.ntmps43
  go_wp2; go_ret; exact ⟨0, rfl, by omega, by omega, HE.out _ HK.out HB.out, HK.out⟩
 ·have hm0 : ((m : Int) == 0) = false := by simp; omega
  by_cases hk : k < m
  ·obtain ⟨b, off, z, rfl, hb, hc, hz0, hz1⟩ := H5.out.at_ hk
   have hbg : ¬ b = g := Nat.ne_of_lt (H6.out b ⟨by omega, _, rfl, rfl⟩)
   have hcz : (w.setCell ⟨g, 1, none⟩ (.int .i64 ((k : Int) + 1))).cell? ⟨b, off + k, none⟩ = some (.int .u8 z) := by
    rw [World.cell?_setCell_other _ _ _ _ (fun e => hbg (by injection e with e; exact e.symm))]; exact hc
   have hlt : (k : Int) < (m : Int) := by omega
   go_enter Tryd.func43, Tryd.ntmps43
   go_wp2; go_ret; refine ⟨_, rfl, ?_, ?_, HE.out _ HK.out HB.out, HK.out⟩
   ·first | exact Int.emod_nonneg _ (by omega) | exact Int.tmod_nonneg _ hz0
   ·first | exact Int.emod_lt_of_pos _ (by omega) | exact rem_hi hz0 (by omega)
  ·have hm1 : 0 < m := by omega
   obtain ⟨b, off, z1, rfl, hb, hc1, hz1, hz1'⟩ := H5.out.at_ (Nat.mod_lt k hm1); obtain ⟨b2, off2, z2, e2, _, hc2, hz2, hz2'⟩ := H5.out.at_ (Nat.mod_lt (k * 7 + 3) hm1)
   injection e2 with e2
   injection e2 with e2 e3
   subst e2; subst e3; have hbg : ¬ b = g := Nat.ne_of_lt (H6.out b ⟨by omega, _, rfl, rfl⟩)
   have hc1' : (w.setCell ⟨g, 1, none⟩ (.int .i64 ((k : Int) + 1))).cell? ⟨b, off + k % m, none⟩ = some (.int .u8 z1) := by
    rw [World.cell?_setCell_other _ _ _ _ (fun e => hbg (by injection e with e; exact e.symm))]; exact hc1
   have hc2' : (w.setCell ⟨g, 1, none⟩ (.int .i64 ((k : Int) + 1))).cell? ⟨b, off + (k * 7 + 3) % m, none⟩ = some (.int .u8 z2) := by
    rw [World.cell?_setCell_other _ _ _ _ (fun e => hbg (by injection e with e; exact e.symm))]; exact hc2
   have t1 : (k : Int).tmod (m : Int) = ((k % m : Nat) : Int) := by rw [Int.tmod_eq_emod_of_nonneg (by omega)]; omega
   have t2 : ((k : Int) * 7 + 3).tmod (m : Int) = (((k * 7 + 3) % m : Nat) : Int) := by rw [Int.tmod_eq_emod_of_nonneg (by omega)]; simp
   have t3 : (k : Int).tdiv (m : Int) = ((k / m : Nat) : Int) := by rw [Int.tdiv_eq_ediv_of_nonneg (by omega)]; omega
   have l1 : k % m < m := Nat.mod_lt _ hm1; have l2 : (k * 7 + 3) % m < m := Nat.mod_lt _ hm1; have l3 : k / m ≤ k := Nat.div_le_self _ _; generalize k % m = i1 at hc1' t1 l1; generalize (k * 7 + 3) % m = i2 at hc2' t2 l2; generalize k / m = q at t3 l3
   have L1 : (i1 : Int) < (m : Int) := by omega
   have L2 : (i2 : Int) < (m : Int) := by omega
   have w1 : IntKind.i64.wrap (i1 : Int) = (i1 : Int) := IntWalk.i64_in _ (by omega); have w2 : IntKind.i64.wrap (i2 : Int) = (i2 : Int) := IntWalk.i64_in _ (by omega); have w3 : IntKind.i64.wrap (q : Int) = (q : Int) := IntWalk.i64_in _ (by omega); have w4 : IntKind.i64.wrap ((k : Int) * 7) = (k : Int) * 7 := IntWalk.i64_in _ (by omega); have w5 : IntKind.i64.wrap ((k : Int) * 7 + 3) = (k : Int) * 7 + 3 := IntWalk.i64_in _ (by omega); have w6 : IntKind.i64.wrap z1 = z1 := IntWalk.i64_in _ (by omega); have w7 : IntKind.i64.wrap z2 = z2 := IntWalk.i64_in _ (by omega); have w8 : IntKind.i64.wrap (z1 * 131) = z1 * 131 := IntWalk.i64_in _ (by omega); have w9 : IntKind.i64.wrap (z2 * 1117) = z2 * 1117 := IntWalk.i64_in _ (by omega); have w10 : IntKind.i64.wrap (z1 * 131 + z2 * 1117) = z1 * 131 + z2 * 1117 := IntWalk.i64_in _ (by omega); have w11 : IntKind.i64.wrap ((k : Int) * 29) = (k : Int) * 29 := IntWalk.i64_in _ (by omega); have w12 : IntKind.i64.wrap (z1 * 131 + z2 * 1117 + (k : Int) * 29) = z1 * 131 + z2 * 1117 + (k : Int) * 29 := IntWalk.i64_in _ (by omega); have w13 : IntKind.i64.wrap ((q : Int) * 53) = (q : Int) * 53 := IntWalk.i64_in _ (by omega); have w14 : IntKind.i64.wrap (z1 * 131 + z2 * 1117 + (k : Int) * 29 + (q : Int) * 53) = z1 * 131 + z2 * 1117 + (k : Int) * 29 + (q : Int) * 53 := IntWalk.i64_in _ (by omega)
   go_enter Tryd.func43, Tryd.ntmps43
   go_wp2
   go_quiet (fail)
   clear t1 t2 t3 w1 w2 w3 w4 w5 w6 w7 w8 w9 w10 w11 w12 w13 w14 hc1 hc2 hc1' hc2' L1 L2 hk
   have hX : 0 ≤ z1 * 131 + z2 * 1117 + (k : Int) * 29 + (q : Int) * 53 ∧ z1 * 131 + z2 * 1117 + (k : Int) * 29 + (q : Int) * 53 ≤ 1000000000000 := by omega
   generalize z1 * 131 + z2 * 1117 + (k : Int) * 29 + (q : Int) * 53 = X at hX ⊢; go_wp2; go_ret; have hx := xor_low X (X / 64) (by omega) (by omega) (by omega) (by omega); refine ⟨_, rfl, Int.tmod_nonneg _ hx.1, ?_, HE.out _ (HK.out.drewN _) HB.out, HK.out.drewN _⟩; rw [Int.tmod_eq_emod_of_nonneg hx.1]; exact Int.emod_lt_of_pos _ (by omega)

def RetRd (w : World) (e : Ending) (w' : World) : Prop := ∃ g, e = .returned (.pointer (some ⟨g, 0, none⟩)) ∧ g = w.heap.size ∧ Rd w' g 0 ∧ Keeps noBlk w w'

theorem l6Open_any (A : Option Addr) (n c : Nat) (zs : List Int) (w : World) (h : Bytes w A n zs) (hc : n ≤ c) (hcm : c ≤ maxLen) :
  Calls Tryd.prog 41 #[.slice A n c] w (RetRd w) := by
 unfold maxLen at hcm; have H := hH h; clear h
 by_cases hn : n ≤ 2000
 ·have hd : ¬ (2000 : Int) < (n : Int) := by omega
  go_enter Tryd.func41, Tryd.ntmps41
  go_wp2; go_ret; have hk : Keeps noBlk w (w.alloc (.cells #[.slice A n c, .int .i64 0] 79)) := (Keeps.refl _ w).alloc _; exact ⟨_, rfl, rfl, ⟨A, n, c, 0, zs, Box.new w _ rfl _ _, by omega, by omega, hn, H.out.keeps hk (fun _ _ h => h), fun b hb => H.out.lt hb⟩, hk⟩
 ·have hd : (2000 : Int) < (n : Int) := by omega
  go_enter Tryd.func41, Tryd.ntmps41
  go_wp2; go_ret; have hk : Keeps noBlk w (w.alloc (.cells #[.slice A 2000 c, .int .i64 0] 79)) := (Keeps.refl _ w).alloc _; have hb := H.out.take (k := 2000) (by omega); exact ⟨_, rfl, rfl, ⟨A, 2000, c, 0, zs.take 2000, Box.new w _ rfl _ _, by omega, by omega, by omega, hb.keeps hk (fun _ _ h => h), fun b hx => hb.lt hx⟩, hk⟩

def RetPickV (w : World) (g : Nat) (lim v : Int) (e : Ending) (w' : World) : Prop := e = .returned (.int .i64 v) ∧ Rd w' g (lim + 1) ∧ Keeps (one g) w w'
theorem pick_det (g : Nat) (lim n : Int) (w : World) (hr : Rd w g lim) (hl : lim ≤ 1000000000) (hn : 1 ≤ n) (hn2 : n ≤ 100000) :
  ∃ v : Int, 0 ≤ v ∧ v < n ∧ ∀ W, Keeps noBlk w W → Calls Tryd.prog 43 #[.pointer (some ⟨g, 0, none⟩), .int .i64 n] W (RetPickV W g lim v) := by
 obtain ⟨A, m, c, p, zs, hb1, h2, h3, h4, hb5, hb6⟩ := hr; have HB1 := hH hb1; have HB5 := hH hb5; have HB6 := hH hb6; clear hb1 hb5 hb6
 have hn1 : ¬ n < 1 := by omega
 have hd1 : decide (n < 1) = false := by simpa using hn1
 obtain ⟨k, rfl⟩ := Int.eq_ofNat_of_zero_le h2
 have PRE : Hid (∀ W, Keeps noBlk w W → (W.cell? ⟨g, 0, none⟩ = some (.slice A m c) ∧ W.cell? ⟨g, 1, none⟩ = some (.int .i64 (k : Int)) ∧ W.frozen? ⟨g, 1, none⟩ = false) ∧
   (∀ W2 : World, Keeps (one g) W W2 → Box W2 g 79 #[.slice A m c, .int .i64 ((k : Int) + 1)] → Rd W2 g (lim + 1)) ∧
   Keeps (one g) W (W.setCell ⟨g, 1, none⟩ (.int .i64 ((k : Int) + 1))) ∧ Box (W.setCell ⟨g, 1, none⟩ (.int .i64 ((k : Int) + 1))) g 79 #[.slice A m c, .int .i64 ((k : Int) + 1)]) := hH fun W hk => by
  have h1 := HB1.out.keeps hk fun h => h
  have h5 := HB5.out.keeps hk fun _ _ h => h
  obtain ⟨c0, c1⟩ := h1.cells2; refine ⟨⟨c0, c1, h1.frozen 1⟩, fun W2 hK hB => ⟨A, m, c, (k : Int) + 1, zs, hB, by omega, by omega, h4, h5.keeps hK (fun b hb e => Nat.ne_of_lt (HB6.out b hb) e), HB6.out⟩, (Keeps.refl _ W).set1 1 _, ?_⟩; have := h1.set_ 1 (.int .i64 ((k : Int) + 1))
  simpa using this
 by_cases hm : m = 0
 ·refine ⟨0, by omega, by omega, fun W hkW => ?_⟩
  obtain ⟨⟨c0, c1, f1⟩, hE, hK, hB⟩ := PRE.out W hkW; have HE := hH hE; have HK := hH hK; have HB := hH hB
  have hm0 : ((m : Int) == 0) = true := by simp; omega
  clear hm hE hK hB hkW
  go_enter Tryd.func43, Tryd.ntmps43
  go_wp2; go_ret; exact ⟨rfl, HE.out _ HK.out HB.out, HK.out⟩
 ·have hm0 : ((m : Int) == 0) = false := by simp; omega
  by_cases hk : k < m
  ·obtain ⟨b, off, z, rfl, hb, hc, hz0, hz1⟩ := HB5.out.at_ hk
   have HC := hH hc; clear hc; refine ⟨z.tmod n, Int.tmod_nonneg _ hz0, rem_hi hz0 (by omega), fun W hkW => ?_⟩; obtain ⟨⟨c0, c1, f1⟩, hE, hK, hB⟩ := PRE.out W hkW; have hbg : ¬ b = g := Nat.ne_of_lt (HB6.out b ⟨by omega, _, rfl, rfl⟩)
   have hcz : (W.setCell ⟨g, 1, none⟩ (.int .i64 ((k : Int) + 1))).cell? ⟨b, off + k, none⟩ = some (.int .u8 z) := by
    rw [World.cell?_setCell_other _ _ _ _ (fun e => hbg (by injection e with e; exact e.symm))]; exact (hkW.cell hb fun h => h).trans HC.out
   have hlt : (k : Int) < (m : Int) := by omega
   have HE := hH hE; have HK := hH hK; have HB := hH hB; clear hE hK hB hkW
   go_enter Tryd.func43, Tryd.ntmps43
   go_wp2; go_ret; exact ⟨by rw [Int.tmod_eq_emod_of_nonneg hz0]; rfl, HE.out _ HK.out HB.out, HK.out⟩
  ·have hm1 : 0 < m := by omega
   obtain ⟨b, off, z1, rfl, hb, hc1, hz1, hz1'⟩ := HB5.out.at_ (Nat.mod_lt k hm1); obtain ⟨b2, off2, z2, e2, _, hc2, hz2, hz2'⟩ := HB5.out.at_ (Nat.mod_lt (k * 7 + 3) hm1)
   injection e2 with e2
   injection e2 with e2 e3
   subst e2; subst e3; have HC1 := hH hc1; have HC2 := hH hc2; have hbg : ¬ b = g := Nat.ne_of_lt (HB6.out b ⟨by omega, _, rfl, rfl⟩); obtain ⟨q, hq, hqk⟩ : ∃ q : Nat, k / m = q ∧ q ≤ k := ⟨_, rfl, Nat.div_le_self _ _⟩; obtain ⟨X, hXe, hX⟩ : ∃ X : Int, (z1 * 131 + z2 * 1117 + (k : Int) * 29 + (q : Int) * 53) = X ∧ (0 ≤ X ∧ X ≤ 1000000000000) := ⟨_, rfl, by omega⟩; have hx := xor_low X (X / 64) (by omega) (by omega) (by omega) (by omega); refine ⟨(bits .xor .i64 X (X / 64)).tmod n, Int.tmod_nonneg _ hx.1, rem_hi hx.1 (by omega), fun W hkW => ?_⟩; obtain ⟨⟨c0, c1, f1⟩, hE, hK, hB⟩ := PRE.out W hkW
   have hc1' : (W.setCell ⟨g, 1, none⟩ (.int .i64 ((k : Int) + 1))).cell? ⟨b, off + k % m, none⟩ = some (.int .u8 z1) := by
    rw [World.cell?_setCell_other _ _ _ _ (fun e => hbg (by injection e with e; exact e.symm))]; exact (hkW.cell hb fun h => h).trans HC1.out
   have hc2' : (W.setCell ⟨g, 1, none⟩ (.int .i64 ((k : Int) + 1))).cell? ⟨b, off + (k * 7 + 3) % m, none⟩ = some (.int .u8 z2) := by
    rw [World.cell?_setCell_other _ _ _ _ (fun e => hbg (by injection e with e; exact e.symm))]; exact (hkW.cell hb fun h => h).trans HC2.out
   have HE := hH hE; have HK := hH hK; have HB := hH hB; have HX := hH hX; have HXE := hH hXe; clear hE hK hB hkW hX hx hXe
   have t1 : (k : Int).tmod (m : Int) = ((k % m : Nat) : Int) := by rw [Int.tmod_eq_emod_of_nonneg (by omega)]; omega
   have t2 : ((k : Int) * 7 + 3).tmod (m : Int) = (((k * 7 + 3) % m : Nat) : Int) := by rw [Int.tmod_eq_emod_of_nonneg (by omega)]; simp
   have t3 : (k : Int).tdiv (m : Int) = ((k / m : Nat) : Int) := by rw [Int.tdiv_eq_ediv_of_nonneg (by omega)]; omega
   have l1 : k % m < m := Nat.mod_lt _ hm1; have l2 : (k * 7 + 3) % m < m := Nat.mod_lt _ hm1; have l3 : k / m ≤ k := Nat.div_le_self _ _; generalize k % m = i1 at hc1' t1 l1; generalize (k * 7 + 3) % m = i2 at hc2' t2 l2; rw [hq] at t3 l3; clear hq
   have L1 : (i1 : Int) < (m : Int) := by omega
   have L2 : (i2 : Int) < (m : Int) := by omega
   have w1 : IntKind.i64.wrap (i1 : Int) = (i1 : Int) := IntWalk.i64_in _ (by omega); have w2 : IntKind.i64.wrap (i2 : Int) = (i2 : Int) := IntWalk.i64_in _ (by omega); have w3 : IntKind.i64.wrap (q : Int) = (q : Int) := IntWalk.i64_in _ (by omega); have w4 : IntKind.i64.wrap ((k : Int) * 7) = (k : Int) * 7 := IntWalk.i64_in _ (by omega); have w5 : IntKind.i64.wrap ((k : Int) * 7 + 3) = (k : Int) * 7 + 3 := IntWalk.i64_in _ (by omega); have w6 : IntKind.i64.wrap z1 = z1 := IntWalk.i64_in _ (by omega); have w7 : IntKind.i64.wrap z2 = z2 := IntWalk.i64_in _ (by omega); have w8 : IntKind.i64.wrap (z1 * 131) = z1 * 131 := IntWalk.i64_in _ (by omega); have w9 : IntKind.i64.wrap (z2 * 1117) = z2 * 1117 := IntWalk.i64_in _ (by omega); have w10 : IntKind.i64.wrap (z1 * 131 + z2 * 1117) = z1 * 131 + z2 * 1117 := IntWalk.i64_in _ (by omega); have w11 : IntKind.i64.wrap ((k : Int) * 29) = (k : Int) * 29 := IntWalk.i64_in _ (by omega); have w12 : IntKind.i64.wrap (z1 * 131 + z2 * 1117 + (k : Int) * 29) = z1 * 131 + z2 * 1117 + (k : Int) * 29 := IntWalk.i64_in _ (by omega); have w13 : IntKind.i64.wrap ((q : Int) * 53) = (q : Int) * 53 := IntWalk.i64_in _ (by omega); have w14 : IntKind.i64.wrap (z1 * 131 + z2 * 1117 + (k : Int) * 29 + (q : Int) * 53) = z1 * 131 + z2 * 1117 + (k : Int) * 29 + (q : Int) * 53 := IntWalk.i64_in _ (by omega)
   go_enter Tryd.func43, Tryd.ntmps43
   go_wp2
   go_quiet (fail)
   clear t1 t2 t3 w1 w2 w3 w4 w5 w6 w7 w8 w9 w10 w11 w12 w13 w14 hc1 hc2 hc1' hc2' L1 L2 hk; have hX := HX.out; have hXe := HXE.out; clear HX HXE; rw [hXe]; have u1 : IntKind.i64.wrap X = X := IntWalk.i64_in _ (by omega); have u2 : X.tdiv 64 = X / 64 := Int.tdiv_eq_ediv_of_nonneg hX.1; have u3 : IntKind.i64.wrap (X / 64) = X / 64 := IntWalk.i64_in _ (by omega); clear hXe; go_wp2; go_ret; exact ⟨rfl, HE.out _ (HK.out.drewN _) HB.out, HK.out.drewN _⟩

def Ev.cs (e : Ev) : List Value := [.int .i64 e.kd, .int .i64 e.ch, .int .i64 e.h, .int .i64 e.n, .int .i64 e.p.s, .int .i64 e.p.k, .int .i64 e.p.f, .int .i64 e.p.t, .int .i64 e.p.m, .int .i64 e.p.u, .int .i64 e.p.v]
theorem evcs_length (e : Ev) : e.cs.length = 11 := rfl
def vEs (l : List Ev) : List Value := l.flatMap Ev.cs
theorem vEs_length (l : List Ev) : (vEs l).length = l.length * 11 := flat_length 11 _ evcs_length l
theorem vEs_snoc (l : List Ev) (e : Ev) : vEs (l ++ [e]) = vEs l ++ e.cs := by simp [vEs]
theorem one_ev {e : Ev} : ∀ u ∈ e.cs, u.oneCell' = true := by
 intro u hu; simp only [Ev.cs, List.mem_cons, List.not_mem_nil, or_false] at hu
 rcases hu with rfl | rfl | rfl | rfl | rfl | rfl | rfl | rfl | rfl | rfl | rfl <;> rfl
def ev0 : Ev := ⟨0, 0, 0, 0, ⟨0, 0, 0, 0, 0, 0, 0⟩⟩
def Evs (w : World) (A : Option Addr) (n : Nat) (l : List Ev) : Prop :=
 l.length = n ∧ (0 < n → ∃ b off, A = some ⟨b, off, none⟩ ∧ b < w.heap.size ∧ ∀ j e, l[j]? = some e → ∀ i c, e.cs[i]? = some c → w.cell? ⟨b, off + (j * 11 + i), none⟩ = some c)
theorem Evs.keeps {S : Nat → Prop} {w w' : World} {A : Option Addr} {n : Nat} {l : List Ev} (h : Evs w A n l) (hk : Keeps S w w') (hs : ∀ b, blk A n b → ¬ S b) : Evs w' A n l :=
 ⟨h.1, fun hn => by
  obtain ⟨b, off, e, hb, hc⟩ := h.2 hn
  exact ⟨b, off, e, Nat.lt_of_lt_of_le hb hk.size, fun j p hp i c hi => (hk.cell hb (hs b ⟨hn, _, e, rfl⟩)).trans (hc j p hp i c hi)⟩⟩
theorem Evs.kept {w w' : World} {A : Option Addr} {n : Nat} {l : List Ev} (h : Evs w A n l) (hk : Keeps noBlk w w') : Evs w' A n l := h.keeps hk fun _ _ h => h
theorem Evs.lt {w : World} {A : Option Addr} {n : Nat} {l : List Ev} (h : Evs w A n l) {b : Nat} (hb : blk A n b) : b < w.heap.size := by
 obtain ⟨hn, a, rfl, rfl⟩ := hb; obtain ⟨b, off, e, hl, _⟩ := h.2 hn
 injection e with e
 subst e; exact hl
theorem Evs.at_ {w : World} {A : Option Addr} {n k : Nat} {l : List Ev} (h : Evs w A n l) (hk : k < n) :
  ∃ b off, A = some ⟨b, off, none⟩ ∧ b < w.heap.size ∧
   w.cell? ⟨b, off + k * 11, none⟩ = some (.int .i64 (l.getD k ev0).kd) ∧ w.cell? ⟨b, off + k * 11 + 1, none⟩ = some (.int .i64 (l.getD k ev0).ch) ∧ w.cell? ⟨b, off + k * 11 + 2, none⟩ = some (.int .i64 (l.getD k ev0).h) ∧ w.cell? ⟨b, off + k * 11 + 3, none⟩ = some (.int .i64 (l.getD k ev0).n) ∧
   w.cell? ⟨b, off + k * 11 + 4, none⟩ = some (.int .i64 (l.getD k ev0).p.s) ∧ w.cell? ⟨b, off + k * 11 + 5, none⟩ = some (.int .i64 (l.getD k ev0).p.k) ∧ w.cell? ⟨b, off + k * 11 + 6, none⟩ = some (.int .i64 (l.getD k ev0).p.f) ∧ w.cell? ⟨b, off + k * 11 + 7, none⟩ = some (.int .i64 (l.getD k ev0).p.t) ∧
   w.cell? ⟨b, off + k * 11 + 8, none⟩ = some (.int .i64 (l.getD k ev0).p.m) ∧ w.cell? ⟨b, off + k * 11 + 9, none⟩ = some (.int .i64 (l.getD k ev0).p.u) ∧ w.cell? ⟨b, off + k * 11 + 10, none⟩ = some (.int .i64 (l.getD k ev0).p.v) := by
 obtain ⟨b, off, e, hb, hc⟩ := h.2 (by omega)
 have hl : k < l.length := by have := h.1; omega
 have h7 := hc k _ (getD_some ev0 hl); exact ⟨b, off, e, hb, h7 0 _ rfl, h7 1 _ rfl, h7 2 _ rfl, h7 3 _ rfl, h7 4 _ rfl, h7 5 _ rfl, h7 6 _ rfl, h7 7 _ rfl, h7 8 _ rfl, h7 9 _ rfl, h7 10 _ rfl⟩
theorem owns_evs {w : World} {e : TypeId} {A : Option Addr} {c : Nat} {l : List Ev} (h : w.ownsRow 0 e 11 (.slice A l.length c) l.length (vEs l)) : Evs w A l.length l := by
 obtain ⟨_, h1, h2⟩ := owns_cells h; refine ⟨rfl, fun hn => ?_⟩
 cases A with
 | none => have := (h1 rfl).1; omega
 | some a =>
  obtain ⟨g, rfl, hg, hc, _⟩ := h2 a rfl; refine ⟨g, 0, rfl, hg, fun j s hs i cc hi => hc _ _ ?_⟩; have hi7 : i < 11 := (List.getElem?_eq_some_iff.1 hi).1; unfold vEs; rw [flat_at 11 _ evcs_length l j i hi7, hs]; exact hi

theorem MtW.ne0 {G : Nat → Nat} {b : Nat} (h : MtW G b) : G b ≠ 0 := by
 rcases h with ⟨k, _, hk⟩ | ⟨k, _, hk⟩ | h
 ·rw [hk]; unfold rl; omega
 ·rw [hk]; unfold rl; omega
 ·rw [h]; decide
theorem WdR.keeps {S : Nat → Prop} {G : Nat → Nat} {w w' : World} {m : WdM} (h : WdR G w m) (hk : Keeps S w w') (hs : ∀ b, G b ≠ 0 → ¬ S b) : WdR G w' m := by
 have hs' : ∀ i b, (Mt G i b ∨ G b = 1) → ¬ S b := fun i b hb => hs b (by
  rcases hb with ⟨k, _, hk⟩ | hb
  ·rw [hk]; unfold rl; omega
  ·rw [hb]; decide)
 exact ⟨h.1.keeps hk (hs _ (by rw [h.2.1]; decide)), h.2.1, h.2.2.1.keeps hk (hs' 0), h.2.2.2.keeps hk (hs' 1)⟩
theorem WdR.ext {G G' : Nat → Nat} {w : World} {m : WdM} (h : WdR G w m) (hG : ∀ b, b < w.heap.size → G' b = G b) : WdR G' w m :=
 ⟨h.1, (hG _ h.1.lt).trans h.2.1, h.2.2.1.ext hG, h.2.2.2.ext hG⟩
structure Pl (G : Nat → Nat) (w : World) (m : WdM) (g : Nat) (lim : Int) (q n0 : Nat) : Prop where
 wd : WdR G w m
 ok : WdOk m q
 rd : Rd w g lim
 lt : g < n0
 z : ∀ b, b < n0 → G b = 0
 nz : ∀ b, w.heap.size ≤ b → G b = 0
 le : n0 ≤ w.heap.size
section
variable {G : Nat → Nat} {w w' : World} {m : WdM} {g : Nat} {lim lim' : Int} {q n0 : Nat}
theorem Pl.keeps {S : Nat → Prop} (h : Pl G w m g lim q n0) (hk : Keeps S w w') (hs : ∀ b, S b → G b = 0 ∧ g < b) : Pl G w' m g lim q n0 :=
 ⟨h.wd.keeps hk fun b hb hS => hb (hs b hS).1, h.ok, h.rd.keeps hk fun b hb hS => by have := (hs b hS).2; omega, h.lt, h.z, fun b hb => h.nz b (Nat.le_trans hk.size hb), Nat.le_trans h.le hk.size⟩
theorem Pl.kept (h : Pl G w m g lim q n0) (hk : Keeps noBlk w w') : Pl G w' m g lim q n0 := h.keeps hk fun _ h => h.elim
theorem Pl.one (h : Pl G w m g lim q n0) (hk : Keeps (_root_.Go.Proofs.YtjcbeihoeanhaaaDoor.one g) w w') (hr : Rd w' g lim') : Pl G w' m g lim' q n0 :=
 ⟨h.wd.keeps hk fun b hb hS => hb (by have e : b = g := hS; rw [e]; exact h.z g h.lt), h.ok, hr, h.lt, h.z, fun b hb => h.nz b (Nat.le_trans hk.size hb), Nat.le_trans h.le hk.size⟩
theorem Pl.more {q' : Nat} (h : Pl G w m g lim q n0) (hq : q ≤ q') (hl : lim ≤ lim') : Pl G w m g lim' q' n0 :=
 ⟨h.wd, ⟨h.ok.a, h.ok.b, Nat.le_trans h.ok.ka hq, Nat.le_trans h.ok.kb hq⟩, h.rd.more hl, h.lt, h.z, h.nz, h.le⟩
theorem Pl.turn {e : Ending} {q' : Nat} (h : Pl G w m g lim q n0) (hr : RetWd G w q' e w') :
  ∃ (G' : Nat → Nat) (m' : WdM), e = .returned m'.val ∧ Pl G' w' m' g lim q' n0 ∧ (∀ b, b < w.heap.size → G' b = G b) ∧ Keeps (fun b => G b ≠ 0) w w' := by
 obtain ⟨G1, m', rfl, ok, hag, hw, hk⟩ := hr; refine ⟨up G1 w'.heap.size 0, m', rfl, ⟨hw.ext fun b hb => up_old hb, ok, h.rd.keeps hk fun b hb hS => hS.ne0 (h.z b (by have := h.lt; omega)), h.lt, fun b hb => ?_, fun b hb => up_new hb, Nat.le_trans h.le hk.size⟩, fun b hb => ?_, hk.more fun b _ hb => hb.ne0⟩
 ·rw [up_old (by have := h.le; have := hk.size; omega), hag b (by have := h.le; omega), h.z b hb]
 ·rw [up_old (by have := hk.size; omega), hag b hb]
end
theorem ownBlock_some (g n c : Nat) : (Value.slice (some ⟨g, 0, none⟩) n c).ownBlock = some g := rfl
theorem len3_of_ok {b : BankL} (h : okB b = true) : b.own.length = 3 ∧ b.notes.length = 3 := okB_len h
end Go.Proofs.YtjcbeihoeanhaaaDoor

/-! PlY -/
namespace Go.Proofs.YtjcbeihoeanhaaaDoor
open Go.RowKit

theorem rl0_neP {k : Nat} : rl 0 k ≠ 0 := by unfold rl; omega
theorem Mt.ne0P {G : Nat → Nat} {b : Nat} (h : Mt G 0 b) : G b ≠ 0 := by
 obtain ⟨k, _, hk⟩ := h; rw [hk]; exact rl0_neP
theorem ChR.markP {G G' : Nat → Nat} {w : World} {c : ChM} (h : ChR G 0 w c) (hG : ∀ b, G b ≠ 0 → G' b = G b) : ChR G' 0 w c := by
 have e : ∀ {b r : Nat}, G b = r → r ≠ 0 → G' b = r := fun hb hr => (hG _ (by rw [hb]; exact hr)).trans hb
 refine ⟨⟨⟨h.1.1.1, fun b hb => e (h.1.1.2 b hb) rl0_neP⟩, ⟨h.1.2.1, fun b hb => e (h.1.2.2 b hb) rl0_neP⟩⟩, ?_, ⟨h.2.2.1.1, fun b hb => e (h.2.2.1.2 b hb) rl0_neP⟩, fun s hs => ?_, ⟨h.2.2.2.2.1, fun b hb => e (h.2.2.2.2.2 b hb) (by decide)⟩⟩
 ·have k := h.2.1
  exact ⟨⟨k.1.1, fun b hb => e (k.1.2 b hb) rl0_neP⟩, ⟨k.2.1.1, fun b hb => e (k.2.1.2 b hb) rl0_neP⟩, ⟨k.2.2.1.1, fun b hb => e (k.2.2.1.2 b hb) rl0_neP⟩, ⟨k.2.2.2.1, fun b hb => e (k.2.2.2.2 b hb) rl0_neP⟩⟩
 ·have k := h.2.2.2.1 s hs
  exact ⟨⟨k.1.1, fun b hb => e (k.1.2 b hb) (by decide)⟩, ⟨k.2.1.1, fun b hb => e (k.2.1.2 b hb) (by decide)⟩, ⟨k.2.2.1.1, fun b hb => e (k.2.2.1.2 b hb) (by decide)⟩, ⟨k.2.2.2.1, fun b hb => e (k.2.2.2.2 b hb) (by decide)⟩⟩
theorem getOk_sameP {c d : ChM} (y : StL) (p : Pk) (h : SameC c d) : getOk d y p = getOk c y p := by
 unfold getOk; rw [h.st, h.past.1]
theorem mark_yP {G : Nat → Nat} {w0 w : World} {d : ChM} {y : StM} (Z : Nat → Prop) (hG : ∀ b, b < w0.heap.size → G b = 0) (hZ : ∀ b, Z b → b < w0.heap.size ∨ G b = 0) (hch : ChR G 0 w d) (hy : y.At w0) (hyw : y.At w) :
  ∃ G1 : Nat → Nat, ChR G1 0 w d ∧ StI G1 w y ∧ ∀ b, Z b → ¬ Mt G1 0 b := by
 refine ⟨fun b => if b < w0.heap.size then 1 else G b, hch.markP fun b hb => ?_, ⟨hyw, fun b hb => ?_⟩, fun b hb hm => ?_⟩
 ·(try dsimp only)
  by_cases hl : b < w0.heap.size
  ·exact absurd (hG b hl) hb
  ·rw [if_neg hl]
 ·exact if_pos (StAt.lt hy hb)
 ·by_cases hl : b < w0.heap.size
  ·exact hm.not_im (if_pos hl)
  ·rcases hZ b hb with h | h
   ·exact hl h
   ·exact hm.ne0P ((if_neg hl).trans h)
def OfP (w : World) (Z : Nat → Prop) (fn : Nat) (args : Array Value) (r : ChM) (o : Bool) : Prop :=
 ∃ G1 : Nat → Nat, (∀ b, Z b → ¬ Mt G1 0 b) ∧ Calls Tryd.prog fn args w (RetLate G1 0 w r o)
section
variable {G : Nat → Nat} {w0 w : World} {c d : ChM} {y : StM}
theorem of_tellP {q : Int} (Z : Nat → Prop) (hG : ∀ b, b < w0.heap.size → G b = 0) (hZ : ∀ b, Z b → b < w0.heap.size ∨ G b = 0) (hch : ChR G 0 w d) (sm : SameC c d) (hb : ckB c = true) (hs : stB y.x = true) (hy : y.At w0) (hyw : y.At w) :
  OfP w Z 97 #[d.val, y.val, .int .i64 q] (tellCh d y.x q) (tellB c.st.x y.x q) := by
 obtain ⟨_, kb, ks, kp, _, _⟩ := of_decide_eq_true hb; obtain ⟨G1, g1, g2, g3⟩ := mark_yP Z hG hZ hch hy hyw; have k := stB_ok hs; have q := l13Tell_any G1 0 d y q w g1 g2 (fit_of_ok (by rw [← sm.st]; exact ks)) k.2.2.2.1 (by rw [← sm.bk]; exact kb); rw [← sm.st] at q; exact ⟨G1, g3, q⟩
theorem of_lateP {t q : Int} (Z : Nat → Prop) (hG : ∀ b, b < w0.heap.size → G b = 0) (hZ : ∀ b, Z b → b < w0.heap.size ∨ G b = 0) (hch : ChR G 0 w d) (sm : SameC c d) (hb : ckB c = true) (hs : stB y.x = true) (hy : y.At w0) (hyw : y.At w) :
  OfP w Z 98 #[d.val, y.val, .int .i64 t, .int .i64 q] (lateCh d y.x t q) (lateB c.st.x y.x t q) := by
 obtain ⟨_, kb, ks, kp, _, _⟩ := of_decide_eq_true hb; obtain ⟨G1, g1, g2, g3⟩ := mark_yP Z hG hZ hch hy hyw; have k := stB_ok hs; have q := l13Late_any G1 0 d y t q w g1 g2 (fit_of_ok (by rw [← sm.st]; exact ks)) k.2.2.2.1 (by rw [← sm.bk]; exact kb); rw [← sm.st] at q; exact ⟨G1, g3, q⟩
theorem of_getP {p : Pk} (Z : Nat → Prop) (hG : ∀ b, b < w0.heap.size → G b = 0) (hZ : ∀ b, Z b → b < w0.heap.size ∨ G b = 0) (hch : ChR G 0 w d) (sm : SameC c d) (hb : ckB c = true) (hs : stB y.x = true) (hy : y.At w0) (hyw : y.At w) (hp : p.ok = true) :
  OfP w Z 95 #[d.val, y.val, p.val] (getTo d y.x p) (getOk c y.x p) := by
 obtain ⟨_, kb, ks, kp, _, _⟩ := of_decide_eq_true hb; obtain ⟨G1, g1, g2, g3⟩ := mark_yP Z hG hZ hch hy hyw; have k := stB_ok hs; have l := stB_lenW hs; have q := l13Get_any G1 0 d y p w g1 g2 (fit_of_ok (by rw [← sm.st]; exact ks)) k.2.2.1.1 l.1 (by rw [← sm.bk]; exact kb) (by rw [← sm.past.1]; omega) hp; rw [getOk_sameP _ _ sm] at q; exact ⟨G1, g3, q⟩
end
end Go.Proofs.YtjcbeihoeanhaaaDoor

/-! PlB -/
namespace Go.Proofs.YtjcbeihoeanhaaaDoor
open Go.RowKit

def plG (c : ChM) (y : StL) (ch h : Int) (k : Nat) : List Ev := (List.range k).flatMap fun i => if getOk c y (y.sent.getD i pk0) = true then [⟨4, ch, h, 0, y.sent.getD i pk0⟩] else []
theorem plG_yes {c : ChM} {y : StL} {ch h : Int} {k : Nat} (ho : getOk c y (y.sent.getD k pk0) = true) : plG c y ch h (k + 1) = plG c y ch h k ++ [⟨4, ch, h, 0, y.sent.getD k pk0⟩] := by
 unfold plG; rw [List.range_succ, List.flatMap_append]
 show _ ++ ((if _ then _ else _) ++ []) = _
 rw [if_pos ho, List.append_nil]
theorem plG_no {c : ChM} {y : StL} {ch h : Int} {k : Nat} (ho : getOk c y (y.sent.getD k pk0) = false) : plG c y ch h (k + 1) = plG c y ch h k := by
 unfold plG; rw [List.range_succ, List.flatMap_append]
 show _ ++ ((if _ then _ else _) ++ []) = _
 rw [if_neg (by rw [ho]; decide), List.append_nil, List.append_nil]
theorem plG_len (c : ChM) (y : StL) (ch h : Int) (k : Nat) : (plG c y ch h k).length ≤ k := by
 induction k with
 | zero => exact Nat.le_refl _
 | succ k ih =>
  cases ho : getOk c y (y.sent.getD k pk0) with
  | true => rw [plG_yes ho, List.length_append, List.length_singleton]; omega
  | false => rw [plG_no ho]; omega
def plT1 (c : ChM) (y : StL) (ch h : Int) (j : Nat) : List Ev := if tellB c.st.x y ((j : Int) + 1) = true then [⟨5, ch, h, (j : Int) + 1, pk0⟩] else []
def plT2 (c : ChM) (y : StL) (ch h : Int) (j : Nat) : List Ev := if lateB c.st.x y h ((j : Int) + 1) = true then [⟨6, ch, h, (j : Int) + 1, pk0⟩] else []
def plT (c : ChM) (y : StL) (ch h : Int) (k : Nat) : List Ev := (List.range k).flatMap fun j => plT1 c y ch h j ++ plT2 c y ch h j
theorem plT_step (c : ChM) (y : StL) (ch h : Int) (k : Nat) : plT c y ch h (k + 1) = plT c y ch h k ++ (plT1 c y ch h k ++ plT2 c y ch h k) := by
 unfold plT; rw [List.range_succ, List.flatMap_append]; simp
theorem plT_len (c : ChM) (y : StL) (ch h : Int) (k : Nat) : (plT c y ch h k).length ≤ 2 * k := by
 induction k with
 | zero => exact Nat.le_refl _
 | succ k ih =>
  rw [plT_step]; simp only [List.length_append]
  have h1 : (plT1 c y ch h k).length ≤ 1 := by unfold plT1; split <;> simp
  have h2 : (plT2 c y ch h k).length ≤ 1 := by unfold plT2; split <;> simp
  omega
def planL (c : ChM) (y : StL) (ch h : Int) : List Ev := plG c y ch h y.sent.length ++ plT c y ch h c.st.x.sent.length
def kO (c d : ChM) (i : Int) : Bool := ckB c && decide (c.id = i) && decide (0 < c.knows.length → c.knows.getD (c.knows.length - 1) 0 ≤ d.past.length)
def wkB2 (a b : ChM) : Bool := kO a b 1 && kO b a 2
theorem wk_parts {a b : ChM} (h : wkB2 a b = true) : kO a b 1 = true ∧ kO b a 2 = true := by
 unfold wkB2 at h
 rwa [Bool.and_eq_true] at h
theorem kO_parts {c d : ChM} {i : Int} (h : kO c d i = true) : ckB c = true ∧ c.id = i ∧ (0 < c.knows.length → c.knows.getD (c.knows.length - 1) 0 ≤ d.past.length) := by
 unfold kO at h; rw [Bool.and_eq_true, Bool.and_eq_true] at h; exact ⟨h.1.1, of_decide_eq_true h.1.2, of_decide_eq_true h.2⟩
end Go.Proofs.YtjcbeihoeanhaaaDoor
