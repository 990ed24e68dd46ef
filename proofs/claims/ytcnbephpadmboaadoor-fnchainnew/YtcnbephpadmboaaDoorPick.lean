/- The reader of the draws: l6Open, pick: some number from 0 to n-1; only the reader's own block turns. -/
import Derived.Test.YtcnbephpadmboaaDoorProg
import Derived.Test.YtcnbephpadmboaaDoorUMem
import Derived.Tactics
import Derived.Tactics2
import Derived.KernelRfl
import Derived.Outline
import Derived.Laws.BitsAllLaws
import Derived.Laws.BitsLemmas
set_option linter.unusedVariables false
set_option linter.unusedSimpArgs false
namespace Go.Proofs.YtcnbephpadmboaaDoor
open Go.RowKit

theorem rem_lo {z n : Int} (h : 0 ≤ z) (_ : 0 < n) : 0 ≤ z.tmod n := Int.tmod_nonneg _ h
theorem rem_hi {z n : Int} (h : 0 ≤ z) (hn : 0 < n) : z.tmod n < n := by
  rw [Int.tmod_eq_emod_of_nonneg h]
  exact Int.emod_lt_of_pos _ hn
theorem xor_low (a b : Int) (ha : 0 ≤ a) (ha2 : a ≤ 1000000000000) (hb : 0 ≤ b) (hb2 : b ≤ 1000000000000) : 0 ≤ bits .xor .i64 a b ∧ bits .xor .i64 a b < 9223372036854775808 := by
  obtain ⟨x, rfl⟩ := Int.eq_ofNat_of_zero_le ha
  obtain ⟨y, rfl⟩ := Int.eq_ofNat_of_zero_le hb
  have hof : ∀ n : Nat, n < 9223372036854775808 → (BitVec.ofInt 64 (n : Int)).toNat = n := fun n hn => by
    rw [BitVec.ofInt_natCast, BitVec.toNat_ofNat]
    exact Nat.mod_eq_of_lt (by omega)
  have hx : x ^^^ y < 2 ^ 63 := Nat.xor_lt_two_pow (by omega) (by omega)
  have e : bits .xor .i64 (x : Int) (y : Int) = ((x ^^^ y : Nat) : Int) := by
    show IntKind.i64.wrap ((BitVec.ofInt 64 (x : Int) ^^^ BitVec.ofInt 64 (y : Int)).toNat : Int) = _
    rw [BitVec.toNat_xor, hof x (by omega), hof y (by omega), IntKind.wrap_i64]
    omega
  rw [e]
  omega

/-- The slice '.slice A n c' holds the bytes zs. -/
def Bytes (w : World) (A : Option Addr) (n : Nat) (zs : List Int) : Prop :=
  zs.length = n ∧ (∀ z ∈ zs, 0 ≤ z ∧ z ≤ 255) ∧ (0 < n → ∃ b off, A = some ⟨b, off, none⟩ ∧ b < w.heap.size ∧ ∀ j x, zs[j]? = some x → w.cell? ⟨b, off + j, none⟩ = some (.int .u8 x))
theorem Bytes.keeps {S : Nat → Prop} {w w' : World} {A : Option Addr} {n : Nat} {zs : List Int} (h : Bytes w A n zs) (hk : Keeps S w w') (hs : ∀ b, blk A n b → ¬ S b) : Bytes w' A n zs :=
  ⟨h.1, h.2.1, fun hn => by
    obtain ⟨b, off, e, hb, hc⟩ := h.2.2 hn
    exact ⟨b, off, e, Nat.lt_of_lt_of_le hb hk.size, fun j x hx => (hk.cell hb (hs b ⟨hn, _, e, rfl⟩)).trans (hc j x hx)⟩⟩
theorem Bytes.lt {w : World} {A : Option Addr} {n : Nat} {zs : List Int} (h : Bytes w A n zs) {b : Nat} (hb : blk A n b) : b < w.heap.size := by
  obtain ⟨hn, a, rfl, rfl⟩ := hb
  obtain ⟨b, off, e, hl, _⟩ := h.2.2 hn
  injection e with e
  subst e
  exact hl
theorem Bytes.at_ {w : World} {A : Option Addr} {n k : Nat} {zs : List Int} (h : Bytes w A n zs) (hk : k < n) :
    ∃ b off z, A = some ⟨b, off, none⟩ ∧ b < w.heap.size ∧ w.cell? ⟨b, off + k, none⟩ = some (.int .u8 z) ∧ 0 ≤ z ∧ z ≤ 255 := by
  obtain ⟨b, off, e, hb, hc⟩ := h.2.2 (by omega)
  have hl : k < zs.length := by have := h.1; omega
  have hz := h.2.1 zs[k] (by simp)
  exact ⟨b, off, zs[k], e, hb, hc k _ (List.getElem?_eq_getElem hl), hz.1, hz.2⟩

theorem Bytes.take {w : World} {A : Option Addr} {n k : Nat} {zs : List Int} (h : Bytes w A n zs) (hk : k ≤ n) : Bytes w A k (zs.take k) := by
  obtain ⟨h1, h2, h3⟩ := h
  refine ⟨by simp; omega, fun z hz => h2 z (List.mem_of_mem_take hz), fun hn => ?_⟩
  obtain ⟨b, off, e, hb, hc⟩ := h3 (by omega)
  refine ⟨b, off, e, hb, fun j x hx => hc j x ?_⟩
  have hj : j < k := by
    have := (List.getElem?_eq_some_iff.1 hx).1
    simp at this
    omega
  rw [List.getElem?_take_of_lt hj] at hx
  exact hx

/-- A reader in block g that has picked at most lim times. -/
def Rd (w : World) (g : Nat) (lim : Int) : Prop :=
  ∃ A m c p zs, Box w g 95 #[.slice A m c, .int .i64 p] ∧ 0 ≤ p ∧ p ≤ lim ∧ m ≤ 2000 ∧ Bytes w A m zs ∧ ∀ b, blk A m b → b < g
theorem Rd.keeps {S : Nat → Prop} {w w' : World} {g : Nat} {lim : Int} (h : Rd w g lim) (hk : Keeps S w w') (hS : ∀ b, b ≤ g → ¬ S b) : Rd w' g lim := by
  obtain ⟨A, m, c, p, zs, h1, h2, h3, h4, h5, h6⟩ := h
  exact ⟨A, m, c, p, zs, h1.keeps hk (hS g (Nat.le_refl _)), h2, h3, h4, h5.keeps hk (fun b hb => hS b (Nat.le_of_lt (h6 b hb))), h6⟩
theorem Rd.more {w : World} {g : Nat} {lim lim' : Int} (h : Rd w g lim) (hl : lim ≤ lim') : Rd w g lim' := by
  obtain ⟨A, m, c, p, zs, h1, h2, h3, h4, h5, h6⟩ := h
  exact ⟨A, m, c, p, zs, h1, h2, by omega, h4, h5, h6⟩
theorem Rd.alloc {w : World} {g : Nat} {lim : Int} (h : Rd w g lim) (o : Obj) : Rd (w.alloc o) g lim := h.keeps ((Keeps.refl noBlk w).alloc o) fun _ _ x => x
theorem Rd.drew {w : World} {g : Nat} {lim : Int} (h : Rd w g lim) : Rd w.drew g lim := h
theorem Rd.drewN {w : World} {g : Nat} {lim : Int} (h : Rd w g lim) (n : Nat) : Rd (w.drewN n) g lim := h
theorem Rd.lt {w : World} {g : Nat} {lim : Int} (h : Rd w g lim) : g < w.heap.size := by
  obtain ⟨A, m, c, p, zs, h1, _⟩ := h
  exact h1.lt

def RetPick (w : World) (g : Nat) (lim n : Int) (e : Ending) (w' : World) : Prop :=
  ∃ v : Int, e = .returned (.int .i64 v) ∧ 0 ≤ v ∧ v < n ∧ Rd w' g (lim + 1) ∧ Keeps (one g) w w'

set_option maxHeartbeats 1000000 in
theorem pick_any (g : Nat) (lim n : Int) (w : World) (hr : Rd w g lim) (hl : lim ≤ 1000000000) (hn : 1 ≤ n) (hn2 : n ≤ 100000) :
    Calls Tryd.prog 45 #[.pointer (some ⟨g, 0, none⟩), .int .i64 n] w (RetPick w g lim n) := by
  obtain ⟨A, m, c, p, zs, h1, h2, h3, h4, h5, h6⟩ := hr
  have c0 := h1.cell 0
  have c1 := h1.cell 1
  have f1 := h1.frozen 1
  simp at c0 c1
  have H1 := Lib.hid h1
  have H5 := Lib.hid h5
  have H6 := Lib.hid h6
  clear h1 h5 h6
  have hn1 : ¬ n < 1 := by omega
  have hd1 : decide (n < 1) = false := by simpa using hn1
  obtain ⟨k, rfl⟩ := Int.eq_ofNat_of_zero_le h2
  have hend : ∀ W : World, Keeps (one g) w W → Box W g 95 #[.slice A m c, .int .i64 ((k : Int) + 1)] → Rd W g (lim + 1) :=
    fun W hK hB => ⟨A, m, c, (k : Int) + 1, zs, hB, by omega, by omega, h4, H5.out.keeps hK (fun b hb e => Nat.ne_of_lt (H6.out b hb) e), H6.out⟩
  have hK1 : Keeps (one g) w (w.setCell ⟨g, 1, none⟩ (.int .i64 ((k : Int) + 1))) := (Keeps.refl _ w).set1 1 _
  have hB1 : Box (w.setCell ⟨g, 1, none⟩ (.int .i64 ((k : Int) + 1))) g 95 #[.slice A m c, .int .i64 ((k : Int) + 1)] := by
    have := H1.out.set_ 1 (.int .i64 ((k : Int) + 1))
    simpa using this
  have HE := Lib.hid hend
  have HK := Lib.hid hK1
  have HB := Lib.hid hB1
  clear hend hK1 hB1
  by_cases hm : m = 0
  · have hm0 : ((m : Int) == 0) = true := by simp; omega
    clear hm
    go_enter Tryd.func45, Tryd.ntmps45
    go_wp2
    go_ret
    exact ⟨0, rfl, by omega, by omega, HE.out _ HK.out HB.out, HK.out⟩
  · have hm0 : ((m : Int) == 0) = false := by simp; omega
    by_cases hk : k < m
    · obtain ⟨b, off, z, rfl, hb, hc, hz0, hz1⟩ := H5.out.at_ hk
      have hbg : ¬ b = g := Nat.ne_of_lt (H6.out b ⟨by omega, _, rfl, rfl⟩)
      have hcz : (w.setCell ⟨g, 1, none⟩ (.int .i64 ((k : Int) + 1))).cell? ⟨b, off + k, none⟩ = some (.int .u8 z) := by
        rw [World.cell?_setCell_other _ _ _ _ (fun e => hbg (by injection e with e; exact e.symm))]
        exact hc
      have hlt : (k : Int) < (m : Int) := by omega
      go_enter Tryd.func45, Tryd.ntmps45
      go_wp2
      go_ret
      refine ⟨_, rfl, ?_, ?_, HE.out _ HK.out HB.out, HK.out⟩
      · first | exact Int.emod_nonneg _ (by omega) | exact Int.tmod_nonneg _ hz0
      · first | exact Int.emod_lt_of_pos _ (by omega) | exact rem_hi hz0 (by omega)
    · have hm1 : 0 < m := by omega
      obtain ⟨b, off, z1, rfl, hb, hc1, hz1, hz1'⟩ := H5.out.at_ (Nat.mod_lt k hm1)
      obtain ⟨b2, off2, z2, e2, _, hc2, hz2, hz2'⟩ := H5.out.at_ (Nat.mod_lt (k * 7 + 3) hm1)
      injection e2 with e2
      injection e2 with e2 e3
      subst e2
      subst e3
      have hbg : ¬ b = g := Nat.ne_of_lt (H6.out b ⟨by omega, _, rfl, rfl⟩)
      have hc1' : (w.setCell ⟨g, 1, none⟩ (.int .i64 ((k : Int) + 1))).cell? ⟨b, off + k % m, none⟩ = some (.int .u8 z1) := by
        rw [World.cell?_setCell_other _ _ _ _ (fun e => hbg (by injection e with e; exact e.symm))]
        exact hc1
      have hc2' : (w.setCell ⟨g, 1, none⟩ (.int .i64 ((k : Int) + 1))).cell? ⟨b, off + (k * 7 + 3) % m, none⟩ = some (.int .u8 z2) := by
        rw [World.cell?_setCell_other _ _ _ _ (fun e => hbg (by injection e with e; exact e.symm))]
        exact hc2
      have t1 : (k : Int).tmod (m : Int) = ((k % m : Nat) : Int) := by rw [Int.tmod_eq_emod_of_nonneg (by omega)]; omega
      have t2 : ((k : Int) * 7 + 3).tmod (m : Int) = (((k * 7 + 3) % m : Nat) : Int) := by rw [Int.tmod_eq_emod_of_nonneg (by omega)]; simp
      have t3 : (k : Int).tdiv (m : Int) = ((k / m : Nat) : Int) := by rw [Int.tdiv_eq_ediv_of_nonneg (by omega)]; omega
      have l1 : k % m < m := Nat.mod_lt _ hm1
      have l2 : (k * 7 + 3) % m < m := Nat.mod_lt _ hm1
      have l3 : k / m ≤ k := Nat.div_le_self _ _
      generalize k % m = i1 at hc1' t1 l1
      generalize (k * 7 + 3) % m = i2 at hc2' t2 l2
      generalize k / m = q at t3 l3
      have L1 : (i1 : Int) < (m : Int) := by omega
      have L2 : (i2 : Int) < (m : Int) := by omega
      have w1 : IntKind.i64.wrap (i1 : Int) = (i1 : Int) := IntWalk.i64_in _ (by omega)
      have w2 : IntKind.i64.wrap (i2 : Int) = (i2 : Int) := IntWalk.i64_in _ (by omega)
      have w3 : IntKind.i64.wrap (q : Int) = (q : Int) := IntWalk.i64_in _ (by omega)
      have w4 : IntKind.i64.wrap ((k : Int) * 7) = (k : Int) * 7 := IntWalk.i64_in _ (by omega)
      have w5 : IntKind.i64.wrap ((k : Int) * 7 + 3) = (k : Int) * 7 + 3 := IntWalk.i64_in _ (by omega)
      have w6 : IntKind.i64.wrap z1 = z1 := IntWalk.i64_in _ (by omega)
      have w7 : IntKind.i64.wrap z2 = z2 := IntWalk.i64_in _ (by omega)
      have w8 : IntKind.i64.wrap (z1 * 131) = z1 * 131 := IntWalk.i64_in _ (by omega)
      have w9 : IntKind.i64.wrap (z2 * 1117) = z2 * 1117 := IntWalk.i64_in _ (by omega)
      have w10 : IntKind.i64.wrap (z1 * 131 + z2 * 1117) = z1 * 131 + z2 * 1117 := IntWalk.i64_in _ (by omega)
      have w11 : IntKind.i64.wrap ((k : Int) * 29) = (k : Int) * 29 := IntWalk.i64_in _ (by omega)
      have w12 : IntKind.i64.wrap (z1 * 131 + z2 * 1117 + (k : Int) * 29) = z1 * 131 + z2 * 1117 + (k : Int) * 29 := IntWalk.i64_in _ (by omega)
      have w13 : IntKind.i64.wrap ((q : Int) * 53) = (q : Int) * 53 := IntWalk.i64_in _ (by omega)
      have w14 : IntKind.i64.wrap (z1 * 131 + z2 * 1117 + (k : Int) * 29 + (q : Int) * 53) = z1 * 131 + z2 * 1117 + (k : Int) * 29 + (q : Int) * 53 := IntWalk.i64_in _ (by omega)
      go_enter Tryd.func45, Tryd.ntmps45
      go_wp2
      go_quiet (fail)
      clear t1 t2 t3 w1 w2 w3 w4 w5 w6 w7 w8 w9 w10 w11 w12 w13 w14 hc1 hc2 hc1' hc2' L1 L2 hk
      have hX : 0 ≤ z1 * 131 + z2 * 1117 + (k : Int) * 29 + (q : Int) * 53 ∧ z1 * 131 + z2 * 1117 + (k : Int) * 29 + (q : Int) * 53 ≤ 1000000000000 := by omega
      generalize z1 * 131 + z2 * 1117 + (k : Int) * 29 + (q : Int) * 53 = X at hX ⊢
      go_wp2
      go_ret
      have hx := xor_low X (X / 64) (by omega) (by omega) (by omega) (by omega)
      refine ⟨_, rfl, Int.tmod_nonneg _ hx.1, ?_, HE.out _ (HK.out.drewN _) HB.out, HK.out.drewN _⟩
      rw [Int.tmod_eq_emod_of_nonneg hx.1]
      exact Int.emod_lt_of_pos _ (by omega)

def RetRd (w : World) (e : Ending) (w' : World) : Prop := ∃ g, e = .returned (.pointer (some ⟨g, 0, none⟩)) ∧ g = w.heap.size ∧ Rd w' g 0 ∧ Keeps noBlk w w'

set_option maxHeartbeats 400000 in
theorem l6Open_any (A : Option Addr) (n c : Nat) (zs : List Int) (w : World) (h : Bytes w A n zs) (hc : n ≤ c) (hcm : c ≤ maxLen) :
    Calls Tryd.prog 43 #[.slice A n c] w (RetRd w) := by
  unfold maxLen at hcm
  have H := Lib.hid h
  clear h
  by_cases hn : n ≤ 2000
  · have hd : ¬ (2000 : Int) < (n : Int) := by omega
    go_enter Tryd.func43, Tryd.ntmps43
    go_wp2
    go_ret
    have hk : Keeps noBlk w (w.alloc (.cells #[.slice A n c, .int .i64 0] 95)) := (Keeps.refl _ w).alloc _
    exact ⟨_, rfl, rfl, ⟨A, n, c, 0, zs, Box.new w _ rfl _ _, by omega, by omega, hn, H.out.keeps hk (fun _ _ h => h), fun b hb => H.out.lt hb⟩, hk⟩
  · have hd : (2000 : Int) < (n : Int) := by omega
    go_enter Tryd.func43, Tryd.ntmps43
    go_wp2
    go_ret
    have hk : Keeps noBlk w (w.alloc (.cells #[.slice A 2000 c, .int .i64 0] 95)) := (Keeps.refl _ w).alloc _
    have hb := H.out.take (k := 2000) (by omega)
    exact ⟨_, rfl, rfl, ⟨A, 2000, c, 0, zs.take 2000, Box.new w _ rfl _ _, by omega, by omega, by omega, hb.keeps hk (fun _ _ h => h), fun b hx => hb.lt hx⟩, hk⟩
end Go.Proofs.YtcnbephpadmboaaDoor
