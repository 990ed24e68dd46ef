/- szState, toState of the laws. -/
import Derived.Test.YtjcbeihoeanhaaaDoorUSt
set_option linter.unusedVariables false
set_option linter.unusedSimpArgs false
namespace Go.Proofs.YtjcbeihoeanhaaaDoor
open Go.RowKit

theorem info_bool : (Tryd.prog.info? 4).map (fun i => (i.zero, i.size, i.bytes)) = some (some (.bool false), 1, 1) := by kernel_rfl
/-! packets -/
theorem info_pk : (Tryd.prog.info? 29).map (fun i => (i.zero, i.size, i.bytes)) = some (some (.agg zC7), 7, 56) := by kernel_rfl
def zpk : Array Value := #[.int .i64 0, .int .i64 0, .int .i64 0, .int .i64 0, .int .i64 0, .int .i64 0, .int .i64 0]
theorem made_pk (n j : Nat) (hj : j < n) (i : Nat) (c : Value) (hc : pk0.cs[i]? = some c) : (madeCells zpk (n * 7))[j * 7 + i]? = some c := by
 have hi : i < 7 := (List.getElem?_eq_some_iff.1 hc).1
 have hm : (j * 7 + i) % 7 = i := by omega
 have hlt : j * 7 + i < n * 7 := by omega
 simp only [madeCells, zpk]
 have hr : (Array.range (n * 7))[j * 7 + i]? = some (j * 7 + i) := by simp [hlt]
 rw [Array.getElem?_map, hr]; simp only [Option.map_some]; have : (#[Value.int .i64 0, .int .i64 0, .int .i64 0, .int .i64 0, .int .i64 0, .int .i64 0, .int .i64 0] : Array Value).size = 7 := rfl; rw [this, hm]
 match i, hi, hc with
 | 0, _, hc => exact hc
 | 1, _, hc => exact hc
 | 2, _, hc => exact hc
 | 3, _, hc => exact hc
 | 4, _, hc => exact hc
 | 5, _, hc => exact hc
 | 6, _, hc => exact hc
theorem PRow.made (w : World) (n : Nat) : PRow (w.alloc (.cells (madeCells zpk (n * 7)) 29)) w.heap.size (some ⟨w.heap.size, 0, none⟩) n (List.replicate n pk0) :=
 ⟨⟨by simp, fun _ => ⟨_, _, rfl, by simp, fun j p hp i c hc => by
   rw [List.getElem?_replicate] at hp
   split at hp
   ·injection hp with hp
    subst hp; rw [Nat.zero_add, World.cell?_alloc_new]; exact made_pk n j (by assumption) i c hc
   ·cases hp⟩⟩,
  fun _ => ⟨_, _, rfl, Nat.le_refl _, fun j _ => World.frozen?_alloc_new w _ _ _⟩⟩
def setPk (w : World) (b o : Nat) (p : Pk) : World :=
 ((((((w.setCell ⟨b, o, none⟩ (.int .i64 p.s)).setCell ⟨b, o + 1, none⟩ (.int .i64 p.k)).setCell ⟨b, o + 2, none⟩ (.int .i64 p.f)).setCell ⟨b, o + 3, none⟩ (.int .i64 p.t)).setCell ⟨b, o + 4, none⟩ (.int .i64 p.m)).setCell ⟨b, o + 5, none⟩ (.int .i64 p.u)).setCell ⟨b, o + 6, none⟩ (.int .i64 p.v)
theorem setPk_other (w : World) (b o : Nat) (p : Pk) (y : Nat) (hy : y < o ∨ o + 7 ≤ y) : (setPk w b o p).cell? ⟨b, y, none⟩ = w.cell? ⟨b, y, none⟩ := by
 have ne : ∀ j, j < 7 → (⟨b, o + j, none⟩ : Addr) ≠ ⟨b, y, none⟩ := fun j hj e => by injection e with _ e; omega
 have n0 : (⟨b, o, none⟩ : Addr) ≠ ⟨b, y, none⟩ := fun e => by injection e with _ e; omega
 unfold setPk; rw [World.cell?_setCell_other _ _ _ _ (ne 6 (by omega)), World.cell?_setCell_other _ _ _ _ (ne 5 (by omega)), World.cell?_setCell_other _ _ _ _ (ne 4 (by omega)), World.cell?_setCell_other _ _ _ _ (ne 3 (by omega)), World.cell?_setCell_other _ _ _ _ (ne 2 (by omega)), World.cell?_setCell_other _ _ _ _ (ne 1 (by omega)), World.cell?_setCell_other _ _ _ _ n0]
theorem setPk_same (w : World) (b o : Nat) (p : Pk) (h : ∀ i, i < 7 → ∃ v, w.cell? ⟨b, o + i, none⟩ = some v) (i : Nat) (c : Value) (hc : p.cs[i]? = some c) : (setPk w b o p).cell? ⟨b, o + i, none⟩ = some c := by
 have hi : i < 7 := (List.getElem?_eq_some_iff.1 hc).1
 have ne : ∀ j k, j ≠ k → (⟨b, o + k, none⟩ : Addr) ≠ ⟨b, o + j, none⟩ := fun j k hj e => by injection e with _ e; omega
 have n0 : ∀ j, j ≠ 0 → (⟨b, o, none⟩ : Addr) ≠ ⟨b, o + j, none⟩ := fun j hj e => by injection e with _ e; omega
 obtain ⟨v, hv⟩ := h i hi; unfold setPk
 obtain rfl | rfl | rfl | rfl | rfl | rfl | rfl : i = 0 ∨ i = 1 ∨ i = 2 ∨ i = 3 ∨ i = 4 ∨ i = 5 ∨ i = 6 := by omega
 ·obtain rfl : _ = c := Option.some.inj hc
  rw [World.cell?_setCell_other _ _ _ _ (ne 0 6 (by omega)), World.cell?_setCell_other _ _ _ _ (ne 0 5 (by omega)), World.cell?_setCell_other _ _ _ _ (ne 0 4 (by omega)), World.cell?_setCell_other _ _ _ _ (ne 0 3 (by omega)), World.cell?_setCell_other _ _ _ _ (ne 0 2 (by omega)), World.cell?_setCell_other _ _ _ _ (ne 0 1 (by omega))]; exact World.cell?_setCell_same _ _ _ hv
 ·obtain rfl : _ = c := Option.some.inj hc
  rw [World.cell?_setCell_other _ _ _ _ (ne 1 6 (by omega)), World.cell?_setCell_other _ _ _ _ (ne 1 5 (by omega)), World.cell?_setCell_other _ _ _ _ (ne 1 4 (by omega)), World.cell?_setCell_other _ _ _ _ (ne 1 3 (by omega)), World.cell?_setCell_other _ _ _ _ (ne 1 2 (by omega))]; exact World.cell?_setCell_same _ _ _ ((World.cell?_setCell_other _ _ _ _ (n0 1 (by omega))).trans hv)
 ·obtain rfl : _ = c := Option.some.inj hc
  rw [World.cell?_setCell_other _ _ _ _ (ne 2 6 (by omega)), World.cell?_setCell_other _ _ _ _ (ne 2 5 (by omega)), World.cell?_setCell_other _ _ _ _ (ne 2 4 (by omega)), World.cell?_setCell_other _ _ _ _ (ne 2 3 (by omega))]; exact World.cell?_setCell_same _ _ _ ((World.cell?_setCell_other _ _ _ _ (ne 2 1 (by omega))).trans ((World.cell?_setCell_other _ _ _ _ (n0 2 (by omega))).trans hv))
 ·obtain rfl : _ = c := Option.some.inj hc
  rw [World.cell?_setCell_other _ _ _ _ (ne 3 6 (by omega)), World.cell?_setCell_other _ _ _ _ (ne 3 5 (by omega)), World.cell?_setCell_other _ _ _ _ (ne 3 4 (by omega))]; exact World.cell?_setCell_same _ _ _ ((World.cell?_setCell_other _ _ _ _ (ne 3 2 (by omega))).trans ((World.cell?_setCell_other _ _ _ _ (ne 3 1 (by omega))).trans ((World.cell?_setCell_other _ _ _ _ (n0 3 (by omega))).trans hv)))
 ·obtain rfl : _ = c := Option.some.inj hc
  rw [World.cell?_setCell_other _ _ _ _ (ne 4 6 (by omega)), World.cell?_setCell_other _ _ _ _ (ne 4 5 (by omega))]; exact World.cell?_setCell_same _ _ _ ((World.cell?_setCell_other _ _ _ _ (ne 4 3 (by omega))).trans ((World.cell?_setCell_other _ _ _ _ (ne 4 2 (by omega))).trans ((World.cell?_setCell_other _ _ _ _ (ne 4 1 (by omega))).trans ((World.cell?_setCell_other _ _ _ _ (n0 4 (by omega))).trans hv))))
 ·obtain rfl : _ = c := Option.some.inj hc
  rw [World.cell?_setCell_other _ _ _ _ (ne 5 6 (by omega))]; exact World.cell?_setCell_same _ _ _ ((World.cell?_setCell_other _ _ _ _ (ne 5 4 (by omega))).trans ((World.cell?_setCell_other _ _ _ _ (ne 5 3 (by omega))).trans ((World.cell?_setCell_other _ _ _ _ (ne 5 2 (by omega))).trans ((World.cell?_setCell_other _ _ _ _ (ne 5 1 (by omega))).trans ((World.cell?_setCell_other _ _ _ _ (n0 5 (by omega))).trans hv)))))
 ·obtain rfl : _ = c := Option.some.inj hc
  exact World.cell?_setCell_same _ _ _ ((World.cell?_setCell_other _ _ _ _ (ne 6 5 (by omega))).trans ((World.cell?_setCell_other _ _ _ _ (ne 6 4 (by omega))).trans ((World.cell?_setCell_other _ _ _ _ (ne 6 3 (by omega))).trans ((World.cell?_setCell_other _ _ _ _ (ne 6 2 (by omega))).trans ((World.cell?_setCell_other _ _ _ _ (ne 6 1 (by omega))).trans ((World.cell?_setCell_other _ _ _ _ (n0 6 (by omega))).trans hv))))))
theorem setPk_size (w : World) (b o : Nat) (p : Pk) : (setPk w b o p).heap.size = w.heap.size := by simp [setPk, World.setCell]
theorem setPk_frozen (w : World) (b o : Nat) (p : Pk) (a : Addr) : (setPk w b o p).frozen? a = w.frozen? a := by simp only [setPk, World.frozen?_setCell]
theorem Keeps.setPk {S : Nat → Prop} {a w : World} (h : Keeps S a w) {b : Nat} (hb : a.heap.size ≤ b ∨ S b) (o : Nat) (p : Pk) : Keeps S a (setPk w b o p) :=
 ((((((h.setCell (p := ⟨b, o, none⟩) hb _).setCell (p := ⟨b, o + 1, none⟩) hb _).setCell (p := ⟨b, o + 2, none⟩) hb _).setCell (p := ⟨b, o + 3, none⟩) hb _).setCell (p := ⟨b, o + 4, none⟩) hb _).setCell (p := ⟨b, o + 5, none⟩) hb _).setCell (p := ⟨b, o + 6, none⟩) hb _
theorem PRow.set_ {w : World} {lo b off n k : Nat} {ps : List Pk} (h : PRow w lo (some ⟨b, off, none⟩) n ps) (hk : k < n) (p : Pk) :
  PRow (setPk w b (off + k * 7) p) lo (some ⟨b, off, none⟩) n (ps.set k p) := by
 obtain ⟨⟨hl, h2⟩, h3⟩ := h; refine ⟨⟨by simpa using hl, fun hn => ?_⟩, fun hn => ?_⟩
 ·obtain ⟨b', off', e', hb, hc⟩ := h2 hn
  injection e' with e'
  injection e' with e1 e2
  subst e1; subst e2; refine ⟨b, off, rfl, by rw [setPk_size]; exact hb, fun j q hq i c hi => ?_⟩; have hi7 : i < 7 := (List.getElem?_eq_some_iff.1 hi).1
  have hjl : j < ps.length := by
   have := (List.getElem?_eq_some_iff.1 hq).1
   simpa using this
  by_cases hjk : j = k
  ·subst hjk
   have hq' : (ps.set j p)[j]? = some p := List.getElem?_set_self (by omega); have hpq : p = q := Option.some.inj (hq'.symm.trans hq); clear hq hq'; subst hpq
   have := setPk_same w b (off + j * 7) p (fun i' hi' => by
    have hl' : i' < (ps[j]).cs.length := hi'; obtain ⟨c', hc'⟩ : ∃ c', (ps[j]).cs[i']? = some c' := ⟨_, List.getElem?_eq_getElem hl'⟩
    exact ⟨c', by have := hc j _ (List.getElem?_eq_getElem hjl) i' c' hc'; rwa [← Nat.add_assoc] at this⟩) i c hi
   rwa [← Nat.add_assoc]
  ·rw [List.getElem?_set_ne (by omega)] at hq
   rw [setPk_other _ _ _ _ _ (by rcases Nat.lt_or_gt_of_ne hjk with h | h <;> omega)]; exact hc j q hq i c hi
 ·obtain ⟨b', off', e', hb, hf⟩ := h3 hn
  exact ⟨b', off', e', hb, fun j hj => by rw [setPk_frozen]; exact hf j hj⟩

def StOwn (w : World) (lo : Nat) (x : StL) (A1 A2 A3 A4 : Option Addr) : Prop :=
 ∃ s1 s2 s3, (PRow w lo A1 x.sent.length x.sent ∧ BRow w s1 A2 x.live.length x.live ∧ BRow w s2 A3 x.back.length x.back ∧ Row w s3 A4 x.got.length x.got) ∧
  (∀ i, blk A1 x.sent.length i → i < s1) ∧ (∀ i, blk A2 x.live.length i → i < s2) ∧ (∀ i, blk A3 x.back.length i → i < s3) ∧ lo ≤ s1 ∧ s1 ≤ s2 ∧ s2 ≤ s3
theorem StOwn.kept {w w' : World} {lo : Nat} {x : StL} {A1 A2 A3 A4 : Option Addr} (h : StOwn w lo x A1 A2 A3 A4) (hk : Keeps noBlk w w') : StOwn w' lo x A1 A2 A3 A4 := by
 obtain ⟨s1, s2, s3, ⟨h1, h2, h3, h4⟩, r⟩ := h; exact ⟨s1, s2, s3, ⟨h1.keeps hk fun _ _ h => h, h2.keeps hk fun _ _ h => h, h3.keeps hk fun _ _ h => h, h4.keeps hk fun _ _ h => h⟩, r⟩
theorem StOwn.at_ {w : World} {lo : Nat} {x : StL} {A1 A2 A3 A4 : Option Addr} (h : StOwn w lo x A1 A2 A3 A4) (m1 : x.sent.length ≤ maxLen) (m2 : x.live.length ≤ maxLen) (m3 : x.back.length ≤ maxLen) (m4 : x.got.length ≤ maxLen) : StAt w x A1 A2 A3 A4 := by
 obtain ⟨s1, s2, s3, ⟨h1, h2, h3, h4⟩, r⟩ := h; exact ⟨⟨h1.1, h2.1, h3.1, h4.1⟩, m1, m2, m3, m4⟩
end Go.Proofs.YtjcbeihoeanhaaaDoor
