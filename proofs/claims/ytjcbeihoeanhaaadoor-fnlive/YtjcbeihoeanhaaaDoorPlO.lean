/- l71Open of the model: what opens the way, or nothing. -/
import Derived.Test.YtjcbeihoeanhaaaDoorUPlK
set_option maxHeartbeats 4000000
set_option maxRecDepth 100000
set_option linter.unusedVariables false
set_option linter.unusedSimpArgs false
namespace Go.Proofs.YtjcbeihoeanhaaaDoor
open Go.RowKit

def RetOpen (w : World) (g : Nat) (lim : Int) (e : Ending) (w' : World) : Prop :=
 ∃ (l : List Ev) (A : Option Addr) (c : Nat), e = .returned (.slice A l.length c) ∧ l.length ≤ 10 ∧ w'.ownsRow 0 102 11 (.slice A l.length c) l.length (vEs l) ∧ (∀ b, (Value.slice A l.length c).ownBlock = some b → w.heap.size ≤ b) ∧ Rd w' g (lim + 2) ∧ Keeps (one g) w w'
theorem l71Open_any (g : Nat) (lim : Int) (w : World) (hr : Rd w g lim) (hl : lim ≤ 1000000) : Calls Tryd.prog 78 #[.pointer (some ⟨g, 0, none⟩)] w (RetOpen w g lim) := by
 have hgw := hr.lt
 have HRD := hH (hr.alloc (.cells #[] 102))
 have HLIT := hH (owns_lit0 w w.heap.size rfl 102 11)
 have HK := hH ((Keeps.refl (one g) w).alloc (.cells #[] 102))
 have hs0 : w.heap.size + 1 = (w.alloc (.cells #[] 102)).heap.size := by simp
 clear hr
 go_enter Tryd.func78, Tryd.ntmps78
 go_wp2_with fail
 generalize w.alloc (.cells #[] 102) = W0 at HRD HLIT HK hs0 ⊢
 refine (pick_any g lim 6 _ HRD.out (by omega) (by omega) (by omega)).mono ?_
 rintro e w1 ⟨p0, rfl, a0, b0, hrd, hk⟩
 have HRD1 := hH hrd
 have HLIT1 := hH (owns_keeps HLIT.out hk fun b hb h => by rw [ownBlock_some] at hb; injection hb with hb; have h' : b = g := h; omega)
 have HK1 := hH (HK.out.trans hk)
 have s1 := hk.size
 clear hrd hk HRD HLIT HK
 by_cases hp : p0 = 0
 ·have hpb : (p0 == 0) = true := by simp [hp]
  clear hp
  go_wp2
  go_ret
  exact ⟨[], _, _, rfl, Nat.zero_le _, HLIT1.out, fun b hb => by rw [ownBlock_some] at hb; injection hb with hb; omega, HRD1.out.more (by omega), HK1.out⟩
 ·have hpb : (p0 == 0) = false := by simp [hp]
  clear hp
  go_wp2_with fail
  refine (pick_any g (lim + 1) 2 _ HRD1.out (by omega) (by omega) (by omega)).mono ?_
  rintro e w2 ⟨p1, rfl, a1, b1, hrd, hk⟩
  have HRD2 := hH hrd
  have HLIT2 := hH (owns_keeps HLIT1.out hk fun b hb h => by rw [ownBlock_some] at hb; injection hb with hb; have h' : b = g := h; omega)
  have HK2 := hH (HK1.out.trans hk)
  have s2 := hk.size
  clear hrd hk HRD1 HLIT1 HK1 hpb
  have hw1 : IntKind.i64.wrap (1 + p1) = 1 + p1 := IntWalk.i64_in _ (by omega)
  have hw2 : IntKind.i64.wrap (3 - (1 + p1)) = 3 - (1 + p1) := IntWalk.i64_in _ (by omega)
  go_wp2_with (at_builtin; refine wpList_app _ rfl _ _ 84 rfl 102 (.agg zC11) 11 88 Tryd.underlying84 info_ev rfl (by decide) (.slice (some ⟨w.heap.size, 0, none⟩) 0 0) 0 [] rfl (HLIT2.out.alloc _) _ 10 10 (vEs [⟨7, (1 + p1), 0, 1, pk0⟩, ⟨1, (1 + p1), 0, 0, pk0⟩, ⟨2, (3 - (1 + p1)), 1, 0, pk0⟩, ⟨7, (3 - (1 + p1)), 1, 2, pk0⟩, ⟨1, (3 - (1 + p1)), 0, 0, pk0⟩, ⟨2, (1 + p1), 1, 0, pk0⟩, ⟨7, (1 + p1), 1, 3, pk0⟩, ⟨1, (1 + p1), 0, 0, pk0⟩, ⟨2, (3 - (1 + p1)), 2, 0, pk0⟩, ⟨7, (3 - (1 + p1)), 2, 4, pk0⟩]) rfl (fun h => by cases h) (by rw [vEs_length]; rfl) ?qa ?qb (by decide) (by decide) ?_)
  case qa =>
   rintro ad had q u hu
   injection had with had
   subst had
   have h9 : (w2.alloc (.cells #[.int .i64 7, .int .i64 (1 + p1), .int .i64 0, .int .i64 1, .int .i64 0, .int .i64 0, .int .i64 0, .int .i64 0, .int .i64 0, .int .i64 0, .int .i64 0, .int .i64 1, .int .i64 (1 + p1), .int .i64 0, .int .i64 0, .int .i64 0, .int .i64 0, .int .i64 0, .int .i64 0, .int .i64 0, .int .i64 0, .int .i64 0, .int .i64 2, .int .i64 (3 - (1 + p1)), .int .i64 1, .int .i64 0, .int .i64 0, .int .i64 0, .int .i64 0, .int .i64 0, .int .i64 0, .int .i64 0, .int .i64 0, .int .i64 7, .int .i64 (3 - (1 + p1)), .int .i64 1, .int .i64 2, .int .i64 0, .int .i64 0, .int .i64 0, .int .i64 0, .int .i64 0, .int .i64 0, .int .i64 0, .int .i64 1, .int .i64 (3 - (1 + p1)), .int .i64 0, .int .i64 0, .int .i64 0, .int .i64 0, .int .i64 0, .int .i64 0, .int .i64 0, .int .i64 0, .int .i64 0, .int .i64 2, .int .i64 (1 + p1), .int .i64 1, .int .i64 0, .int .i64 0, .int .i64 0, .int .i64 0, .int .i64 0, .int .i64 0, .int .i64 0, .int .i64 0, .int .i64 7, .int .i64 (1 + p1), .int .i64 1, .int .i64 3, .int .i64 0, .int .i64 0, .int .i64 0, .int .i64 0, .int .i64 0, .int .i64 0, .int .i64 0, .int .i64 1, .int .i64 (1 + p1), .int .i64 0, .int .i64 0, .int .i64 0, .int .i64 0, .int .i64 0, .int .i64 0, .int .i64 0, .int .i64 0, .int .i64 0, .int .i64 2, .int .i64 (3 - (1 + p1)), .int .i64 2, .int .i64 0, .int .i64 0, .int .i64 0, .int .i64 0, .int .i64 0, .int .i64 0, .int .i64 0, .int .i64 0, .int .i64 7, .int .i64 (3 - (1 + p1)), .int .i64 2, .int .i64 4, .int .i64 0, .int .i64 0, .int .i64 0, .int .i64 0, .int .i64 0, .int .i64 0, .int .i64 0] 102)).cell? ⟨w2.heap.size, q, none⟩ = some u := by
    rw [World.cell?_alloc_new]
    have hu' : (#[.int .i64 7, .int .i64 (1 + p1), .int .i64 0, .int .i64 1, .int .i64 0, .int .i64 0, .int .i64 0, .int .i64 0, .int .i64 0, .int .i64 0, .int .i64 0, .int .i64 1, .int .i64 (1 + p1), .int .i64 0, .int .i64 0, .int .i64 0, .int .i64 0, .int .i64 0, .int .i64 0, .int .i64 0, .int .i64 0, .int .i64 0, .int .i64 2, .int .i64 (3 - (1 + p1)), .int .i64 1, .int .i64 0, .int .i64 0, .int .i64 0, .int .i64 0, .int .i64 0, .int .i64 0, .int .i64 0, .int .i64 0, .int .i64 7, .int .i64 (3 - (1 + p1)), .int .i64 1, .int .i64 2, .int .i64 0, .int .i64 0, .int .i64 0, .int .i64 0, .int .i64 0, .int .i64 0, .int .i64 0, .int .i64 1, .int .i64 (3 - (1 + p1)), .int .i64 0, .int .i64 0, .int .i64 0, .int .i64 0, .int .i64 0, .int .i64 0, .int .i64 0, .int .i64 0, .int .i64 0, .int .i64 2, .int .i64 (1 + p1), .int .i64 1, .int .i64 0, .int .i64 0, .int .i64 0, .int .i64 0, .int .i64 0, .int .i64 0, .int .i64 0, .int .i64 0, .int .i64 7, .int .i64 (1 + p1), .int .i64 1, .int .i64 3, .int .i64 0, .int .i64 0, .int .i64 0, .int .i64 0, .int .i64 0, .int .i64 0, .int .i64 0, .int .i64 1, .int .i64 (1 + p1), .int .i64 0, .int .i64 0, .int .i64 0, .int .i64 0, .int .i64 0, .int .i64 0, .int .i64 0, .int .i64 0, .int .i64 0, .int .i64 2, .int .i64 (3 - (1 + p1)), .int .i64 2, .int .i64 0, .int .i64 0, .int .i64 0, .int .i64 0, .int .i64 0, .int .i64 0, .int .i64 0, .int .i64 0, .int .i64 7, .int .i64 (3 - (1 + p1)), .int .i64 2, .int .i64 4, .int .i64 0, .int .i64 0, .int .i64 0, .int .i64 0, .int .i64 0, .int .i64 0, .int .i64 0]).toList[q]? = some u := hu
    simpa using hu'
   by_cases h0 : q = 0
   ·subst h0; simpa [Addr.add] using h9
   ·simpa [Addr.add, h0] using h9
  case qb =>
   intro u hu
   rw [vEs, List.mem_flatMap] at hu
   obtain ⟨e, _, he⟩ := hu
   exact one_ev u he
  intro v w5 ho hgr hf
  obtain ⟨A, c, rfl⟩ := ev_shape ho
  have hk5 := (HK2.out.alloc (.cells #[.int .i64 7, .int .i64 (1 + p1), .int .i64 0, .int .i64 1, .int .i64 0, .int .i64 0, .int .i64 0, .int .i64 0, .int .i64 0, .int .i64 0, .int .i64 0, .int .i64 1, .int .i64 (1 + p1), .int .i64 0, .int .i64 0, .int .i64 0, .int .i64 0, .int .i64 0, .int .i64 0, .int .i64 0, .int .i64 0, .int .i64 0, .int .i64 2, .int .i64 (3 - (1 + p1)), .int .i64 1, .int .i64 0, .int .i64 0, .int .i64 0, .int .i64 0, .int .i64 0, .int .i64 0, .int .i64 0, .int .i64 0, .int .i64 7, .int .i64 (3 - (1 + p1)), .int .i64 1, .int .i64 2, .int .i64 0, .int .i64 0, .int .i64 0, .int .i64 0, .int .i64 0, .int .i64 0, .int .i64 0, .int .i64 1, .int .i64 (3 - (1 + p1)), .int .i64 0, .int .i64 0, .int .i64 0, .int .i64 0, .int .i64 0, .int .i64 0, .int .i64 0, .int .i64 0, .int .i64 0, .int .i64 2, .int .i64 (1 + p1), .int .i64 1, .int .i64 0, .int .i64 0, .int .i64 0, .int .i64 0, .int .i64 0, .int .i64 0, .int .i64 0, .int .i64 0, .int .i64 7, .int .i64 (1 + p1), .int .i64 1, .int .i64 3, .int .i64 0, .int .i64 0, .int .i64 0, .int .i64 0, .int .i64 0, .int .i64 0, .int .i64 0, .int .i64 1, .int .i64 (1 + p1), .int .i64 0, .int .i64 0, .int .i64 0, .int .i64 0, .int .i64 0, .int .i64 0, .int .i64 0, .int .i64 0, .int .i64 0, .int .i64 2, .int .i64 (3 - (1 + p1)), .int .i64 2, .int .i64 0, .int .i64 0, .int .i64 0, .int .i64 0, .int .i64 0, .int .i64 0, .int .i64 0, .int .i64 0, .int .i64 7, .int .i64 (3 - (1 + p1)), .int .i64 2, .int .i64 4, .int .i64 0, .int .i64 0, .int .i64 0, .int .i64 0, .int .i64 0, .int .i64 0, .int .i64 0] 102)).then (Keeps.of_grown hgr) fun i hi h => by rw [ownBlock_some] at h; injection h with h; omega
  have hrd5 := (HRD2.out.alloc (.cells #[.int .i64 7, .int .i64 (1 + p1), .int .i64 0, .int .i64 1, .int .i64 0, .int .i64 0, .int .i64 0, .int .i64 0, .int .i64 0, .int .i64 0, .int .i64 0, .int .i64 1, .int .i64 (1 + p1), .int .i64 0, .int .i64 0, .int .i64 0, .int .i64 0, .int .i64 0, .int .i64 0, .int .i64 0, .int .i64 0, .int .i64 0, .int .i64 2, .int .i64 (3 - (1 + p1)), .int .i64 1, .int .i64 0, .int .i64 0, .int .i64 0, .int .i64 0, .int .i64 0, .int .i64 0, .int .i64 0, .int .i64 0, .int .i64 7, .int .i64 (3 - (1 + p1)), .int .i64 1, .int .i64 2, .int .i64 0, .int .i64 0, .int .i64 0, .int .i64 0, .int .i64 0, .int .i64 0, .int .i64 0, .int .i64 1, .int .i64 (3 - (1 + p1)), .int .i64 0, .int .i64 0, .int .i64 0, .int .i64 0, .int .i64 0, .int .i64 0, .int .i64 0, .int .i64 0, .int .i64 0, .int .i64 2, .int .i64 (1 + p1), .int .i64 1, .int .i64 0, .int .i64 0, .int .i64 0, .int .i64 0, .int .i64 0, .int .i64 0, .int .i64 0, .int .i64 0, .int .i64 7, .int .i64 (1 + p1), .int .i64 1, .int .i64 3, .int .i64 0, .int .i64 0, .int .i64 0, .int .i64 0, .int .i64 0, .int .i64 0, .int .i64 0, .int .i64 1, .int .i64 (1 + p1), .int .i64 0, .int .i64 0, .int .i64 0, .int .i64 0, .int .i64 0, .int .i64 0, .int .i64 0, .int .i64 0, .int .i64 0, .int .i64 2, .int .i64 (3 - (1 + p1)), .int .i64 2, .int .i64 0, .int .i64 0, .int .i64 0, .int .i64 0, .int .i64 0, .int .i64 0, .int .i64 0, .int .i64 0, .int .i64 7, .int .i64 (3 - (1 + p1)), .int .i64 2, .int .i64 4, .int .i64 0, .int .i64 0, .int .i64 0, .int .i64 0, .int .i64 0, .int .i64 0, .int .i64 0] 102)).keeps (Keeps.of_grown hgr) fun b hb h => by rw [ownBlock_some] at h; injection h with h; omega
  have HO := hH ho
  have HF := hH hf
  clear ho hf hgr
  go_wp2
  go_ret
  exact ⟨[⟨7, (1 + p1), 0, 1, pk0⟩, ⟨1, (1 + p1), 0, 0, pk0⟩, ⟨2, (3 - (1 + p1)), 1, 0, pk0⟩, ⟨7, (3 - (1 + p1)), 1, 2, pk0⟩, ⟨1, (3 - (1 + p1)), 0, 0, pk0⟩, ⟨2, (1 + p1), 1, 0, pk0⟩, ⟨7, (1 + p1), 1, 3, pk0⟩, ⟨1, (1 + p1), 0, 0, pk0⟩, ⟨2, (3 - (1 + p1)), 2, 0, pk0⟩, ⟨7, (3 - (1 + p1)), 2, 4, pk0⟩], A, c, rfl, Nat.le_refl _, HO.out, fun b hb => by
   rcases HF.out b hb with h | h
   ·rw [ownBlock_some] at h; injection h with h; omega
   ·(try simp at h); omega, hrd5.more (by omega), hk5⟩
end Go.Proofs.YtjcbeihoeanhaaaDoor
