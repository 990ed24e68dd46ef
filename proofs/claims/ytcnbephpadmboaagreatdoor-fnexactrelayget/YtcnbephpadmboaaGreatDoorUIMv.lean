/- The ledger as a bank again; the room for coins. BankMove of the program answers as moved. -/
import Derived.Test.YtcnbephpadmboaaGreatDoorIOpen
import Derived.Test.YtcnbephpadmboaaGreatDoorUTurn
set_option linter.unusedVariables false
set_option linter.unusedSimpArgs false
/-! IBank -/
namespace Go.Proofs.YtcnbephpadmboaaGreatDoor
open Go.RowKit
set_option maxRecDepth 100000

set_option maxHeartbeats 1000000 in
theorem ledBank_any (M1 M2 e1 e2 : Nat) (L : Int) (xs ys : List Int) (w : World) (h1 : MapIs w M1 e1 xs) (h2 : MapIs w M2 e2 ys) (l1 : xs.length ≤ 100) (l2 : ys.length ≤ 100) :
    Calls Tryz.prog 110 #[.agg #[.map (some M1), .map (some M2), .int .i64 L]] w (RetBank w ⟨xs, ys, L⟩) := by
  have HM1 := Lib.hid h1
  have HM2 := Lib.hid h2
  clear h1 h2
  have hb := (Box.new w _ rfl 140 #[.map (some M1), .map (some M2), .int .i64 L]).alloc (.cells #[.slice none 0 0, .slice none 0 0, .int .i64 0] 36)
  have HB := Lib.hid hb
  have hrb := Box.new (w.alloc (.cells #[.map (some M1), .map (some M2), .int .i64 L] 140)) (w.heap.size + 1) (by simp) 36 #[.slice none 0 0, .slice none 0 0, .int .i64 0]
  have HRB := Lib.hid hrb
  clear hb hrb
  go_enter Tryz.func110, Tryz.ntmps110
  go_wp2_with fail
  go_region_held3 (fun w' => w'.cell? ⟨w.heap.size, 0, none⟩ = some (.map (some M1)) ∧ w'.cell? ⟨w.heap.size, 1, none⟩ = some (.map (some M2)) ∧ w'.cell? ⟨w.heap.size, 2, none⟩ = some (.int .i64 L))
    (((try dsimp only); (repeat' apply And.intro) <;> (first | with_reducible assumption | ((repeat (with_reducible refine (World.cell?_setCell_far _ _ _ _ (by dsimp only; omega)).trans ?_)); with_reducible assumption) | (with_reducible refine (World.cell?_alloc_lt _ _ _ (by dsimp only; omega)).trans ?_; with_reducible assumption) | (go_keep; done))))
    (first | (go_at_call_of 134 (Value.map (some M1)); refine (amountList_any M1 e1 xs _ (by repeat (first | with_reducible exact HM1.out | with_reducible refine MapIs.alloc ?_ _ | with_reducible refine MapIs.drew ?_)) l1).mono ?_; rintro e w1 ⟨A1, rfl, hr1, hk1⟩; have hA1 := ((by repeat (first | with_reducible exact HB.out | with_reducible refine Box.alloc ?_ _ | with_reducible refine Box.drew ?_)) : Box _ w.heap.size 140 #[.map (some M1), .map (some M2), .int .i64 L]).keeps hk1 fun h => h; have a0 := hA1.cell 0; have a1 := hA1.cell 1; have a2 := hA1.cell 2; simp at a0 a1 a2; have z1 := hA1.lt; have HA1 := Lib.hid hA1; clear hA1; have HK1 := Lib.hid hk1; have HR1 := Lib.hid hr1; clear hk1 hr1) | (go_at_call_of 134 (Value.map (some M2)); refine (amountList_any M2 e2 ys _ (by repeat (first | with_reducible exact HM2.out | with_reducible refine MapIs.alloc ?_ _ | with_reducible refine MapIs.drew ?_ | with_reducible refine MapIs.keeps ?_ HK1.out (fun h => h))) l2).mono ?_; rintro e w2 ⟨A2, rfl, hr2, hk2⟩; have hA2 := ((by repeat (first | with_reducible exact HA1.out | with_reducible refine Box.alloc ?_ _ | with_reducible refine Box.drew ?_)) : Box _ w.heap.size 140 #[.map (some M1), .map (some M2), .int .i64 L]).keeps hk2 fun h => h; have a0 := hA2.cell 0; have a1 := hA2.cell 1; have a2 := hA2.cell 2; simp at a0 a1 a2; have z2 := hA2.lt; have HA2 := Lib.hid hA2; clear hA2; have hR2 := ((HRB.out.drewN 1).keeps HK1.out fun h => h).keeps hk2 fun h => h; have r0 := hR2.cell 0; have r1 := hR2.cell 1; have r2 := hR2.cell 2; have f0 := hR2.frozen 0; have f1 := hR2.frozen 1; have f2 := hR2.frozen 2; simp at r0 r1 r2; have HK2 := Lib.hid hk2; have HR2 := Lib.hid hr2; clear hk2 hr2 hR2))
  have hS : Keeps (one (w.heap.size + 1)) w2 (((w2.setCell ⟨w.heap.size + 1, 0, none⟩ (.slice A1 xs.length xs.length)).setCell ⟨w.heap.size + 1, 1, none⟩ (.slice A2 ys.length ys.length)).setCell ⟨w.heap.size + 1, 2, none⟩ (.int .i64 L)) := (((Keeps.refl _ w2).set1 _ _).set1 _ _).set1 _ _
  have s1 := HK1.out.size
  simp at s1
  have hlt1 : ∀ i, blk A1 xs.length i → w.heap.size + 1 < i ∧ i < w1.heap.size := fun i hi => ⟨by have := HR1.out.ge hi; simp at this; omega, HR1.out.lt hi⟩
  have hlt2 : ∀ i, blk A2 ys.length i → w1.heap.size ≤ i := fun i hi => HR2.out.ge hi
  have hx1 := (((HR1.out.keeps HK2.out fun _ _ h => h).keeps hS fun i hi h => by have h' : i = w.heap.size + 1 := h; have := hlt1 i hi; omega)).less (lo' := w.heap.size) (by simp; omega)
  have hx2 := ((HR2.out.keeps hS fun i hi h => by have h' : i = w.heap.size + 1 := h; have := hlt2 i hi; omega)).less (lo' := w.heap.size) (by omega)
  have hK := ((((((Keeps.refl noBlk w).alloc _).alloc _).drew).trans HK1.out).trans HK2.out).then hS fun i hi h => by have h' : i = w.heap.size + 1 := h; omega
  have HFIN := Lib.hid (⟨_, rfl, ⟨A1, xs.length, xs.length, A2, ys.length, ys.length, rfl, hx1, hx2, fun i h1 h2 => by have := hlt1 i h1; have := hlt2 i h2; omega, Nat.le_refl _, Nat.le_refl _, by unfold maxLen; omega, by unfold maxLen; omega⟩, hK⟩ : RetBank w ⟨xs, ys, L⟩ _ _)
  clear hS hx1 hx2 hK hlt1 hlt2
  go_wp2
  refine bodyPost_ret (v := .agg #[.slice A1 xs.length xs.length, .slice A2 ys.length ys.length, .int .i64 L]) (by simp [results, Tryz.results110, go_sem, r0, r1, r2]) rfl ?_
  exact HFIN.out

set_option maxHeartbeats 400000 in
theorem room_1 (M1 M2 : Nat) (L : Int) (w : World) :
    Calls Tryz.prog 109 #[.agg #[.map (some M1), .map (some M2), .int .i64 L], .int .i64 1] w fun e w' => e = .returned (.int .i64 L) ∧ Keeps noBlk w w' := by
  go_enter Tryz.func109, Tryz.ntmps109
  go_wp2
  go_ret
  exact ⟨rfl, (Keeps.refl _ _).alloc _⟩
set_option maxHeartbeats 400000 in
theorem room_2 (M1 M2 e2 : Nat) (L : Int) (ys : List Int) (w : World) (h2 : MapIs w M2 e2 ys) (l2 : ys.length ≤ 100) (hs : Small ys) :
    Calls Tryz.prog 109 #[.agg #[.map (some M1), .map (some M2), .int .i64 L], .int .i64 2] w fun e w' => e = .returned (.int .i64 (30 - sumL ys)) ∧ Keeps noBlk w w' := by
  have hb := hs.sum
  have HS := Lib.hid hs
  clear hs
  go_enter Tryz.func109, Tryz.ntmps109
  go_wp2_with fail
  refine (amountList_any M2 e2 ys _ (h2.alloc _) l2).mono ?_
  rintro e w1 ⟨A2, rfl, hr2, hk2⟩
  have HK2 := Lib.hid hk2
  clear hk2
  go_wp2_with fail
  refine (implSum_any A2 _ _ ys _ hr2.ints HS.out (by omega)).mono ?_
  rintro e w' ⟨rfl, rfl⟩
  go_wp2
  go_ret
  exact ⟨rfl, ((Keeps.refl _ _).alloc _).trans HK2.out⟩
end Go.Proofs.YtcnbephpadmboaaGreatDoor

/-! IMove -/
namespace Go.Proofs.YtcnbephpadmboaaGreatDoor
open Go.RowKit
set_option maxRecDepth 100000


theorem mhas_user {zs : List Int} (h : zs.length = 3) (u : Int) : mhas zs u = userB u := by
  unfold mhas userB
  rw [h]
  rfl
end Go.Proofs.YtcnbephpadmboaaGreatDoor
