/- Banks in memory; eqBank, markBank, heldBank of the laws; BankNew of the program and of the model. -/
import Derived.Test.YtiglmfefamehhaaEq
import Derived.Test.YtiglmfefamehhaaMark
namespace Go.Proofs.Ytiglmfefamehhaa
open Go.RowKit

theorem eqIntS_yes (A B : Option Addr) (n c d : Nat) (xs : List Int) (w : World) (ha : Ints w A n xs) (hb : Ints w B n xs) (hn : n ≤ maxLen) :
    Calls Try.prog 58 #[.slice A n c, .slice B n d] w fun e w' => e = .returned (.bool true) ∧ Qt w w' :=
  (eqIntS_any A B n n c d xs xs w ha hb hn hn).mono fun e w' ⟨he, hq⟩ => ⟨by simpa using he, hq⟩

set_option maxHeartbeats 400000 in
theorem eqBank_yes (A1 A2 B1 B2 : Option Addr) (n1 n2 c1 c2 d1 d2 : Nat) (L : Int) (xs ys : List Int) (w : World)
    (ha1 : Ints w A1 n1 xs) (hb1 : Ints w B1 n1 xs) (ha2 : Ints w A2 n2 ys) (hb2 : Ints w B2 n2 ys) (h1 : n1 ≤ maxLen) (h2 : n2 ≤ maxLen) :
    Calls Try.prog 35 #[.agg #[.slice A1 n1 c1, .slice A2 n2 c2, .int .i64 L], .agg #[.slice B1 n1 d1, .slice B2 n2 d2, .int .i64 L]] w
      fun e w' => e = .returned (.bool true) ∧ Keeps noBlk w w' := by
  have hL : (L != L) = false := by simp
  go_enter Try.func35, Try.ntmps35
  go_wp2_with fail
  refine (eqIntS_yes A1 B1 n1 _ _ xs _ ((ha1.alloc _).alloc _) ((hb1.alloc _).alloc _) h1).mono ?_
  rintro e w' ⟨rfl, q, rfl⟩
  go_wp2_with fail
  refine (eqIntS_yes A2 B2 n2 _ _ ys _ (((ha2.alloc _).alloc _).drewN _) (((hb2.alloc _).alloc _).drewN _) h2).mono ?_
  rintro e w' ⟨rfl, q2, rfl⟩
  go_wp2
  go_ret
  exact ⟨rfl, (((Keeps.refl _ _).alloc _).alloc _).drewN _⟩

def RetMark2 (w : World) (lo : Nat) (A1 A2 : Option Addr) (n1 n2 : Nat) (k : Int) (e : Ending) (w' : World) : Prop :=
  e = .returned (.int .i64 (k + n1 + n2)) ∧ Row w' lo A1 n1 (iota k n1) ∧ Row w' lo A2 n2 (iota (k + n1) n2) ∧ Keeps (fun b => blk A1 n1 b ∨ blk A2 n2 b) w w'

set_option maxHeartbeats 400000 in
theorem markBank_any (A1 A2 : Option Addr) (n1 n2 c1 c2 lo : Nat) (L k : Int) (xs ys : List Int) (w : World)
    (ha1 : Row w lo A1 n1 xs) (ha2 : Row w lo A2 n2 ys) (hd : ∀ b, blk A1 n1 b → ¬ blk A2 n2 b) (hk0 : 0 ≤ k) (hk : k + n1 + n2 ≤ 1000000000) :
    Calls Try.prog 36 #[.agg #[.slice A1 n1 c1, .slice A2 n2 c2, .int .i64 L], .int .i64 k] w (RetMark2 w lo A1 A2 n1 n2 k) := by
  have HD := Lib.hid hd
  have H1 := Lib.hid ha1
  have H2 := Lib.hid ha2
  clear hd ha1 ha2
  go_enter Try.func36, Try.ntmps36
  go_wp2_with fail
  refine (markIntS_any A1 n1 _ lo k xs _ (H1.out.alloc _) hk0 (by omega)).mono ?_
  rintro e w1 ⟨rfl, hr1, hk1⟩
  have hbx : ∀ o, w1.cell? ⟨w.heap.size, o, none⟩ = (w.alloc (.cells #[.slice A1 n1 c1, .slice A2 n2 c2, .int .i64 L] 25)).cell? ⟨w.heap.size, o, none⟩ :=
    fun o => hk1.cell (by simp) fun h => Nat.lt_irrefl _ (H1.out.lt h)
  have hb1 := hbx 1
  clear hbx
  rw [World.cell?_alloc_new] at hb1
  simp at hb1
  have Hr1 := Lib.hid hr1
  have Hk1 := Lib.hid hk1
  clear hr1 hk1
  go_wp2_with fail
  refine (markIntS_any A2 n2 _ lo _ ys _ ((H2.out.alloc _).keeps Hk1.out fun b h2 h1 => HD.out b h1 h2) (by omega) (by omega)).mono ?_
  rintro e w2 ⟨rfl, hr2, hk2⟩
  go_wp2
  go_ret
  refine ⟨rfl, Hr1.out.keeps hk2 fun b h1 h2 => HD.out b h1 h2, hr2, ?_⟩
  exact ((((Keeps.refl _ w).alloc _).then Hk1.out fun i hi h => .inl h).then hk2 fun i hi h => .inr h)

set_option maxHeartbeats 400000 in
theorem heldBank_any (A1 A2 : Option Addr) (n1 n2 c1 c2 : Nat) (L k : Int) (w : World)
    (ha1 : Ints w A1 n1 (iota k n1)) (ha2 : Ints w A2 n2 (iota (k + n1) n2)) (hk0 : 0 ≤ k) (hk : k + n1 + n2 ≤ 1000000000) :
    Calls Try.prog 37 #[.agg #[.slice A1 n1 c1, .slice A2 n2 c2, .int .i64 L], .int .i64 k] w fun e w' => e = .returned (.int .i64 (k + n1 + n2)) ∧ Keeps noBlk w w' := by
  go_enter Try.func37, Try.ntmps37
  go_wp2_with fail
  refine (heldIntS_any A1 n1 _ k _ (ha1.alloc _) hk0 (by omega)).mono ?_
  rintro e w' ⟨rfl, rfl⟩
  have h1 : ¬ k + (n1 : Int) < 0 := by omega
  have h2 : ¬ k + (n1 : Int) + (n2 : Int) < 0 := by omega
  go_wp2_with fail
  refine (heldIntS_any A2 n2 _ _ _ (ha2.alloc _) (by omega) (by omega)).mono ?_
  rintro e w' ⟨rfl, rfl⟩
  go_wp2
  go_ret
  exact ⟨rfl, (Keeps.refl _ _).alloc _⟩
end Go.Proofs.Ytiglmfefamehhaa
