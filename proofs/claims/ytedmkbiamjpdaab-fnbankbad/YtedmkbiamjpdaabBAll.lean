/- BankAll of the model and of the program: 30 and the notes of a valid bank, else -1 and -1. -/
import Derived.Test.YtedmkbiamjpdaabBOk
set_option linter.unusedVariables false
set_option linter.unusedSimpArgs false
namespace Go.Proofs.Ytedmkbiamjpdaab
open Go.RowKit

theorem okB_parts {b : BankL} (h : okB b = true) : partsB b.own = true ∧ partsB b.notes = true ∧ 0 ≤ b.locked ∧ sumL b.own + b.locked = 30 ∧ sumL b.notes ≤ 30 := by
  simp [okB] at h
  obtain ⟨⟨⟨⟨h1, h2⟩, h3⟩, h4⟩, h5⟩ := h
  exact ⟨h1, h2, h3, h4, h5⟩

def allOwn (b : BankL) : Int := if okB b then 30 else -1
def allNotes (b : BankL) : Int := if okB b then sumL b.notes else -1

def RetAll (w : World) (b : BankL) (e : Ending) (w' : World) : Prop := e = .returned (.tuple #[.int .i64 (allOwn b), .int .i64 (allNotes b)]) ∧ Keeps noBlk w w'

set_option maxHeartbeats 1000000 in
theorem implBankAll_any (A1 A2 : Option Addr) (n1 n2 c1 c2 : Nat) (L : Int) (xs ys : List Int) (w : World) (ha1 : Ints w A1 n1 xs) (ha2 : Ints w A2 n2 ys)
    (h1 : n1 ≤ maxLen) (h2 : n2 ≤ maxLen) :
    Calls Try.prog 10 #[.agg #[.slice A1 n1 c1, .slice A2 n2 c2, .int .i64 L]] w (RetAll w ⟨xs, ys, L⟩) := by
  have HA1 := Lib.hid ha1
  have HA2 := Lib.hid ha2
  clear ha1 ha2
  by_cases hk : okB ⟨xs, ys, L⟩ = true
  · obtain ⟨p1, p2, p3, p4, p5⟩ := okB_parts hk
    obtain ⟨hs1, hl1⟩ := parts_small p1
    obtain ⟨hs2, hl2⟩ := parts_small p2
    dsimp only at hs1 hl1 hs2 hl2 p3 p4 p5
    have hx1 : n1 ≤ 1000 := by have := HA1.out.1; omega
    have hx2 : n2 ≤ 1000 := by have := HA2.out.1; omega
    have hb1 := hs1.sum
    rw [hl1] at hb1
    have HS1 := Lib.hid hs1
    have HS2 := Lib.hid hs2
    have HO : Hid (allOwn ⟨xs, ys, L⟩ = sumL xs + L) := by show _ = _; simp [allOwn, hk, p4]
    have HN : Hid (allNotes ⟨xs, ys, L⟩ = sumL ys) := by show _ = _; simp [allNotes, hk]
    have hw : IntKind.i64.wrap (sumL xs + L) = sumL xs + L := IntWalk.i64_in _ (by omega)
    clear hs1 hs2 hl1 hl2 p1 p2 p4
    go_enter Try.func10, Try.ntmps10
    go_wp2_with fail
    refine (implOk_any A1 A2 n1 n2 _ _ L xs ys _ (HA1.out.alloc _) (HA2.out.alloc _) h1 h2).mono ?_
    rintro e w1 ⟨rfl, hk1⟩
    have hb := (Box.new w _ rfl 25 #[.slice A1 n1 c1, .slice A2 n2 c2, .int .i64 L]).keeps hk1 fun h => h
    have a0 := hb.cell 0
    have a1 := hb.cell 1
    have a2 := hb.cell 2
    simp at a0 a1 a2
    have hi1 := (HA1.out.alloc _).keeps hk1 fun _ _ h => h
    have hi2 := (HA2.out.alloc _).keeps hk1 fun _ _ h => h
    have HI1 := Lib.hid hi1
    have HI2 := Lib.hid hi2
    have HK1 := Lib.hid hk1
    clear hb hk1 hi1 hi2
    go_wp2_with fail
    go_quiet ((first | (go_at_call_of 26 (Value.slice A1 n1 c1); exact quiet_bk (implSum_any A1 n1 _ xs _ (HI1.out.drewN _) HS1.out hx1)) | (go_at_call_of 26 (Value.slice A2 n2 c2); exact quiet_bk (implSum_any A2 n2 _ ys _ (HI2.out.drewN _) HS2.out hx2))))
    go_wp2
    go_ret2
    exact ⟨by rw [HO.out, HN.out]; rfl, (((Keeps.refl _ _).alloc _).trans HK1.out).drewN _⟩
  · have hk' : okB ⟨xs, ys, L⟩ = false := Bool.eq_false_iff.2 hk
    have HO : Hid (allOwn ⟨xs, ys, L⟩ = -1) := by show _ = _; simp [allOwn, hk']
    have HN : Hid (allNotes ⟨xs, ys, L⟩ = -1) := by show _ = _; simp [allNotes, hk']
    clear hk
    go_enter Try.func10, Try.ntmps10
    go_wp2_with fail
    refine (implOk_any A1 A2 n1 n2 _ _ L xs ys _ (HA1.out.alloc _) (HA2.out.alloc _) h1 h2).mono ?_
    rintro e w1 ⟨rfl, hk1⟩
    go_wp2
    go_ret2
    exact ⟨by rw [HO.out, HN.out]; rfl, ((Keeps.refl _ _).alloc _).trans hk1⟩
end Go.Proofs.Ytedmkbiamjpdaab
