/- spec.ChainNew, impl.ChainNew. impl.ChainBlock: one more height. -/
import Derived.Test.YtcnbephpadmboaaGreatDoorCxU
import Derived.Test.YtcnbephpadmboaaGreatDoorCxL
import Derived.Test.YtcnbephpadmboaaGreatDoorNew
import Derived.Test.YtcnbephpadmboaaGreatDoorUEM
import Derived.Test.YtcnbephpadmboaaGreatDoorCxO
import Derived.Test.YtcnbephpadmboaaGreatDoorCxG
set_option linter.unusedVariables false
set_option linter.unusedSimpArgs false
/-! CxN -/
namespace Go.Proofs.YtcnbephpadmboaaGreatDoor
open Go.RowKit

def bk0 : BkM := ⟨⟨[], [], 0⟩, none, none, 0, 0⟩
/-- The zero value. -/
def ch0 : ChM := ⟨0, bk0, stm0, [], none, 0, [], none, 0⟩
theorem st0_own (w : World) (lo : Nat) : stm0.Own w lo :=
  ⟨lo, lo, lo, ⟨PRow.nil _ _ _, BRow.nil _ _ _, BRow.nil _ _ _, Row.nil _ _ _⟩, fun _ h => absurd h.1 (by decide), fun _ h => absurd h.1 (by decide), fun _ h => absurd h.1 (by decide), Nat.le_refl _, Nat.le_refl _, Nat.le_refl _⟩
theorem st0_bl {b : Nat} (h : stm0.bl b) : False := by
  rcases h with h | h | h | h <;> exact absurd h.1 (by decide)
theorem ch0_own (w : World) (lo : Nat) : ChOwn (fun _ => 0) w lo ch0 :=
  ⟨Row.nil _ _ _, fun _ h => absurd h.1 (by decide), Row.nil _ _ _, fun _ h => absurd h.1 (by decide), st0_own w lo, fun _ h => (st0_bl h).elim, SRow.nil _ _ _, fun _ h => absurd h.1 (by decide), fun i h => absurd h (Nat.not_lt_zero i), Row.nil _ _ _, fun _ h => absurd h.1 (by decide),
    by decide, by decide, by decide, by decide, ⟨by decide, by decide, by decide, by decide⟩, fun i h => absurd h (Nat.not_lt_zero i)⟩
end Go.Proofs.YtcnbephpadmboaaGreatDoor

/-! CxV -/
namespace Go.Proofs.YtcnbephpadmboaaGreatDoor
open Go.RowKit

theorem Lk.other {w w' : World} {lo k : Nat} {cs : Array Value} (hk : Keeps (fun b => b = k) w w') (hb : Box w k 78 cs) : ∀ {rs : List StM} {P : Option Addr}, Lk w lo P rs → Lk w' lo P rs
  | [], _, h => h
  | _ :: _, _, ⟨g, q, e, hl, hx, hr⟩ => ⟨g, q, e, hl, hx.keeps hk (fun (h : g = k) => by
      subst h
      have h1 : w.heap[g]? = _ := hb
      have h2 : w.heap[g]? = _ := hx
      rw [h1] at h2
      injection h2 with h2
      injection h2 with _ h2
      revert h2
      decide), Lk.other hk hb hr⟩
theorem kn_ge {l : List Int} (h : KnOk l) (i : Nat) (hi : i < l.length) : (i : Int) + 1 ≤ l.getD i 0 := by
  induction i with
  | zero => have := (h 0 hi).1.1; omega
  | succ i ih => have h1 := ih (by omega); have h2 := (h (i + 1) hi).2 (by omega); simp only [Nat.add_sub_cancel] at h2; omega
theorem kn_len {l : List Int} (h : KnOk l) : l.length ≤ 90 := by
  rcases Nat.lt_or_ge 90 l.length with hl | hl
  · have h1 := kn_ge h 90 hl
    have h2 := (h 90 hl).1.2
    omega
  · exact hl
theorem ok_len2 {b : BankL} (h : okB b = true) : b.own.length ≤ 1000 ∧ b.notes.length ≤ 1000 := by
  unfold okB at h
  simp only [Bool.and_eq_true] at h
  have h1 := (parts_small h.1.1.1.1).2
  have h2 := (parts_small h.1.1.1.2).2
  omega
/-- A chain that is ok, with its heights linked, is as chain() wants it. -/
theorem lnk_of {w : World} {c : ChM} {P : Option Addr} {lo : Nat} (h : ChAt w c) (hb : ckB c = true) (hl : Lk w lo P c.past.reverse) : Lnk w c P lo := by
  obtain ⟨_, k1, k2, k3, k4, k5⟩ := of_decide_eq_true hb
  have e1 := ok_len2 k1
  have e2 := stB_len k2
  have e3 := kn_len k5
  refine ⟨h.own, h.notes, h.st, h.past, h.knows, hl, e1.1, e1.2, by omega, by omega, fun s hs => ?_, by omega⟩
  obtain ⟨i, hi, rfl⟩ := List.getElem_of_mem hs
  have e : c.past.getD i stm0 = c.past[i] := by rw [List.getD_eq_getElem?_getD, List.getElem?_eq_getElem hi]; rfl
  have := stB_len (k4 i hi)
  rw [e] at this
  omega
theorem ChOwn.less {G : Nat → Nat} {w : World} {lo lo' : Nat} {c : ChM} (h : ChOwn G w lo c) (hl : lo' ≤ lo) : ChOwn G w lo' c :=
  ⟨h.own.less hl, h.gown, h.notes.less hl, h.gnotes, h.st.less hl, h.gst, h.row.less hl, h.grow, fun i hi => ⟨(h.past i hi).1.less hl, (h.past i hi).2⟩, h.knows.less hl, h.gknows, h.m1, h.m2, h.m3, h.m4, h.m5, h.m6⟩
end Go.Proofs.YtcnbephpadmboaaGreatDoor
