/- impl's parts of StateOk. -/
import Derived.Test.YtedmkbiamjpdaaaStP
import Derived.Test.YtedmkbiamjpdaaaPkI
import Derived.Deep.RegionHeld3
set_option linter.unusedVariables false
set_option linter.unusedSimpArgs false
namespace Go.Proofs.Ytedmkbiamjpdaaa
open Go.RowKit

/-- A state lies in memory behind the value. -/
def StAt (w : World) (x : StL) (A1 A2 A3 A4 : Option Addr) : Prop :=
  (Pks w A1 x.sent.length x.sent ∧ Bools w A2 x.live.length x.live ∧ Bools w A3 x.back.length x.back ∧ Ints w A4 x.got.length x.got) ∧
  (x.sent.length ≤ maxLen ∧ x.live.length ≤ maxLen ∧ x.back.length ≤ maxLen ∧ x.got.length ≤ maxLen)
theorem StAt.keeps {S : Nat → Prop} {w w' : World} {x : StL} {A1 A2 A3 A4 : Option Addr} (h : StAt w x A1 A2 A3 A4) (hk : Keeps S w w')
    (hs : ∀ b, (blk A1 x.sent.length b ∨ blk A2 x.live.length b ∨ blk A3 x.back.length b ∨ blk A4 x.got.length b) → ¬ S b) : StAt w' x A1 A2 A3 A4 :=
  ⟨⟨h.1.1.keeps hk fun b hb => hs b (.inl hb), h.1.2.1.keeps hk fun b hb => hs b (.inr (.inl hb)), h.1.2.2.1.keeps hk fun b hb => hs b (.inr (.inr (.inl hb))), h.1.2.2.2.keeps hk fun b hb => hs b (.inr (.inr (.inr hb)))⟩, h.2⟩
theorem StAt.kept {w w' : World} {x : StL} {A1 A2 A3 A4 : Option Addr} (h : StAt w x A1 A2 A3 A4) (hk : Keeps noBlk w w') : StAt w' x A1 A2 A3 A4 := h.keeps hk fun _ _ h => h
theorem StAt.alloc {w : World} {x : StL} {A1 A2 A3 A4 : Option Addr} (h : StAt w x A1 A2 A3 A4) (o : Obj) : StAt (w.alloc o) x A1 A2 A3 A4 := h.kept ((Keeps.refl _ _).alloc o)
theorem StAt.drewN {w : World} {x : StL} {A1 A2 A3 A4 : Option Addr} (h : StAt w x A1 A2 A3 A4) (n : Nat) : StAt (w.drewN n) x A1 A2 A3 A4 := h.kept ((Keeps.refl _ _).drewN n)

end Go.Proofs.Ytedmkbiamjpdaaa
