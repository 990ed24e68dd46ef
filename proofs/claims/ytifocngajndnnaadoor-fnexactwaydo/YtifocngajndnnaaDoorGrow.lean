/- Regions that draw their order, whose operations read old memory alone and whose calls hand back one value and leave old memory as it was: one walk of the lexical order serves. Nothing here speaks of the program. No condition. -/
import Derived.Test.YtifocngajndnnaaDoorMem
import Derived.BigQuiet
set_option linter.unusedVariables false
set_option linter.unusedSimpArgs false
namespace Go.Proofs.YtifocngajndnnaaDoor
open Go.RowKit

/-- A world that grew from w. -/
structure GW (w : World) where
  val : World
  keep : Keeps noBlk w val
instance (w : World) : Nonempty (GW w) := ⟨⟨w, Keeps.refl _ _⟩⟩
theorem GW.cell {w : World} {b o : Nat} {v : Value} (h : w.cell? ⟨b, o, none⟩ = some v) (u : GW w) : u.val.cell? ⟨b, o, none⟩ = some v :=
  (u.keep.cell (World.block_lt_of_cell? w _ h) (fun h => h)).trans h
theorem wp_region_grow {P : Program} {id : Nat} {Q : Exit → Act → World → Prop} {a : Act} {w : World} {l : List Oper} (hm : P.follows .mixedOrders = true) (hB : Region.lexB .any l.toArray = true)
    (h : wpQuiet P l.toArray (fun w' => ∃ u : GW w, w' = u.val) (fun a' => ∀ w', (∃ u : GW w, w' = u.val) → Q .normal a' w') l a) : (Code.region id l.toArray true).wp P Q a w :=
  wp_region_quiet (C := fun w' => ∃ u : GW w, w' = u.val) hm hB ⟨⟨_, (Keeps.refl _ _).drew⟩, rfl⟩ (by simpa using h)
theorem Calls.grow {P : Program} {f : FuncId} {args : Array Value} {w : World} {v : Value} (u : GW w) (h : Calls P f args u.val fun e w' => e = .returned v ∧ Keeps noBlk u.val w') :
    Calls P f args u.val fun e w'' => e = .returned v ∧ ∃ u' : GW w, w'' = u'.val :=
  h.mono fun _ _ ⟨he, hk⟩ => ⟨he, ⟨_, u.keep.trans hk⟩, rfl⟩
end Go.Proofs.YtifocngajndnnaaDoor
