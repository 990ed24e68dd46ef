/- l12Block of the model: a chain ends a height. l12Send of the model: a chain sends coins. l12Send of the model: the packet is ok. l12Send of the model: it is sent. l12Send of the model: it is sent, the walk. -/
import Derived.Test.YtcnbephpadmboaaGreatDoorULate
import Derived.Deep.RegionLaw
import Derived.Test.YtcnbephpadmboaaGreatDoorUPk
set_option linter.unusedVariables false
set_option linter.unusedSimpArgs false
/-! GBlock -/
namespace Go.Proofs.YtcnbephpadmboaaGreatDoor
open Go.RowKit

theorem info_stG : (Tryz.prog.info? 39).map (fun i => (i.zero, i.size, i.bytes)) = some (some (.agg #[.int .i64 0, .int .i64 0, .int .i64 0, .slice none 0 0, .slice none 0 0, .slice none 0 0, .slice none 0 0]), 7, 120) := by kernel_rfl
theorem one_st {s : StM} : ∀ u ∈ s.cs, u.oneCell' = true := by
  intro u hu
  simp only [StM.cs, List.mem_cons, List.not_mem_nil, or_false] at hu
  rcases hu with rfl | rfl | rfl | rfl | rfl | rfl | rfl <;> rfl
end Go.Proofs.YtcnbephpadmboaaGreatDoor

/-! GSendA -/
namespace Go.Proofs.YtcnbephpadmboaaGreatDoor
open Go.RowKit

end Go.Proofs.YtcnbephpadmboaaGreatDoor

/-! GSendB -/
namespace Go.Proofs.YtcnbephpadmboaaGreatDoor
open Go.RowKit

end Go.Proofs.YtcnbephpadmboaaGreatDoor

/-! GSendC -/
namespace Go.Proofs.YtcnbephpadmboaaGreatDoor
open Go.RowKit

section
variable {G : Nat → Nat} {i : Nat} {w w' : World} {c : ChM} {A' : Option Addr} {k' : Nat}
theorem ChR.box {S : Nat → Prop} (h : ChR G i w c) (hk : Keeps S w w') (hs : ∀ b, S b → G b = 0) : ChR G i w' c :=
  h.keeps hk fun b hb hS => by
    rcases hb with ⟨k, _, e⟩ | e
    · rw [hs b hS] at e; unfold rl at e; omega
    · rw [hs b hS] at e; omega
/-- The bank is turned. -/
theorem ChR.bank {s : BkM} (h : ChR G i w c) (hb : BkR G (rl i) w' s) (hk : Keeps (MtB G i) w w') : ChR G i w' { c with bk := s } :=
  ⟨hb, h.2.1.keeps hk fun b k _ e e' => by rcases e' with e' | e' <;> (rw [e] at e'; unfold rl at e'; omega), h.2.2.1.keeps hk fun b e e' => by rcases e' with e' | e' <;> (rw [e] at e'; unfold rl at e'; omega),
    fun s hs => (h.2.2.2.1 s hs).keeps hk fun b k _ e e' => by rcases e' with e' | e' <;> (rw [e] at e'; unfold rl im at e'; omega), h.2.2.2.2.keeps hk fun b e e' => by rcases e' with e' | e' <;> (rw [e] at e'; unfold rl at e'; omega)⟩
end
end Go.Proofs.YtcnbephpadmboaaGreatDoor

/-! GSendD -/
namespace Go.Proofs.YtcnbephpadmboaaGreatDoor
open Go.RowKit

end Go.Proofs.YtcnbephpadmboaaGreatDoor
