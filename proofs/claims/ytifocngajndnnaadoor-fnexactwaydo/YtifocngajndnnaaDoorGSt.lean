/- A channel state in memory of the call's own, under a ghost of roles; l3Copy of the model: a state anew. -/
import Derived.Test.YtifocngajndnnaaDoorGh
import Derived.Test.YtifocngajndnnaaDoorSTo
set_option linter.unusedVariables false
set_option linter.unusedSimpArgs false
namespace Go.Proofs.YtifocngajndnnaaDoor
open Go.RowKit

/-- A state with where its rows lie. -/
structure StM where
  x : StL
  A1 : Option Addr
  A2 : Option Addr
  A3 : Option Addr
  A4 : Option Addr
  c1 : Nat
  c2 : Nat
  c3 : Nat
  c4 : Nat
def StM.cs (s : StM) : List Value := [.int .i64 s.x.way, .int .i64 s.x.ver, .int .i64 s.x.want, .slice s.A1 s.x.sent.length s.c1, .slice s.A2 s.x.live.length s.c2, .slice s.A3 s.x.back.length s.c3, .slice s.A4 s.x.got.length s.c4]
def StM.val (s : StM) : Value := .agg #[.int .i64 s.x.way, .int .i64 s.x.ver, .int .i64 s.x.want, .slice s.A1 s.x.sent.length s.c1, .slice s.A2 s.x.live.length s.c2, .slice s.A3 s.x.back.length s.c3, .slice s.A4 s.x.got.length s.c4]
/-- Its rows are the call's own, of the roles ρ. -/
def StR (G : Nat → Nat) (ρ : Nat → Nat) (w : World) (s : StM) : Prop :=
  Rw G (ρ 0) w 44 7 (.slice s.A1 s.x.sent.length s.c1) s.x.sent.length (vPs s.x.sent) ∧ Rw G (ρ 1) w 4 1 (.slice s.A2 s.x.live.length s.c2) s.x.live.length (vBs s.x.live) ∧
  Rw G (ρ 2) w 4 1 (.slice s.A3 s.x.back.length s.c3) s.x.back.length (vBs s.x.back) ∧ Rw G (ρ 3) w 3 1 (.slice s.A4 s.x.got.length s.c4) s.x.got.length (vIs s.x.got)
theorem StR.at_ {G ρ : Nat → Nat} {w : World} {s : StM} (h : StR G ρ w s) : StAt w s.x s.A1 s.A2 s.A3 s.A4 :=
  ⟨⟨owns_pks h.1.1, owns_bools h.2.1.1, owns_bools h.2.2.1.1, owns_ints h.2.2.2.1⟩, (owns_cells h.1.1).1, (owns_cells h.2.1.1).1, (owns_cells h.2.2.1.1).1, (owns_cells h.2.2.2.1).1⟩
theorem StR.keeps {S : Nat → Prop} {G ρ : Nat → Nat} {w w' : World} {s : StM} (h : StR G ρ w s) (hk : Keeps S w w') (hs : ∀ b k, k < 4 → G b = ρ k → ¬ S b) : StR G ρ w' s :=
  ⟨h.1.keeps hk fun b => hs b 0 (by decide), h.2.1.keeps hk fun b => hs b 1 (by decide), h.2.2.1.keeps hk fun b => hs b 2 (by decide), h.2.2.2.keeps hk fun b => hs b 3 (by decide)⟩
theorem StR.kept {G ρ : Nat → Nat} {w w' : World} {s : StM} (h : StR G ρ w s) (hk : Keeps noBlk w w') : StR G ρ w' s := h.keeps hk fun _ _ _ _ h => h
theorem StR.ext {G G' ρ : Nat → Nat} {w : World} {s : StM} (h : StR G ρ w s) (hG : ∀ b, b < w.heap.size → G' b = G b) : StR G' ρ w s :=
  ⟨h.1.ext hG, h.2.1.ext hG, h.2.2.1.ext hG, h.2.2.2.ext hG⟩
theorem info_int3 : (Tryd.prog.info? 3).map (fun i => (i.zero, i.size, i.bytes)) = some (some (.int .i64 0), 1, 8) := by kernel_rfl
theorem grown_keeps {w w' : World} {v : Value} (h : w.grownBy w' v.ownBlock) : Keeps (fun b => v.ownBlock = some b) w w' := Keeps.of_grown h
/-- A literal without elements. -/
theorem owns_lit0 (w : World) (g : Nat) (hg : g = w.heap.size) (e : TypeId) (sz : Nat) : (w.alloc (.cells #[] e)).ownsRow 0 e sz (.slice (some ⟨g, 0, none⟩) 0 0) 0 [] := by
  subst hg
  exact ⟨by simp, .inr ⟨w.heap.size, 0, #[], rfl, Nat.zero_le _, heap_alloc_new w _, Nat.zero_le _, Nat.zero_le _, by simp, by simp⟩⟩

/-- A state anew: whatever roles one wants, its rows have them, and the blocks of before keep theirs. -/
def RetCopy (w : World) (x : StL) (e : Ending) (w' : World) : Prop :=
  ∃ s : StM, e = .returned s.val ∧ s.x = x ∧ Keeps noBlk w w' ∧ ∀ G ρ : Nat → Nat, ∃ G' : Nat → Nat, (∀ b, b < w.heap.size → G' b = G b) ∧ StR G' ρ w' s
end Go.Proofs.YtifocngajndnnaaDoor
