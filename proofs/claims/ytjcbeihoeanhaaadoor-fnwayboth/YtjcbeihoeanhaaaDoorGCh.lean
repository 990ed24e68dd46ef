/- A chain in memory of the call's own, under a ghost of roles. Nothing here speaks of the program's functions. -/
import Derived.Test.YtjcbeihoeanhaaaDoorUGh
set_option linter.unusedVariables false
set_option linter.unusedSimpArgs false
namespace Go.Proofs.YtjcbeihoeanhaaaDoor
open Go.RowKit

structure BkM where
 b : BankL
 A1 : Option Addr
 A2 : Option Addr
 c1 : Nat
 c2 : Nat
@[simp, go_sem] abbrev bkC (s : BkM) : Array Value := #[.slice s.A1 s.b.own.length s.c1, .slice s.A2 s.b.notes.length s.c2, .int .i64 s.b.locked]
def BkM.val (s : BkM) : Value := .agg #[.slice s.A1 s.b.own.length s.c1, .slice s.A2 s.b.notes.length s.c2, .int .i64 s.b.locked]
structure ChM where
 id : Int
 bk : BkM
 st : StM
 past : List StM
 pA : Option Addr
 pc : Nat
 knows : List Int
 kA : Option Addr
 kc : Nat
@[simp, go_sem] abbrev chC (c : ChM) : Array Value := #[.int .i64 c.id, .slice c.bk.A1 c.bk.b.own.length c.bk.c1, .slice c.bk.A2 c.bk.b.notes.length c.bk.c2, .int .i64 c.bk.b.locked, .int .i64 c.st.x.way, .int .i64 c.st.x.ver, .int .i64 c.st.x.want, .slice c.st.A1 c.st.x.sent.length c.st.c1, .slice c.st.A2 c.st.x.live.length c.st.c2, .slice c.st.A3 c.st.x.back.length c.st.c3, .slice c.st.A4 c.st.x.got.length c.st.c4, .slice c.pA c.past.length c.pc, .slice c.kA c.knows.length c.kc]
def ChM.cs (c : ChM) : List Value := [.int .i64 c.id, .slice c.bk.A1 c.bk.b.own.length c.bk.c1, .slice c.bk.A2 c.bk.b.notes.length c.bk.c2, .int .i64 c.bk.b.locked,
 .int .i64 c.st.x.way, .int .i64 c.st.x.ver, .int .i64 c.st.x.want, .slice c.st.A1 c.st.x.sent.length c.st.c1, .slice c.st.A2 c.st.x.live.length c.st.c2, .slice c.st.A3 c.st.x.back.length c.st.c3, .slice c.st.A4 c.st.x.got.length c.st.c4,
 .slice c.pA c.past.length c.pc, .slice c.kA c.knows.length c.kc]
def ChM.val (c : ChM) : Value := .agg #[.int .i64 c.id, .slice c.bk.A1 c.bk.b.own.length c.bk.c1, .slice c.bk.A2 c.bk.b.notes.length c.bk.c2, .int .i64 c.bk.b.locked,
 .int .i64 c.st.x.way, .int .i64 c.st.x.ver, .int .i64 c.st.x.want, .slice c.st.A1 c.st.x.sent.length c.st.c1, .slice c.st.A2 c.st.x.live.length c.st.c2, .slice c.st.A3 c.st.x.back.length c.st.c3, .slice c.st.A4 c.st.x.got.length c.st.c4,
 .slice c.pA c.past.length c.pc, .slice c.kA c.knows.length c.kc]
theorem stcs_length (s : StM) : s.cs.length = 7 := rfl
def vSs (l : List StM) : List Value := l.flatMap StM.cs
theorem vSs_snoc (l : List StM) (s : StM) : vSs (l ++ [s]) = vSs l ++ s.cs := by simp [vSs]
def rl (i k : Nat) : Nat := 16 * (i + 1) + k
def im (_ : Nat) : Nat := 1
def Mt (G : Nat → Nat) (i b : Nat) : Prop := ∃ k, k < 7 ∧ G b = rl i k
def RwI (G : Nat → Nat) (r : Nat) (w : World) (A : Option Addr) (xs : List Int) : Prop := Row w 0 A xs.length xs ∧ ∀ b, blk A xs.length b → G b = r
def BkR (G : Nat → Nat) (ρ : Nat → Nat) (w : World) (s : BkM) : Prop := RwI G (ρ 4) w s.A1 s.b.own ∧ RwI G (ρ 5) w s.A2 s.b.notes
def ChR (G : Nat → Nat) (i : Nat) (w : World) (c : ChM) : Prop :=
 BkR G (rl i) w c.bk ∧ StR G (rl i) w c.st ∧ Rw G (rl i 6) w 27 7 (.slice c.pA c.past.length c.pc) c.past.length (vSs c.past) ∧ (∀ s ∈ c.past, StR G im w s) ∧
 Rw G 1 w 3 1 (.slice c.kA c.knows.length c.kc) c.knows.length (vIs c.knows)
theorem rl_ne_im {i k : Nat} : rl i k ≠ 1 := by unfold rl; omega
theorem rl_inj {i j k l : Nat} (hk : k < 7) (hl : l < 7) (h : rl i k = rl j l) : i = j ∧ k = l := by unfold rl at h; omega
section
variable {G G' : Nat → Nat} {i j : Nat} {w w' : World}
theorem RwI.keeps {S : Nat → Prop} {r : Nat} {A : Option Addr} {xs : List Int} (h : RwI G r w A xs) (hk : Keeps S w w') (hs : ∀ b, G b = r → ¬ S b) : RwI G r w' A xs := ⟨h.1.keeps hk fun b hb => hs b (h.2 b hb), h.2⟩
theorem RwI.ext {r : Nat} {A : Option Addr} {xs : List Int} (h : RwI G r w A xs) (hG : ∀ b, b < w.heap.size → G' b = G b) : RwI G' r w A xs := ⟨h.1, fun b hb => (hG b (h.1.lt hb)).trans (h.2 b hb)⟩
theorem BkR.keeps {S : Nat → Prop} {ρ : Nat → Nat} {s : BkM} (h : BkR G ρ w s) (hk : Keeps S w w') (hs : ∀ b k, 4 ≤ k → k < 6 → G b = ρ k → ¬ S b) : BkR G ρ w' s :=
 ⟨h.1.keeps hk fun b => hs b 4 (by decide) (by decide), h.2.keeps hk fun b => hs b 5 (by decide) (by decide)⟩
theorem BkR.ext {ρ : Nat → Nat} {s : BkM} (h : BkR G ρ w s) (hG : ∀ b, b < w.heap.size → G' b = G b) : BkR G' ρ w s := ⟨h.1.ext hG, h.2.ext hG⟩
theorem ChR.keeps {S : Nat → Prop} {c : ChM} (h : ChR G i w c) (hk : Keeps S w w') (hs : ∀ b, (Mt G i b ∨ G b = 1) → ¬ S b) : ChR G i w' c :=
 ⟨h.1.keeps hk fun b k _ h6 hb => hs b (.inl ⟨k, by omega, hb⟩), h.2.1.keeps hk fun b k h4 hb => hs b (.inl ⟨k, by omega, hb⟩), h.2.2.1.keeps hk fun b hb => hs b (.inl ⟨6, by decide, hb⟩),
  fun s hsm => (h.2.2.2.1 s hsm).keeps hk fun b _ _ hb => hs b (.inr hb), h.2.2.2.2.keeps hk fun b hb => hs b (.inr hb)⟩
theorem ChR.kept {c : ChM} (h : ChR G i w c) (hk : Keeps noBlk w w') : ChR G i w' c := h.keeps hk fun _ _ h => h
theorem ChR.ext {c : ChM} (h : ChR G i w c) (hG : ∀ b, b < w.heap.size → G' b = G b) : ChR G' i w c :=
 ⟨h.1.ext hG, h.2.1.ext hG, h.2.2.1.ext hG, fun s hs => (h.2.2.2.1 s hs).ext hG, h.2.2.2.2.ext hG⟩
theorem Mt.not_im {b : Nat} (h : Mt G i b) : G b ≠ 1 := by
 obtain ⟨k, _, hk⟩ := h; rw [hk]; exact rl_ne_im
theorem Mt.other {b : Nat} (h : Mt G i b) (h' : Mt G j b) : i = j := by
 obtain ⟨k, hk, e⟩ := h; obtain ⟨l, hl, e'⟩ := h'; exact (rl_inj hk hl (e.symm.trans e')).1
theorem ChR.other {c : ChM} (h : ChR G j w c) (hk : Keeps (Mt G i) w w') (hij : i ≠ j) : ChR G j w' c :=
 h.keeps hk fun b hb hm => by
  rcases hb with hb | hb
  ·exact hij (hm.other hb)
  ·exact hm.not_im hb
end
def RetCh (G : Nat → Nat) (i : Nat) (w : World) (P : ChM → Prop) (e : Ending) (w' : World) : Prop :=
 ∃ (G' : Nat → Nat) (c : ChM), e = .returned c.val ∧ P c ∧ (∀ b, b < w.heap.size → G' b = G b) ∧ ChR G' i w' c ∧ Keeps (Mt G i) w w'
def StI (G : Nat → Nat) (w : World) (s : StM) : Prop := StAt w s.x s.A1 s.A2 s.A3 s.A4 ∧ ∀ b, (blk s.A1 s.x.sent.length b ∨ blk s.A2 s.x.live.length b ∨ blk s.A3 s.x.back.length b ∨ blk s.A4 s.x.got.length b) → G b = 1
theorem StI.at_ {G : Nat → Nat} {w : World} {s : StM} (h : StI G w s) : StAt w s.x s.A1 s.A2 s.A3 s.A4 := h.1
theorem StI.kept {G : Nat → Nat} {w w' : World} {s : StM} (h : StI G w s) (hk : Keeps noBlk w w') : StI G w' s := ⟨h.1.kept hk, h.2⟩
theorem StI.lt {G : Nat → Nat} {w : World} {s : StM} (h : StI G w s) {b : Nat} (hb : blk s.A1 s.x.sent.length b ∨ blk s.A2 s.x.live.length b ∨ blk s.A3 s.x.back.length b ∨ blk s.A4 s.x.got.length b) : b < w.heap.size := by
 rcases hb with hb | hb | hb | hb
 ·exact h.1.1.1.lt hb
 ·exact h.1.1.2.1.lt hb
 ·exact h.1.1.2.2.1.lt hb
 ·exact h.1.1.2.2.2.lt hb
theorem StI.ext {G G' : Nat → Nat} {w : World} {s : StM} (h : StI G w s) (hG : ∀ b, b < w.heap.size → G' b = G b) : StI G' w s := ⟨h.1, fun b hb => (hG b (h.lt hb)).trans (h.2 b hb)⟩
theorem blk_owned {A : Option Addr} {n c b : Nat} (h : blk A n b) : (Value.slice A n c).ownBlock = some b := by
 obtain ⟨_, a, rfl, rfl⟩ := h
 rfl
theorem StR.toI {G : Nat → Nat} {w : World} {s : StM} (h : StR G im w s) : StI G w s := by
 refine ⟨h.at_, fun b hb => ?_⟩
 rcases hb with hb | hb | hb | hb
 ·exact h.1.2 b (blk_owned hb)
 ·exact h.2.1.2 b (blk_owned hb)
 ·exact h.2.2.1.2 b (blk_owned hb)
 ·exact h.2.2.2.2 b (blk_owned hb)
end Go.Proofs.YtjcbeihoeanhaaaDoor
