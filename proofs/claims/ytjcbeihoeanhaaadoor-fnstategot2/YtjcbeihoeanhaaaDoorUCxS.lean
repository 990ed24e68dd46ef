/- szStateS, szChain of the laws. toStateS, toChain of the laws: a chain anew, of the call's own. -/
import Derived.Test.YtjcbeihoeanhaaaDoorUCxM
set_option linter.unusedVariables false
set_option linter.unusedSimpArgs false
/-! CxS -/
namespace Go.Proofs.YtjcbeihoeanhaaaDoor
open Go.RowKit

def stTot (x : StL) : Int := (x.sent.length : Int) + x.live.length + x.back.length + x.got.length
def paTot (l : List StM) : Nat → Int
 | 0 => 0
 | k + 1 => paTot l k + stTot (l.getD k stm0).x
theorem stTot_nn (x : StL) : 0 ≤ stTot x := by unfold stTot; omega
theorem paTot_nn (l : List StM) (k : Nat) : 0 ≤ paTot l k := by
 induction k with
 | zero => exact Int.le_refl _
 | succ k ih => have := stTot_nn (l.getD k stm0).x; simp only [paTot]; omega
theorem paTot_mono (l : List StM) {j k : Nat} (h : j ≤ k) : paTot l j ≤ paTot l k := by
 induction h with
 | refl => exact Int.le_refl _
 | @step m _ ih => have := stTot_nn (l.getD m stm0).x; simp only [paTot]; omega
def pastTot (l : List StM) : Int := (l.length : Int) + paTot l l.length
def chTot (c : ChM) : Int := (c.bk.b.own.length : Int) + c.bk.b.notes.length + stTot c.st.x + pastTot c.past + c.knows.length
def szR (left t : Int) : Int := if t ≤ left then left - t else -1


theorem info_st : (Tryd.prog.info? 27).map (fun i => (i.zero, i.size, i.bytes)) = some (some (.agg zCS), 7, 120) := by kernel_rfl
def zst : Array Value := #[.int .i64 0, .int .i64 0, .int .i64 0, .slice none 0 0, .slice none 0 0, .slice none 0 0, .slice none 0 0]
theorem run_make_sts (n : Nat) (hn : n ≤ 1048576) (w : World) :
  (Instr.makeSlice 92 (.int .i64 (n : Int)) (.int .i64 (n : Int))).run Tryd.prog w = .ok (.slice (some ⟨w.heap.size, 0, none⟩) n n) (w.alloc (.cells (madeCells zst (n * 7)) 27)) := by
 obtain ⟨i, hi, hzz⟩ := Option.map_eq_some_iff.1 info_st
 simp only [Prod.mk.injEq] at hzz
 obtain ⟨hz, hs, hb⟩ := hzz
 have hr := run_make (P := Tryd.prog) w 92 27 i _ Tryd.underlying92 hi hz .i64 .i64 n n (by omega) (Int.le_refl _) (by rw [hb]; omega) (by omega)
 simp only [Int.toNat_natCast, hs] at hr
 exact hr
theorem made_st (n j : Nat) (hj : j < n) (i : Nat) (c : Value) (hc : stm0.cs[i]? = some c) : (madeCells zst (n * 7))[j * 7 + i]? = some c := by
 have hi : i < 7 := (List.getElem?_eq_some_iff.1 hc).1
 have hm : (j * 7 + i) % 7 = i := by omega
 have hlt : j * 7 + i < n * 7 := by omega
 simp only [madeCells, zst]
 have hr : (Array.range (n * 7))[j * 7 + i]? = some (j * 7 + i) := by simp [hlt]
 rw [Array.getElem?_map, hr]
 simp only [Option.map_some]
 have : (#[Value.int .i64 0, .int .i64 0, .int .i64 0, .slice none 0 0, .slice none 0 0, .slice none 0 0, .slice none 0 0] : Array Value).size = 7 := rfl
 rw [this, hm]
 match i, hi, hc with
 | 0, _, hc => exact hc
 | 1, _, hc => exact hc
 | 2, _, hc => exact hc
 | 3, _, hc => exact hc
 | 4, _, hc => exact hc
 | 5, _, hc => exact hc
 | 6, _, hc => exact hc
theorem SRow.made (w : World) (n : Nat) : SRow (w.alloc (.cells (madeCells zst (n * 7)) 27)) w.heap.size (some ⟨w.heap.size, 0, none⟩) n (List.replicate n stm0) :=
 ⟨⟨by simp, fun _ => ⟨_, _, rfl, by simp, fun j p hp i c hc => by
   rw [List.getElem?_replicate] at hp
   split at hp
   ·injection hp with hp
    subst hp
    rw [World.cell?_alloc_new, Nat.zero_add]
    exact made_st n j (by assumption) i c hc
   ·cases hp⟩⟩,
  fun _ => ⟨_, _, rfl, Nat.le_refl _, fun j _ => World.frozen?_alloc_new w _ _ _⟩⟩

def RetPast (w : World) (ps : List StM) (e : Ending) (w' : World) : Prop :=
 ∃ A us, e = .returned (.slice A ps.length ps.length) ∧ us.length = ps.length ∧ SRow w' w.heap.size A ps.length us ∧ SameS ps us ∧ Keeps noBlk w w' ∧
  ∀ G : Nat → Nat, ∃ G' : Nat → Nat, (∀ b, b < w.heap.size → G' b = G b) ∧ (∀ b, blk A ps.length b → G' b = 3) ∧ (∀ i, i < ps.length → SOwn G' 10 w' w.heap.size us i)
theorem sown_step {G : Nat → Nat} {wr w1 w2 : World} {lo base k n : Nat} {us : List StM} {P : Nat → Prop} (s : StM) (h : ∀ i, i < n → P i → SOwn G 10 wr lo us i) (hk : Keeps noBlk wr w1) (hn : s.Own w1 wr.heap.size) (hl : lo ≤ wr.heap.size)
  (hu : us.length = n) (hkn : k < n) (hP : ¬ P k) (h2 : Keeps (fun b => b = base) w1 w2) (hb : base < lo) : ∀ i, i < n → (P i ∨ i = k) → SOwn (up G wr.heap.size (10 + k)) 10 w2 lo (us.set k s) i := by
 intro i hi hPi
 by_cases hik : k = i
 ·subst hik
  unfold SOwn
  rw [getD_set_self _ _ (by omega)]
  exact ⟨(hn.less hl).keeps h2 fun b hb' e => by have := hn.ge hb'; omega, fun b hb' => up_new (hn.ge hb')⟩
 ·have hold := h i hi (hPi.resolve_right fun e => hik e.symm)
  unfold SOwn at hold ⊢
  rw [getD_set_ne _ _ hik]
  exact ⟨(hold.1.kept hk).keeps h2 fun b hb' e => by have := hold.1.ge hb'; omega, fun b hb' => by rw [up_old (hold.1.lt hb')]; exact hold.2 b hb'⟩
end Go.Proofs.YtjcbeihoeanhaaaDoor
