/- toStateS, toChain of the laws: a chain anew, of the call's own. -/
import Derived.Test.YtbgpclicflafaaaDoorCxK
import Derived.Test.YtbgpclicflafaaaDoorCxE
import Derived.Test.YtbgpclicflafaaaDoorUOk
set_option linter.unusedVariables false
set_option linter.unusedSimpArgs false
namespace Go.Proofs.YtbgpclicflafaaaDoor
open Go.RowKit

theorem info_st : (Tryd.prog.info? 37).map (fun i => (i.zero, i.size, i.bytes)) = some (some (.agg #[.int .i64 0, .int .i64 0, .int .i64 0, .slice none 0 0, .slice none 0 0, .slice none 0 0, .slice none 0 0]), 7, 120) := by kernel_rfl
def zst : Array Value := #[.int .i64 0, .int .i64 0, .int .i64 0, .slice none 0 0, .slice none 0 0, .slice none 0 0, .slice none 0 0]
theorem run_make_sts (n : Nat) (hn : n ≤ 1048576) (w : World) :
    (Instr.makeSlice 38 (.int .i64 (n : Int)) (.int .i64 (n : Int))).run Tryd.prog w = .ok (.slice (some ⟨w.heap.size, 0, none⟩) n n) (w.alloc (.cells (madeCells zst (n * 7)) 37)) := by
  obtain ⟨i, hi, hzz⟩ := Option.map_eq_some_iff.1 info_st
  simp only [Prod.mk.injEq] at hzz
  obtain ⟨hz, hs, hb⟩ := hzz
  have hr := run_make (P := Tryd.prog) w 38 37 i _ Tryd.underlying38 hi hz .i64 .i64 n n (by omega) (Int.le_refl _) (by rw [hb]; omega) (by omega)
  simp only [Int.toNat_natCast, hs] at hr
  exact hr
theorem made_st (n j : Nat) (hj : j < n) (i : Nat) (c : Value) (hc : stm0.cs[i]? = some c) : (madeCells zst (n * 7))[j * 7 + i]? = some c := by
  have hi : i < 7 := (List.getElem?_eq_some_iff.1 hc).1
  have hm : (j * 7 + i) % 7 = i := by omega
  have hlt : j * 7 + i < n * 7 := by omega
  simp only [madeCells, zst]
  have hr : (Array.range (n * 7))[j * 7 + i]? = some (j * 7 + i) := by simp [hlt]
  rw [Array.getElem?_map, hr]
  simp only [Option.map_some]
  have : (#[Value.int .i64 0, .int .i64 0, .int .i64 0, .slice none 0 0, .slice none 0 0, .slice none 0 0, .slice none 0 0] : Array Value).size = 7 := rfl
  rw [this, hm]
  match i, hi, hc with
  | 0, _, hc => exact hc
  | 1, _, hc => exact hc
  | 2, _, hc => exact hc
  | 3, _, hc => exact hc
  | 4, _, hc => exact hc
  | 5, _, hc => exact hc
  | 6, _, hc => exact hc
theorem SRow.made (w : World) (n : Nat) : SRow (w.alloc (.cells (madeCells zst (n * 7)) 37)) w.heap.size (some ⟨w.heap.size, 0, none⟩) n (List.replicate n stm0) :=
  ⟨⟨by simp, fun _ => ⟨_, _, rfl, by simp, fun j p hp i c hc => by
      rw [List.getElem?_replicate] at hp
      split at hp
      · injection hp with hp
        subst hp
        rw [World.cell?_alloc_new, Nat.zero_add]
        exact made_st n j (by assumption) i c hc
      · cases hp⟩⟩,
    fun _ => ⟨_, _, rfl, Nat.le_refl _, fun j _ => World.frozen?_alloc_new w _ _ _⟩⟩

/-- The call hands back a slice of states of its own, that hold what ps hold; its block has the role 3, the states' blocks 10, 11, .. -/
def RetPast (w : World) (ps : List StM) (e : Ending) (w' : World) : Prop :=
  ∃ A us, e = .returned (.slice A ps.length ps.length) ∧ us.length = ps.length ∧ SRow w' w.heap.size A ps.length us ∧ SameS ps us ∧ Keeps noBlk w w' ∧
    ∀ G : Nat → Nat, ∃ G' : Nat → Nat, (∀ b, b < w.heap.size → G' b = G b) ∧ (∀ b, blk A ps.length b → G' b = 3) ∧ (∀ i, i < ps.length → SOwn G' 10 w' w.heap.size us i)
/-- One more state is laid. -/
theorem sown_step {G : Nat → Nat} {wr w1 w2 : World} {lo base k n : Nat} {us : List StM} {P : Nat → Prop} (s : StM) (h : ∀ i, i < n → P i → SOwn G 10 wr lo us i) (hk : Keeps noBlk wr w1) (hn : s.Own w1 wr.heap.size) (hl : lo ≤ wr.heap.size)
    (hu : us.length = n) (hkn : k < n) (hP : ¬ P k) (h2 : Keeps (fun b => b = base) w1 w2) (hb : base < lo) : ∀ i, i < n → (P i ∨ i = k) → SOwn (up G wr.heap.size (10 + k)) 10 w2 lo (us.set k s) i := by
  intro i hi hPi
  by_cases hik : k = i
  · subst hik
    unfold SOwn
    rw [getD_set_self _ _ (by omega)]
    exact ⟨(hn.less hl).keeps h2 fun b hb' e => by have := hn.ge hb'; omega, fun b hb' => up_new (hn.ge hb')⟩
  · have hold := h i hi (hPi.resolve_right fun e => hik e.symm)
    unfold SOwn at hold ⊢
    rw [getD_set_ne _ _ hik]
    exact ⟨(hold.1.kept hk).keeps h2 fun b hb' e => by have := hold.1.ge hb'; omega, fun b hb' => by rw [up_old (hold.1.lt hb')]; exact hold.2 b hb'⟩
set_option maxRecDepth 100000 in
set_option maxHeartbeats 4000000 in
theorem toStateS_any (A : Option Addr) (c : Nat) (ps : List StM) (w : World) (ha : Pas w A ps.length ps) (hpa : ∀ s ∈ ps, s.At w) (hn : ps.length ≤ 1048576)
    (hm : ∀ s ∈ ps, s.x.sent.length ≤ 1048576 ∧ s.x.live.length ≤ 1048576 ∧ s.x.back.length ≤ 1048576 ∧ s.x.got.length ≤ 1048576) :
    Calls Tryd.prog 58 #[.slice A ps.length c] w (RetPast w ps) := by
  have hmk := run_make_sts ps.length hn
  have HA := Lib.hid ha
  have HP := Lib.hid hpa
  have HM := Lib.hid hm
  clear ha hpa hm
  go_enter Tryd.func58, Tryd.ntmps58
  go_wp2
  go_loopw [4] (fun i wr => ∃ (k : Nat) (us : List StM), k ≤ ps.length ∧ i = .int .i64 k ∧ us.length = ps.length ∧ SRow wr w.heap.size (some ⟨w.heap.size, 0, none⟩) ps.length us ∧ (∀ i, i < k → (ps.getD i stm0).x = (us.getD i stm0).x) ∧ Keeps noBlk w wr ∧ w.heap.size + 1 ≤ wr.heap.size ∧
    ∀ G : Nat → Nat, ∃ G' : Nat → Nat, (∀ b, b < w.heap.size + 1 → G' b = G b) ∧ ∀ i, i < ps.length → i < k → SOwn G' 10 wr (w.heap.size + 1) us i) (fun i _ => ps.length - (intOf i).toNat)
  case atStart => exact ⟨0, List.replicate ps.length stm0, Nat.zero_le _, rfl, by simp, SRow.made w ps.length, fun i h => absurd h (Nat.not_lt_zero _), (Keeps.refl _ _).alloc _, by simp, fun G => ⟨G, fun _ _ => rfl, fun i _ h => absurd h (Nat.not_lt_zero _)⟩⟩
  case round =>
    obtain ⟨k, us, hk, rfl, hul, hr, hsm, hkp, hsz, hG⟩ := hrel
    by_cases hlt : k < ps.length
    · obtain ⟨b2, o2, rfl, _, q0, q1, q2, q3, q4, q5, q6⟩ := (HA.out.kept hkp).at_ hlt
      have hat := (HP.out _ (getD_mem' stm0 hlt)).kept hkp
      have hmm := HM.out _ (getD_mem' stm0 hlt)
      generalize hp : ps.getD k stm0 = p at q0 q1 q2 q3 q4 q5 q6 hat hmm
      obtain ⟨x, A1, A2, A3, A4, c1, c2, c3, c4⟩ := p
      dsimp only [StM.At] at q0 q1 q2 q3 q4 q5 q6 hat hmm
      have HT := Lib.hid (toState_any x A1 A2 A3 A4 c1 c2 c3 c4 wr hat hmm.1 hmm.2.1 hmm.2.2.1 hmm.2.2.2)
      have HPK := Lib.hid hp
      have Hr := Lib.hid hr
      have Hkp := Lib.hid hkp
      have Hsm := Lib.hid hsm
      have HGG := Lib.hid hG
      have Hul := Lib.hid hul
      have HLT := Lib.hid hlt
      clear hr hkp hsm hG hp hat hmm hul
      unfold stV at HT
      go_wp2_with fail
      clear q0 q1 q2 q3 q4 q5 q6
      refine HT.out.mono ?_
      rintro e w1 ⟨B1, B2, B3, B4, rfl, hown, hk1⟩
      unfold stV
      have hr1 := Hr.out.kept hk1
      obtain ⟨b1, o1, e1, _, z0, z1, z2, z3, z4, z5, z6⟩ := hr1.1.at_ hlt
      obtain ⟨b1', o1', e1', _, hf⟩ := hr1.2 (by omega)
      injection e1 with e1
      injection e1 with e1 e2
      subst e1
      subst e2
      injection e1' with e1'
      injection e1' with e1' e2'
      subst e1'
      subst e2'
      have f0 := hf (k * 7) (by omega)
      have f1 := hf (k * 7 + 1) (by omega)
      have f2 := hf (k * 7 + 2) (by omega)
      have f3 := hf (k * 7 + 3) (by omega)
      have f4 := hf (k * 7 + 4) (by omega)
      have f5 := hf (k * 7 + 5) (by omega)
      have f6 := hf (k * 7 + 6) (by omega)
      rw [Nat.zero_add] at z0 z1 z2 z3 z4 z5 z6
      simp only [Nat.zero_add] at f0 f1 f2 f3 f4 f5 f6
      clear hf
      have Hr1 := Lib.hid hr1
      have Hk1 := Lib.hid hk1
      have Hown := Lib.hid hown
      have Hsz := Lib.hid hsz
      clear hr1 hk1 hown hsz
      generalize us.getD k stm0 = old at z0 z1 z2 z3 z4 z5 z6
      go_wp2
      have hset := Hr1.out.set_ HLT.out ⟨x, B1, B2, B3, B4, x.sent.length, x.live.length, x.back.length, x.got.length⟩
      rw [Nat.zero_add] at hset
      have hks := (Keeps.refl (fun b => b = w.heap.size) w1).setSt (b := w.heap.size) (.inr rfl) (k * 7) ⟨x, B1, B2, B3, B4, x.sent.length, x.live.length, x.back.length, x.got.length⟩
      have hsz1 : w.heap.size + 1 ≤ w1.heap.size := Nat.le_trans Hsz.out Hk1.out.size
      refine ⟨⟨k + 1, us.set k ⟨x, B1, B2, B3, B4, x.sent.length, x.live.length, x.back.length, x.got.length⟩, HLT.out, by go_num, by rw [List.length_set]; exact Hul.out, hset, ?_, ?_, ?_, ?_⟩, by have := HLT.out; simp [intOf]; omega⟩
      · intro i hi
        by_cases hik : k = i
        · subst hik
          rw [getD_set_self _ _ (by rw [Hul.out]; exact HLT.out), HPK.out]
        · rw [getD_set_ne _ _ hik]
          exact Hsm.out i (by omega)
      · exact (Hkp.out.trans Hk1.out).setSt (.inl (Nat.le_refl _)) (k * 7) ⟨x, B1, B2, B3, B4, x.sent.length, x.live.length, x.back.length, x.got.length⟩
      · exact Nat.le_trans hsz1 hks.size
      · intro G
        obtain ⟨G', h1, h2⟩ := HGG.out G
        refine ⟨up G' wr.heap.size (10 + k), fun b hb => by rw [up_old (Nat.lt_of_lt_of_le hb Hsz.out)]; exact h1 b hb, fun i hi hik => ?_⟩
        exact sown_step (P := fun i => i < k) ⟨x, B1, B2, B3, B4, x.sent.length, x.live.length, x.back.length, x.got.length⟩ h2 Hk1.out Hown.out Hsz.out Hul.out HLT.out (Nat.lt_irrefl k) hks (Nat.lt_succ_self _) i hi (by omega)
    · obtain he : k = ps.length := by omega
      have Hr := Lib.hid hr
      have Hsm : Hid (SameS ps us) := Lib.hid ⟨hul.symm, fun i hi => hsm i (by omega)⟩
      have HGG : Hid (∀ G : Nat → Nat, ∃ G' : Nat → Nat, (∀ b, b < w.heap.size + 1 → G' b = G b) ∧ ∀ i, i < ps.length → SOwn G' 10 wr (w.heap.size + 1) us i) := Lib.hid fun G => by
        obtain ⟨G', h1, h2⟩ := hG G
        exact ⟨G', h1, fun i hi => h2 i hi (by omega)⟩
      have Hul := Lib.hid hul
      have Hkp := Lib.hid hkp
      clear hr hsm hG hul he hkp
      go_wp2
      go_ret
      refine ⟨_, us, rfl, Hul.out, Hr.out, Hsm.out, Hkp.out, fun G => ?_⟩
      obtain ⟨G', h1, h2⟩ := HGG.out (fun b => if b = w.heap.size then 3 else G b)
      refine ⟨G', fun b hb => ?_, fun b hb => ?_, fun i hi => ⟨(h2 i hi).1.less (Nat.le_succ _), (h2 i hi).2⟩⟩
      · rw [h1 b (by omega), if_neg (by omega)]
      · obtain ⟨_, a, ea, eb⟩ := hb
        injection ea with ea
        subst ea
        obtain rfl : w.heap.size = b := eb
        rw [h1 _ (Nat.lt_succ_self _), if_pos rfl]
end Go.Proofs.YtbgpclicflafaaaDoor
