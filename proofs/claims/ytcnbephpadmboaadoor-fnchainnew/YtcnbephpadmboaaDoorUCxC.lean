/- The program's chain() of a linked chain: all lists anew. The program's states() of a linked list, and chain() of a linked chain: all lists anew. -/
import Derived.Test.YtcnbephpadmboaaDoorCxA
import Derived.Test.YtcnbephpadmboaaDoorCxU
import Derived.Deep.RegionHeld3
set_option linter.unusedVariables false
set_option linter.unusedSimpArgs false
/-! CxC -/
namespace Go.Proofs.YtcnbephpadmboaaDoor
open Go.RowKit

/-- append of ints onto nil, in a region that draws its order: a row anew. -/
theorem step_copyI {ops : Array Oper} {o : Oper} {a : Act} {w : World} {K : Act → World → Prop} {Q : Exit → Act → World → Prop} {E : Prop}
    (hg : o.guard = none) (s x : Operand) (hop : o.op = Op.call { callee := Callee.builtin Builtin.append, args := #[s, x], argTypes := #[ 25, 25 ] })
    (hs : a.eval s = .slice none 0 0) (A : Option Addr) (c : Nat) (xs : List Int) (hx : a.eval x = .slice A xs.length c) (hi : Ints w A xs.length xs) (hm : xs.length ≤ 1000000)
    (hK : ∀ A' c' w', Row w' w.heap.size A' xs.length xs → Keeps noBlk w w' → K (a.put o.dst (.slice A' xs.length c')) w') :
    if Region.wanted o (yielded ops a.tmps) = true then Oper.wp Tryd.prog o a w K Q else E := by
  refine step_app (P := Tryd.prog) hg s x 25 hop 3 (.int .i64 0) 1 8 Tryd.underlying25 info_int3 rfl (by decide) (.slice none 0 0) 0 [] hs (World.ownsRow_nil w _ _ _) A xs.length c (vIs xs) hx (ints_none hi) (by rw [vIs_length]; omega) (ints_news hi) one_ints (by unfold maxLen; omega) (by omega) fun v' w' ho hgr hf => ?_
  rw [Nat.zero_add, List.nil_append] at ho
  obtain ⟨A', c', rfl⟩ : ∃ A c, v' = .slice A xs.length c := by
    rcases ho.2 with ⟨rfl, h0⟩ | ⟨g, cap, cur, rfl, _⟩
    · exact ⟨none, 0, by rw [h0]⟩
    · exact ⟨_, cap, rfl⟩
  refine hK A' c' w' (irow_own ho fun g hg' => ?_) ((Keeps.refl noBlk w).then (Keeps.of_grown hgr) fun i hi h => ?_)
  · rcases hf g hg' with h | h
    · simp [Value.ownBlock] at h
    · exact h
  · simp [Value.ownBlock] at h
/-- Two rows of a bank, anew. -/
def RetBk2 (w : World) (b : BankL) (e : Ending) (w' : World) : Prop := ∃ A1 A2 c1 c2, e = .returned (.agg #[.slice A1 b.own.length c1, .slice A2 b.notes.length c2, .int .i64 b.locked]) ∧ Row w' w.heap.size A1 b.own.length b.own ∧ Row w' w.heap.size A2 b.notes.length b.notes ∧ (∀ i, blk A1 b.own.length i → ¬ blk A2 b.notes.length i) ∧ Keeps noBlk w w'
set_option maxRecDepth 100000 in
set_option maxHeartbeats 4000000 in
theorem lbank_any (c : ChM) (P : Option Addr) (w : World) (h1 : Ints w c.bk.A1 c.bk.b.own.length c.bk.b.own) (h2 : Ints w c.bk.A2 c.bk.b.notes.length c.bk.b.notes) (m1 : c.bk.b.own.length ≤ 1000000) (m2 : c.bk.b.notes.length ≤ 1000000) :
    Calls Tryd.prog 80 #[lkV c P] w (RetBk2 w c.bk.b) := by
  have I1 := Lib.hid (fun W (hk : Keeps noBlk w W) => h1.keeps hk fun _ _ h => h)
  have I2 := Lib.hid (fun W (hk : Keeps noBlk w W) => h2.keeps hk fun _ _ h => h)
  clear h1 h2
  have HBa := Lib.hid ((Box.new w _ rfl 78 #[.slice c.bk.A1 c.bk.b.own.length c.bk.c1, .slice c.bk.A2 c.bk.b.notes.length c.bk.c2, .int .i64 c.bk.b.locked, .int .i64 c.id, .int .i64 c.st.x.way, .int .i64 c.st.x.ver, .int .i64 c.st.x.want, .slice c.st.A1 c.st.x.sent.length c.st.c1, .slice c.st.A2 c.st.x.live.length c.st.c2, .slice c.st.A3 c.st.x.back.length c.st.c3, .slice c.st.A4 c.st.x.got.length c.st.c4, .pointer P, .slice c.kA c.knows.length c.kc]).alloc (.cells #[.slice none 0 0, .slice none 0 0, .int .i64 0] 44))
  have HBr := Lib.hid (Box.new (w.alloc (.cells #[.slice c.bk.A1 c.bk.b.own.length c.bk.c1, .slice c.bk.A2 c.bk.b.notes.length c.bk.c2, .int .i64 c.bk.b.locked, .int .i64 c.id, .int .i64 c.st.x.way, .int .i64 c.st.x.ver, .int .i64 c.st.x.want, .slice c.st.A1 c.st.x.sent.length c.st.c1, .slice c.st.A2 c.st.x.live.length c.st.c2, .slice c.st.A3 c.st.x.back.length c.st.c3, .slice c.st.A4 c.st.x.got.length c.st.c4, .pointer P, .slice c.kA c.knows.length c.kc] 78)) (w.heap.size + 1) (by simp) 44 #[.slice none 0 0, .slice none 0 0, .int .i64 0])
  have HK := Lib.hid (((Keeps.refl noBlk w).alloc (.cells #[.slice c.bk.A1 c.bk.b.own.length c.bk.c1, .slice c.bk.A2 c.bk.b.notes.length c.bk.c2, .int .i64 c.bk.b.locked, .int .i64 c.id, .int .i64 c.st.x.way, .int .i64 c.st.x.ver, .int .i64 c.st.x.want, .slice c.st.A1 c.st.x.sent.length c.st.c1, .slice c.st.A2 c.st.x.live.length c.st.c2, .slice c.st.A3 c.st.x.back.length c.st.c3, .slice c.st.A4 c.st.x.got.length c.st.c4, .pointer P, .slice c.kA c.knows.length c.kc] 78)).alloc (.cells #[.slice none 0 0, .slice none 0 0, .int .i64 0] 44))
  unfold lkV
  go_enter Tryd.func80, Tryd.ntmps80
  have hb := HBa.out
  have a0 : ((w.alloc (.cells #[.slice c.bk.A1 c.bk.b.own.length c.bk.c1, .slice c.bk.A2 c.bk.b.notes.length c.bk.c2, .int .i64 c.bk.b.locked, .int .i64 c.id, .int .i64 c.st.x.way, .int .i64 c.st.x.ver, .int .i64 c.st.x.want, .slice c.st.A1 c.st.x.sent.length c.st.c1, .slice c.st.A2 c.st.x.live.length c.st.c2, .slice c.st.A3 c.st.x.back.length c.st.c3, .slice c.st.A4 c.st.x.got.length c.st.c4, .pointer P, .slice c.kA c.knows.length c.kc] 78)).alloc (.cells #[.slice none 0 0, .slice none 0 0, .int .i64 0] 44)).cell? ⟨w.heap.size, 0, none⟩ = some (.slice c.bk.A1 c.bk.b.own.length c.bk.c1) := hb.cell 0
  have a1 : ((w.alloc (.cells #[.slice c.bk.A1 c.bk.b.own.length c.bk.c1, .slice c.bk.A2 c.bk.b.notes.length c.bk.c2, .int .i64 c.bk.b.locked, .int .i64 c.id, .int .i64 c.st.x.way, .int .i64 c.st.x.ver, .int .i64 c.st.x.want, .slice c.st.A1 c.st.x.sent.length c.st.c1, .slice c.st.A2 c.st.x.live.length c.st.c2, .slice c.st.A3 c.st.x.back.length c.st.c3, .slice c.st.A4 c.st.x.got.length c.st.c4, .pointer P, .slice c.kA c.knows.length c.kc] 78)).alloc (.cells #[.slice none 0 0, .slice none 0 0, .int .i64 0] 44)).cell? ⟨w.heap.size, 1, none⟩ = some (.slice c.bk.A2 c.bk.b.notes.length c.bk.c2) := hb.cell 1
  have a2 : ((w.alloc (.cells #[.slice c.bk.A1 c.bk.b.own.length c.bk.c1, .slice c.bk.A2 c.bk.b.notes.length c.bk.c2, .int .i64 c.bk.b.locked, .int .i64 c.id, .int .i64 c.st.x.way, .int .i64 c.st.x.ver, .int .i64 c.st.x.want, .slice c.st.A1 c.st.x.sent.length c.st.c1, .slice c.st.A2 c.st.x.live.length c.st.c2, .slice c.st.A3 c.st.x.back.length c.st.c3, .slice c.st.A4 c.st.x.got.length c.st.c4, .pointer P, .slice c.kA c.knows.length c.kc] 78)).alloc (.cells #[.slice none 0 0, .slice none 0 0, .int .i64 0] 44)).cell? ⟨w.heap.size, 2, none⟩ = some (.int .i64 c.bk.b.locked) := hb.cell 2
  clear hb
  have hsz : w.heap.size + 2 = ((w.alloc (.cells #[.slice c.bk.A1 c.bk.b.own.length c.bk.c1, .slice c.bk.A2 c.bk.b.notes.length c.bk.c2, .int .i64 c.bk.b.locked, .int .i64 c.id, .int .i64 c.st.x.way, .int .i64 c.st.x.ver, .int .i64 c.st.x.want, .slice c.st.A1 c.st.x.sent.length c.st.c1, .slice c.st.A2 c.st.x.live.length c.st.c2, .slice c.st.A3 c.st.x.back.length c.st.c3, .slice c.st.A4 c.st.x.got.length c.st.c4, .pointer P, .slice c.kA c.knows.length c.kc] 78)).alloc (.cells #[.slice none 0 0, .slice none 0 0, .int .i64 0] 44)).heap.size := by simp
  go_wp2_with fail
  generalize ((w.alloc (.cells #[.slice c.bk.A1 c.bk.b.own.length c.bk.c1, .slice c.bk.A2 c.bk.b.notes.length c.bk.c2, .int .i64 c.bk.b.locked, .int .i64 c.id, .int .i64 c.st.x.way, .int .i64 c.st.x.ver, .int .i64 c.st.x.want, .slice c.st.A1 c.st.x.sent.length c.st.c1, .slice c.st.A2 c.st.x.live.length c.st.c2, .slice c.st.A3 c.st.x.back.length c.st.c3, .slice c.st.A4 c.st.x.got.length c.st.c4, .pointer P, .slice c.kA c.knows.length c.kc] 78)).alloc (.cells #[.slice none 0 0, .slice none 0 0, .int .i64 0] 44)) = w0 at *
  go_region_held3 (fun w' => w'.cell? ⟨w.heap.size, 0, none⟩ = some (.slice c.bk.A1 c.bk.b.own.length c.bk.c1) ∧ w'.cell? ⟨w.heap.size, 1, none⟩ = some (.slice c.bk.A2 c.bk.b.notes.length c.bk.c2) ∧ w'.cell? ⟨w.heap.size, 2, none⟩ = some (.int .i64 c.bk.b.locked))
    (((try dsimp only); (repeat' apply And.intro) <;> (first | with_reducible assumption | (go_keep; done))))
    (first | (clear a0 a1 a2; refine step_copyI rfl _ (.tmp 5) rfl rfl c.bk.A1 c.bk.c1 c.bk.b.own rfl (I1.out _ (HK.out.drewN 1)) m1 ?_; intro B1 d1 w1 hr9 hk1; have hq := ((Keeps.refl noBlk w0).drewN 1).trans hk1; clear hk1; have hk1 := hq; clear hq; have R1 := Lib.hid (RowB.mk' hr9); clear hr9; have ha := HBa.out.keeps hk1 (fun h => h); clear HBa; have HBa := Lib.hid ha; clear ha; have hr := HBr.out.keeps hk1 (fun h => h); clear HBr; have HBr := Lib.hid hr; clear hr; have hr := HK.out.trans hk1; clear HK; have HK := Lib.hid hr; clear hr; have sz1 := hk1.size; (try simp at sz1); clear hk1; have hb := HBa.out; have a0 := hb.cell 0; have a1 := hb.cell 1; have a2 := hb.cell 2; simp at a0 a1 a2; clear hb) | (clear a0 a1 a2; refine step_copyI rfl _ (.tmp 9) rfl rfl c.bk.A2 c.bk.c2 c.bk.b.notes rfl (I2.out _ (HK.out)) m2 ?_; intro B2 d2 w2 hr9 hk2; have R2 := Lib.hid (RowB.mk' hr9); clear hr9; have ha := HBa.out.keeps hk2 (fun h => h); clear HBa; have HBa := Lib.hid ha; clear ha; have hr := HBr.out.keeps hk2 (fun h => h); clear HBr; have HBr := Lib.hid hr; clear hr; have hr := (R1.out).kept hk2; clear R1; have R1 := Lib.hid hr; clear hr; have hr := HK.out.trans hk2; clear HK; have HK := Lib.hid hr; clear hr; have sz2 := hk2.size; (try simp at sz2); clear hk2; have hb := HBa.out; have a0 := hb.cell 0; have a1 := hb.cell 1; have a2 := hb.cell 2; simp at a0 a1 a2; clear hb; have hb := HBr.out; have r0 := hb.cell 0; have r1 := hb.cell 1; have r2 := hb.cell 2; simp at r0 r1 r2; have zr := hb.lt; clear hb; have hb := HBr.out; have rf0 := hb.frozen 0; have rf1 := hb.frozen 1; have rf2 := hb.frozen 2; clear hb))
  go_wp2
  refine bodyPost_ret (v := .agg #[.slice B1 c.bk.b.own.length d1, .slice B2 c.bk.b.notes.length d2, .int .i64 c.bk.b.locked]) (by simp [results, Tryd.results80, go_sem, r0, r1, r2]) rfl ?_
  have kS := ((((Keeps.refl (fun b => b = w.heap.size + 1) w2).setCell (p := ⟨w.heap.size + 1, 0, none⟩) (.inr rfl) (.slice B1 c.bk.b.own.length d1)).setCell (p := ⟨w.heap.size + 1, 1, none⟩) (.inr rfl) (.slice B2 c.bk.b.notes.length d2)).setCell (p := ⟨w.heap.size + 1, 2, none⟩) (.inr rfl) (.int .i64 c.bk.b.locked))
  have K1 := R1.out.keeps kS fun b hb => by first | omega | (simp; omega)
  have K2 := R2.out.keeps kS fun b hb => by first | omega | (simp; omega)
  exact ⟨B1, B2, d1, d2, rfl, K1.row.less (by first | omega | (simp; omega)), K2.row.less (by first | omega | (simp; omega)), fun i x y => by have q1 := K1.lt i x; have q2 := K2.row.ge y; (try simp at q1 q2) <;> omega, HK.out.then kS fun i hi h => by omega⟩
end Go.Proofs.YtcnbephpadmboaaDoor

/-! CxD -/
namespace Go.Proofs.YtcnbephpadmboaaDoor
open Go.RowKit

theorem take_rev (l : List StM) {k : Nat} (h : k < l.length) : (l.take (k + 1)).reverse = (l.getD k stm0) :: (l.take k).reverse := by
  rw [List.take_add_one, getD_some stm0 h]
  simp
set_option maxRecDepth 100000 in
set_option maxHeartbeats 8000000 in
theorem states_any (P : Option Addr) (l : List StM) (lo : Nat) (w : World) (h : Lk w lo P l.reverse) (hat : ∀ s ∈ l, s.At w) (hn : l.length ≤ 1000)
    (hm : ∀ s ∈ l, s.x.sent.length ≤ 1048576 ∧ s.x.live.length ≤ 1048576 ∧ s.x.back.length ≤ 1048576 ∧ s.x.got.length ≤ 1048576) :
    Calls Tryd.prog 82 #[.pointer P] w (RetPast w l) := by
  have hmk := run_make_sts l.length (by omega)
  have HC := Lib.hid (count_any P _ lo w h)
  rw [List.length_reverse] at HC
  have HL := Lib.hid h
  have HP := Lib.hid hat
  have HM := Lib.hid hm
  clear h hat hm
  go_enter Tryd.func82, Tryd.ntmps82
  go_wp2_with (go_at_call 57; refine HC.out.mono ?_; rintro e w' ⟨rfl, rfl⟩)
  go_loopw [0] (fun q wr => ∃ (k : Nat) (Q : Option Addr) (us : List StM), k ≤ l.length ∧ q = .pointer Q ∧ Lk w lo Q (l.take k).reverse ∧ us.length = l.length ∧ SRow wr w.heap.size (some ⟨w.heap.size, 0, none⟩) l.length us ∧ (∀ i, k ≤ i → i < l.length → (l.getD i stm0).x = (us.getD i stm0).x) ∧ Keeps noBlk w wr ∧ w.heap.size + 1 ≤ wr.heap.size ∧
    ∀ G : Nat → Nat, ∃ G' : Nat → Nat, (∀ b, b < w.heap.size + 1 → G' b = G b) ∧ ∀ i, i < l.length → k ≤ i → SOwn G' 10 wr (w.heap.size + 1) us i) (fun q wr => lkN wr q)
  case atStart => exact ⟨l.length, P, List.replicate l.length stm0, Nat.le_refl _, rfl, by rw [List.take_length]; exact HL.out, by simp, SRow.made w l.length, fun i h h' => absurd h (by omega), (Keeps.refl _ _).alloc _, by simp, fun G => ⟨G, fun _ _ => rfl, fun i h h' => absurd h (by omega)⟩⟩
  case round =>
    obtain ⟨k, Q, us, hk, rfl, hlk, hul, hr, hsm, hkp, hsz, hG⟩ := hrel
    match k, hk, hlk, hsm, hG with
    | 0, hk, hlk, hsm, hG =>
      obtain rfl : Q = none := hlk
      have Hr := Lib.hid hr
      have Hsm : Hid (SameS l us) := Lib.hid ⟨hul.symm, fun i hi => hsm i (Nat.zero_le _) hi⟩
      have HGG : Hid (∀ G : Nat → Nat, ∃ G' : Nat → Nat, (∀ b, b < w.heap.size + 1 → G' b = G b) ∧ ∀ i, i < l.length → SOwn G' 10 wr (w.heap.size + 1) us i) := Lib.hid fun G => by
        obtain ⟨G', h1, h2⟩ := hG G
        exact ⟨G', h1, fun i hi => h2 i hi (Nat.zero_le _)⟩
      have Hul := Lib.hid hul
      have Hkp := Lib.hid hkp
      clear hr hsm hG hul hkp hlk
      go_wp2
      go_ret
      refine ⟨_, us, rfl, Hul.out, Hr.out, Hsm.out, Hkp.out, fun G => ?_⟩
      obtain ⟨G', h1, h2⟩ := HGG.out (fun b => if b = w.heap.size then 3 else G b)
      refine ⟨G', fun b hb => ?_, fun b hb => ?_, fun i hi => ⟨(h2 i hi).1.less (Nat.le_succ _), (h2 i hi).2⟩⟩
      · rw [h1 b (by omega), if_neg (by omega)]
      · obtain ⟨_, a, ea, eb⟩ := hb
        injection ea with ea
        subst ea
        obtain rfl : w.heap.size = b := eb
        rw [h1 _ (Nat.lt_succ_self _), if_pos rfl]
    | j + 1, hk, hlk, hsm, hG =>
      have hlt : j < l.length := hk
      rw [take_rev l hlt] at hlk
      have HN := Lib.hid (hlk.kept hkp).num
      obtain ⟨gb, R, rfl, _, hb, hrest⟩ := hlk
      rw [List.length_reverse, List.length_take, Nat.min_eq_left (by omega)] at hb
      have HN2 := Lib.hid (hrest.kept hkp).num
      have HREST := Lib.hid hrest
      have hat := (HP.out _ (getD_mem' stm0 hlt)).kept hkp
      have hmm := HM.out _ (getD_mem' stm0 hlt)
      generalize hp : l.getD j stm0 = s at hb hat hmm HN
      have HPK := Lib.hid hp
      have FC := Lib.hid (fun W (hk : Keeps noBlk wr W) => implCopy_any s.x s.A1 s.A2 s.A3 s.A4 s.c1 s.c2 s.c3 s.c4 W (hat.kept hk) hmm.1 hmm.2.1 hmm.2.2.1 hmm.2.2.2)
      unfold stV at FC
      have hgb : ¬ gb = w.heap.size := by have := hb.lt; omega
      have HBb := Lib.hid (hb.keeps hkp fun h => h)
      have hb := HBb.out
      have b0 := hb.cell 0
      have b1 := hb.cell 1
      have b2 := hb.cell 2
      have b3 := hb.cell 3
      have b4 := hb.cell 4
      have b5 := hb.cell 5
      have b6 := hb.cell 6
      have b7 := hb.cell 7
      have b8 := hb.cell 8
      simp at b0 b1 b2 b3 b4 b5 b6 b7 b8
      have zb := hb.lt
      have hwr : IntKind.i64.wrap ((j : Int) + 1 - 1) = (j : Int) := by rw [IntWalk.i64_in _ (by omega)]; omega
      have hwr2 : IntKind.i64.wrap (j : Int) = (j : Int) := IntWalk.i64_in _ (by omega)
      have hji : (j : Int) < (l.length : Int) := by omega
      have hj0 : (0 : Int) ≤ (j : Int) := by omega
      have Hr := Lib.hid hr
      have Hkp := Lib.hid hkp
      have Hsm := Lib.hid hsm
      have HGG := Lib.hid hG
      have Hul := Lib.hid hul
      have HLT := Lib.hid hlt
      have Hsz := Lib.hid hsz
      have HK := Lib.hid (Keeps.refl noBlk wr)
      clear hr hkp hsm hG hp hat hmm hul hb hrest hsz
      go_wp2_with fail
      go_region_held3 (fun w' => w'.cell? ⟨gb, 0, none⟩ = some (.int .i64 ((j : Int) + 1)) ∧ w'.cell? ⟨gb, 1, none⟩ = some (.int .i64 s.x.way) ∧ w'.cell? ⟨gb, 2, none⟩ = some (.int .i64 s.x.ver) ∧ w'.cell? ⟨gb, 3, none⟩ = some (.int .i64 s.x.want) ∧ w'.cell? ⟨gb, 4, none⟩ = some (.slice s.A1 s.x.sent.length s.c1) ∧ w'.cell? ⟨gb, 5, none⟩ = some (.slice s.A2 s.x.live.length s.c2) ∧ w'.cell? ⟨gb, 6, none⟩ = some (.slice s.A3 s.x.back.length s.c3) ∧ w'.cell? ⟨gb, 7, none⟩ = some (.slice s.A4 s.x.got.length s.c4) ∧ w'.cell? ⟨gb, 8, none⟩ = some (.pointer R))
        (((try dsimp only); (repeat' apply And.intro) <;> (first | with_reducible assumption | (go_keep; done) | ((repeat rw [World.cell?_setCell_other _ _ _ _ (by intro e; injection e with e _; exact hgb e.symm)]); with_reducible assumption))))
        (first | (go_at_call 81; refine (FC.out _ (HK.out.drewN 1)).mono ?_; rintro e w1 ⟨t, rfl, hx9, hk9, _, ho9⟩; have hk1 := ((Keeps.refl noBlk wr).drewN 1).trans hk9; clear hk9; dsimp only [StM.val]; have hb := HBb.out.keeps hk1 (fun h => h); clear b0 b1 b2 b3 b4 b5 b6 b7 b8 zb; have b0 := hb.cell 0; have b1 := hb.cell 1; have b2 := hb.cell 2; have b3 := hb.cell 3; have b4 := hb.cell 4; have b5 := hb.cell 5; have b6 := hb.cell 6; have b7 := hb.cell 7; have b8 := hb.cell 8; simp at b0 b1 b2 b3 b4 b5 b6 b7 b8; have zb := hb.lt; clear hb; have hr1 := Hr.out.kept hk1; obtain ⟨b1, o1, e1, _, z0, z1, z2, z3, z4, z5, z6⟩ := hr1.1.at_ HLT.out; obtain ⟨b1', o1', e1', _, hf⟩ := hr1.2 (Nat.lt_of_le_of_lt (Nat.zero_le _) HLT.out); injection e1 with e1; injection e1 with e1 e2; subst e1; subst e2; injection e1' with e1'; injection e1' with e1' e2'; subst e1'; subst e2'; have f0 := hf (j * 7) (by have := HLT.out; omega); have f1 := hf (j * 7 + 1) (by have := HLT.out; omega); have f2 := hf (j * 7 + 2) (by have := HLT.out; omega); have f3 := hf (j * 7 + 3) (by have := HLT.out; omega); have f4 := hf (j * 7 + 4) (by have := HLT.out; omega); have f5 := hf (j * 7 + 5) (by have := HLT.out; omega); have f6 := hf (j * 7 + 6) (by have := HLT.out; omega); rw [Nat.zero_add] at z0 z1 z2 z3 z4 z5 z6; simp only [Nat.zero_add] at f0 f1 f2 f3 f4 f5 f6; clear hf; have HR1 := Lib.hid hr1; have HK1 := Lib.hid hk1; have HX := Lib.hid hx9; have HO := Lib.hid (show t.Own w1 wr.heap.size from ho9); clear hr1 hk1 hx9 ho9; generalize us.getD j stm0 = old at z0 z1 z2 z3 z4 z5 z6))
      go_wp2
      have hset := HR1.out.set_ HLT.out t
      rw [Nat.zero_add] at hset
      have hks := (Keeps.refl (fun b => b = w.heap.size) w1).setSt (b := w.heap.size) (.inr rfl) (j * 7) t
      have hsz1 : w.heap.size + 1 ≤ w1.heap.size := Nat.le_trans Hsz.out HK1.out.size
      refine ⟨⟨j, R, us.set j t, Nat.le_of_lt HLT.out, rfl, HREST.out, by rw [List.length_set]; exact Hul.out, hset, ?_, ?_, ?_, ?_⟩, ?_⟩
      · intro i hi hi2
        by_cases hik : j = i
        · subst hik
          rw [getD_set_self _ _ (by rw [Hul.out]; exact HLT.out), HPK.out, HX.out]
        · rw [getD_set_ne _ _ hik]
          exact Hsm.out i (by omega) hi2
      · exact (Hkp.out.trans HK1.out).setSt (.inl (Nat.le_refl _)) (j * 7) t
      · exact Nat.le_trans hsz1 hks.size
      · intro G
        obtain ⟨G', h1, h2⟩ := HGG.out G
        refine ⟨up G' wr.heap.size (10 + j), fun b hb => by rw [up_old (Nat.lt_of_lt_of_le hb Hsz.out)]; exact h1 b hb, fun i hi hik => ?_⟩
        exact sown_step (P := fun i => j + 1 ≤ i) t h2 HK1.out HO.out Hsz.out Hul.out HLT.out (by omega) hks (Nat.lt_succ_self _) i hi (by omega)
      · have q1 := (HREST.out.kept ((Hkp.out.trans HK1.out).setSt (.inl (Nat.le_refl _)) (j * 7) t)).num
        simp only [setSt] at q1
        rw [HN.out, q1]
        simp
end Go.Proofs.YtcnbephpadmboaaDoor
