/- The program's chain() of a linked chain: all lists anew. -/
import Derived.Test.YtbgpclicflafaaaDoorCxA
import Derived.Test.YtbgpclicflafaaaDoorCxU
import Derived.Deep.RegionHeld3
set_option linter.unusedVariables false
set_option linter.unusedSimpArgs false
namespace Go.Proofs.YtbgpclicflafaaaDoor
open Go.RowKit

/-- append of ints onto nil, in a region that draws its order: a row anew. -/
theorem step_copyI {ops : Array Oper} {o : Oper} {a : Act} {w : World} {K : Act → World → Prop} {Q : Exit → Act → World → Prop} {E : Prop}
    (hg : o.guard = none) (s x : Operand) (hop : o.op = Op.call { callee := Callee.builtin Builtin.append, args := #[s, x], argTypes := #[ 22, 22 ] })
    (hs : a.eval s = .slice none 0 0) (A : Option Addr) (c : Nat) (xs : List Int) (hx : a.eval x = .slice A xs.length c) (hi : Ints w A xs.length xs) (hm : xs.length ≤ 1000000)
    (hK : ∀ A' c' w', Row w' w.heap.size A' xs.length xs → Keeps noBlk w w' → K (a.put o.dst (.slice A' xs.length c')) w') :
    if Region.wanted o (yielded ops a.tmps) = true then Oper.wp Tryd.prog o a w K Q else E := by
  refine step_app (P := Tryd.prog) hg s x 22 hop 3 (.int .i64 0) 1 8 Tryd.underlying22 info_int3 rfl (by decide) (.slice none 0 0) 0 [] hs (World.ownsRow_nil w _ _ _) A xs.length c (vIs xs) hx (ints_none hi) (by rw [vIs_length]; omega) (ints_news hi) one_ints (by unfold maxLen; omega) (by omega) fun v' w' ho hgr hf => ?_
  rw [Nat.zero_add, List.nil_append] at ho
  obtain ⟨A', c', rfl⟩ : ∃ A c, v' = .slice A xs.length c := by
    rcases ho.2 with ⟨rfl, h0⟩ | ⟨g, cap, cur, rfl, _⟩
    · exact ⟨none, 0, by rw [h0]⟩
    · exact ⟨_, cap, rfl⟩
  refine hK A' c' w' (irow_own ho fun g hg' => ?_) ((Keeps.refl noBlk w).then (Keeps.of_grown hgr) fun i hi h => ?_)
  · rcases hf g hg' with h | h
    · simp [Value.ownBlock] at h
    · exact h
  · simp [Value.ownBlock] at h
/-- Two rows of a bank, anew. -/
def RetBk2 (w : World) (b : BankL) (e : Ending) (w' : World) : Prop := ∃ A1 A2 c1 c2, e = .returned (.agg #[.slice A1 b.own.length c1, .slice A2 b.notes.length c2, .int .i64 b.locked]) ∧ Row w' w.heap.size A1 b.own.length b.own ∧ Row w' w.heap.size A2 b.notes.length b.notes ∧ (∀ i, blk A1 b.own.length i → ¬ blk A2 b.notes.length i) ∧ Keeps noBlk w w'
set_option maxRecDepth 100000 in
set_option maxHeartbeats 4000000 in
theorem lbank_any (c : ChM) (P : Option Addr) (w : World) (h1 : Ints w c.bk.A1 c.bk.b.own.length c.bk.b.own) (h2 : Ints w c.bk.A2 c.bk.b.notes.length c.bk.b.notes) (m1 : c.bk.b.own.length ≤ 1000000) (m2 : c.bk.b.notes.length ≤ 1000000) :
    Calls Tryd.prog 122 #[lkV c P] w (RetBk2 w c.bk.b) := by
  have I1 := Lib.hid (fun W (hk : Keeps noBlk w W) => h1.keeps hk fun _ _ h => h)
  have I2 := Lib.hid (fun W (hk : Keeps noBlk w W) => h2.keeps hk fun _ _ h => h)
  clear h1 h2
  have HBa := Lib.hid ((Box.new w _ rfl 93 #[.slice c.bk.A1 c.bk.b.own.length c.bk.c1, .slice c.bk.A2 c.bk.b.notes.length c.bk.c2, .int .i64 c.bk.b.locked, .int .i64 c.id, .int .i64 c.st.x.way, .int .i64 c.st.x.ver, .int .i64 c.st.x.want, .slice c.st.A1 c.st.x.sent.length c.st.c1, .slice c.st.A2 c.st.x.live.length c.st.c2, .slice c.st.A3 c.st.x.back.length c.st.c3, .slice c.st.A4 c.st.x.got.length c.st.c4, .pointer P, .slice c.kA c.knows.length c.kc]).alloc (.cells #[.slice none 0 0, .slice none 0 0, .int .i64 0] 34))
  have HBr := Lib.hid (Box.new (w.alloc (.cells #[.slice c.bk.A1 c.bk.b.own.length c.bk.c1, .slice c.bk.A2 c.bk.b.notes.length c.bk.c2, .int .i64 c.bk.b.locked, .int .i64 c.id, .int .i64 c.st.x.way, .int .i64 c.st.x.ver, .int .i64 c.st.x.want, .slice c.st.A1 c.st.x.sent.length c.st.c1, .slice c.st.A2 c.st.x.live.length c.st.c2, .slice c.st.A3 c.st.x.back.length c.st.c3, .slice c.st.A4 c.st.x.got.length c.st.c4, .pointer P, .slice c.kA c.knows.length c.kc] 93)) (w.heap.size + 1) (by simp) 34 #[.slice none 0 0, .slice none 0 0, .int .i64 0])
  have HK := Lib.hid (((Keeps.refl noBlk w).alloc (.cells #[.slice c.bk.A1 c.bk.b.own.length c.bk.c1, .slice c.bk.A2 c.bk.b.notes.length c.bk.c2, .int .i64 c.bk.b.locked, .int .i64 c.id, .int .i64 c.st.x.way, .int .i64 c.st.x.ver, .int .i64 c.st.x.want, .slice c.st.A1 c.st.x.sent.length c.st.c1, .slice c.st.A2 c.st.x.live.length c.st.c2, .slice c.st.A3 c.st.x.back.length c.st.c3, .slice c.st.A4 c.st.x.got.length c.st.c4, .pointer P, .slice c.kA c.knows.length c.kc] 93)).alloc (.cells #[.slice none 0 0, .slice none 0 0, .int .i64 0] 34))
  unfold lkV
  go_enter Tryd.func122, Tryd.ntmps122
  have hb := HBa.out
  have a0 : ((w.alloc (.cells #[.slice c.bk.A1 c.bk.b.own.length c.bk.c1, .slice c.bk.A2 c.bk.b.notes.length c.bk.c2, .int .i64 c.bk.b.locked, .int .i64 c.id, .int .i64 c.st.x.way, .int .i64 c.st.x.ver, .int .i64 c.st.x.want, .slice c.st.A1 c.st.x.sent.length c.st.c1, .slice c.st.A2 c.st.x.live.length c.st.c2, .slice c.st.A3 c.st.x.back.length c.st.c3, .slice c.st.A4 c.st.x.got.length c.st.c4, .pointer P, .slice c.kA c.knows.length c.kc] 93)).alloc (.cells #[.slice none 0 0, .slice none 0 0, .int .i64 0] 34)).cell? ⟨w.heap.size, 0, none⟩ = some (.slice c.bk.A1 c.bk.b.own.length c.bk.c1) := hb.cell 0
  have a1 : ((w.alloc (.cells #[.slice c.bk.A1 c.bk.b.own.length c.bk.c1, .slice c.bk.A2 c.bk.b.notes.length c.bk.c2, .int .i64 c.bk.b.locked, .int .i64 c.id, .int .i64 c.st.x.way, .int .i64 c.st.x.ver, .int .i64 c.st.x.want, .slice c.st.A1 c.st.x.sent.length c.st.c1, .slice c.st.A2 c.st.x.live.length c.st.c2, .slice c.st.A3 c.st.x.back.length c.st.c3, .slice c.st.A4 c.st.x.got.length c.st.c4, .pointer P, .slice c.kA c.knows.length c.kc] 93)).alloc (.cells #[.slice none 0 0, .slice none 0 0, .int .i64 0] 34)).cell? ⟨w.heap.size, 1, none⟩ = some (.slice c.bk.A2 c.bk.b.notes.length c.bk.c2) := hb.cell 1
  have a2 : ((w.alloc (.cells #[.slice c.bk.A1 c.bk.b.own.length c.bk.c1, .slice c.bk.A2 c.bk.b.notes.length c.bk.c2, .int .i64 c.bk.b.locked, .int .i64 c.id, .int .i64 c.st.x.way, .int .i64 c.st.x.ver, .int .i64 c.st.x.want, .slice c.st.A1 c.st.x.sent.length c.st.c1, .slice c.st.A2 c.st.x.live.length c.st.c2, .slice c.st.A3 c.st.x.back.length c.st.c3, .slice c.st.A4 c.st.x.got.length c.st.c4, .pointer P, .slice c.kA c.knows.length c.kc] 93)).alloc (.cells #[.slice none 0 0, .slice none 0 0, .int .i64 0] 34)).cell? ⟨w.heap.size, 2, none⟩ = some (.int .i64 c.bk.b.locked) := hb.cell 2
  clear hb
  have hsz : w.heap.size + 2 = ((w.alloc (.cells #[.slice c.bk.A1 c.bk.b.own.length c.bk.c1, .slice c.bk.A2 c.bk.b.notes.length c.bk.c2, .int .i64 c.bk.b.locked, .int .i64 c.id, .int .i64 c.st.x.way, .int .i64 c.st.x.ver, .int .i64 c.st.x.want, .slice c.st.A1 c.st.x.sent.length c.st.c1, .slice c.st.A2 c.st.x.live.length c.st.c2, .slice c.st.A3 c.st.x.back.length c.st.c3, .slice c.st.A4 c.st.x.got.length c.st.c4, .pointer P, .slice c.kA c.knows.length c.kc] 93)).alloc (.cells #[.slice none 0 0, .slice none 0 0, .int .i64 0] 34)).heap.size := by simp
  go_wp2_with fail
  generalize ((w.alloc (.cells #[.slice c.bk.A1 c.bk.b.own.length c.bk.c1, .slice c.bk.A2 c.bk.b.notes.length c.bk.c2, .int .i64 c.bk.b.locked, .int .i64 c.id, .int .i64 c.st.x.way, .int .i64 c.st.x.ver, .int .i64 c.st.x.want, .slice c.st.A1 c.st.x.sent.length c.st.c1, .slice c.st.A2 c.st.x.live.length c.st.c2, .slice c.st.A3 c.st.x.back.length c.st.c3, .slice c.st.A4 c.st.x.got.length c.st.c4, .pointer P, .slice c.kA c.knows.length c.kc] 93)).alloc (.cells #[.slice none 0 0, .slice none 0 0, .int .i64 0] 34)) = w0 at *
  go_region_held3 (fun w' => w'.cell? ⟨w.heap.size, 0, none⟩ = some (.slice c.bk.A1 c.bk.b.own.length c.bk.c1) ∧ w'.cell? ⟨w.heap.size, 1, none⟩ = some (.slice c.bk.A2 c.bk.b.notes.length c.bk.c2) ∧ w'.cell? ⟨w.heap.size, 2, none⟩ = some (.int .i64 c.bk.b.locked))
    (((try dsimp only); (repeat' apply And.intro) <;> (first | with_reducible assumption | (go_keep; done))))
    (first | (clear a0 a1 a2; refine step_copyI rfl _ (.tmp 5) rfl rfl c.bk.A1 c.bk.c1 c.bk.b.own rfl (I1.out _ (HK.out.drewN 1)) m1 ?_; intro B1 d1 w1 hr9 hk1; have hq := ((Keeps.refl noBlk w0).drewN 1).trans hk1; clear hk1; have hk1 := hq; clear hq; have R1 := Lib.hid (RowB.mk' hr9); clear hr9; have ha := HBa.out.keeps hk1 (fun h => h); clear HBa; have HBa := Lib.hid ha; clear ha; have hr := HBr.out.keeps hk1 (fun h => h); clear HBr; have HBr := Lib.hid hr; clear hr; have hr := HK.out.trans hk1; clear HK; have HK := Lib.hid hr; clear hr; have sz1 := hk1.size; (try simp at sz1); clear hk1; have hb := HBa.out; have a0 := hb.cell 0; have a1 := hb.cell 1; have a2 := hb.cell 2; simp at a0 a1 a2; clear hb) | (clear a0 a1 a2; refine step_copyI rfl _ (.tmp 9) rfl rfl c.bk.A2 c.bk.c2 c.bk.b.notes rfl (I2.out _ (HK.out)) m2 ?_; intro B2 d2 w2 hr9 hk2; have R2 := Lib.hid (RowB.mk' hr9); clear hr9; have ha := HBa.out.keeps hk2 (fun h => h); clear HBa; have HBa := Lib.hid ha; clear ha; have hr := HBr.out.keeps hk2 (fun h => h); clear HBr; have HBr := Lib.hid hr; clear hr; have hr := (R1.out).kept hk2; clear R1; have R1 := Lib.hid hr; clear hr; have hr := HK.out.trans hk2; clear HK; have HK := Lib.hid hr; clear hr; have sz2 := hk2.size; (try simp at sz2); clear hk2; have hb := HBa.out; have a0 := hb.cell 0; have a1 := hb.cell 1; have a2 := hb.cell 2; simp at a0 a1 a2; clear hb; have hb := HBr.out; have r0 := hb.cell 0; have r1 := hb.cell 1; have r2 := hb.cell 2; simp at r0 r1 r2; have zr := hb.lt; clear hb; have hb := HBr.out; have rf0 := hb.frozen 0; have rf1 := hb.frozen 1; have rf2 := hb.frozen 2; clear hb))
  go_wp2
  refine bodyPost_ret (v := .agg #[.slice B1 c.bk.b.own.length d1, .slice B2 c.bk.b.notes.length d2, .int .i64 c.bk.b.locked]) (by simp [results, Tryd.results122, go_sem, r0, r1, r2]) rfl ?_
  have kS := ((((Keeps.refl (fun b => b = w.heap.size + 1) w2).setCell (p := ⟨w.heap.size + 1, 0, none⟩) (.inr rfl) (.slice B1 c.bk.b.own.length d1)).setCell (p := ⟨w.heap.size + 1, 1, none⟩) (.inr rfl) (.slice B2 c.bk.b.notes.length d2)).setCell (p := ⟨w.heap.size + 1, 2, none⟩) (.inr rfl) (.int .i64 c.bk.b.locked))
  have K1 := R1.out.keeps kS fun b hb => by first | omega | (simp; omega)
  have K2 := R2.out.keeps kS fun b hb => by first | omega | (simp; omega)
  exact ⟨B1, B2, d1, d2, rfl, K1.row.less (by first | omega | (simp; omega)), K2.row.less (by first | omega | (simp; omega)), fun i x y => by have q1 := K1.lt i x; have q2 := K2.row.ge y; (try simp at q1 q2) <;> omega, HK.out.then kS fun i hi h => by omega⟩
end Go.Proofs.YtbgpclicflafaaaDoor
