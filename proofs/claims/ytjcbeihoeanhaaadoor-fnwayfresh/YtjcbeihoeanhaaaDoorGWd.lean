/- l21Do of the model: something happens in a world of two chains. -/
import Derived.Test.YtjcbeihoeanhaaaDoorUChF
set_option maxRecDepth 100000
set_option maxHeartbeats 8000000
set_option linter.unusedVariables false
set_option linter.unusedSimpArgs false
namespace Go.Proofs.YtjcbeihoeanhaaaDoor
open Go.RowKit

structure WdM where
 a : ChM
 b : ChM
 g : Nat
def WdM.val (m : WdM) : Value := .agg #[.slice (some ⟨m.g, 0, none⟩) 2 2]
def WdR (G : Nat → Nat) (w : World) (m : WdM) : Prop := Box w m.g 94 (m.a.cs ++ m.b.cs).toArray ∧ G m.g = 2 ∧ ChR G 0 w m.a ∧ ChR G 1 w m.b
structure WdOk (m : WdM) (q : Nat) : Prop where
 a : ChOk m.a
 b : ChOk m.b
 ka : m.a.knows.length ≤ q
 kb : m.b.knows.length ≤ q
def MtW (G : Nat → Nat) (b : Nat) : Prop := Mt G 0 b ∨ Mt G 1 b ∨ G b = 2
def RetWd (G : Nat → Nat) (w : World) (q : Nat) (e : Ending) (w' : World) : Prop :=
 ∃ (G' : Nat → Nat) (m : WdM), e = .returned m.val ∧ WdOk m q ∧ (∀ b, b < w.heap.size → G' b = G b) ∧ WdR G' w' m ∧ Keeps (MtW G) w w'
theorem l21Do_1 (G : Nat → Nat) (m : WdM) (kd h n : Int) (p : Pk) (q : Nat) (w : World) (hw : WdR G w m) (ok : WdOk m q)
  (hcl : ∀ G0 : Nat → Nat, ∀ W, ChR G0 0 W m.a → ChR G0 1 W m.b → Calls Tryd.prog 84 #[m.a.val, m.b.val, Ev.val ⟨kd, 1, h, n, p⟩] W (RetCh G0 0 W (Nxt m.a))) :
  Calls Tryd.prog 79 #[m.val, Ev.val ⟨kd, 1, h, n, p⟩] w (RetWd G w (q + 1)) := by
 obtain ⟨hb, hg, ha, hbb⟩ := hw
 have ha := ha.ext (G' := up G w.heap.size 0) fun b hb => up_old hb
 have hbb := hbb.ext (G' := up G w.heap.size 0) fun b hb => up_old hb
 have hg0 : up G w.heap.size 0 m.g = 2 := by rw [up_old hb.lt]; exact hg
 have HG := hH (show ∀ b, w.heap.size ≤ b → up G w.heap.size 0 b = 0 from fun b hb => up_new hb); have HG' := hH (show ∀ b, b < w.heap.size → up G w.heap.size 0 b = G b from fun b hb => up_old hb); generalize up G w.heap.size 0 = G0 at ha hbb hg0 HG HG'; have HCL := hH (fun W (hk : Keeps noBlk w W) => hcl G0 W (ha.kept hk) (hbb.kept hk)); have HA := hH ha; have HB := hH hbb; have HGG := hH hg0; have HBB := hH hb; have HOK := hH ok; have lg := hb.lt; have HIN := hH (fun W => (show Calls Tryd.prog 50 #[.int .i64 1, .int .i64 1, .int .i64 2] W (fun e w' => e = .returned (.bool true) ∧ W = w') from l6In_any 1 1 2 W))
 have g0 : w.cell? ⟨m.g, 0, none⟩ = some (.int .i64 m.a.id) := by rw [hb.cell 0]; rfl
 have g1 : w.cell? ⟨m.g, 1, none⟩ = some (.slice m.a.bk.A1 m.a.bk.b.own.length m.a.bk.c1) := by rw [hb.cell 1]; rfl
 have g2 : w.cell? ⟨m.g, 2, none⟩ = some (.slice m.a.bk.A2 m.a.bk.b.notes.length m.a.bk.c2) := by rw [hb.cell 2]; rfl
 have g3 : w.cell? ⟨m.g, 3, none⟩ = some (.int .i64 m.a.bk.b.locked) := by rw [hb.cell 3]; rfl
 have g4 : w.cell? ⟨m.g, 4, none⟩ = some (.int .i64 m.a.st.x.way) := by rw [hb.cell 4]; rfl
 have g5 : w.cell? ⟨m.g, 5, none⟩ = some (.int .i64 m.a.st.x.ver) := by rw [hb.cell 5]; rfl
 have g6 : w.cell? ⟨m.g, 6, none⟩ = some (.int .i64 m.a.st.x.want) := by rw [hb.cell 6]; rfl
 have g7 : w.cell? ⟨m.g, 7, none⟩ = some (.slice m.a.st.A1 m.a.st.x.sent.length m.a.st.c1) := by rw [hb.cell 7]; rfl
 have g8 : w.cell? ⟨m.g, 8, none⟩ = some (.slice m.a.st.A2 m.a.st.x.live.length m.a.st.c2) := by rw [hb.cell 8]; rfl
 have g9 : w.cell? ⟨m.g, 9, none⟩ = some (.slice m.a.st.A3 m.a.st.x.back.length m.a.st.c3) := by rw [hb.cell 9]; rfl
 have g10 : w.cell? ⟨m.g, 10, none⟩ = some (.slice m.a.st.A4 m.a.st.x.got.length m.a.st.c4) := by rw [hb.cell 10]; rfl
 have g11 : w.cell? ⟨m.g, 11, none⟩ = some (.slice m.a.pA m.a.past.length m.a.pc) := by rw [hb.cell 11]; rfl
 have g12 : w.cell? ⟨m.g, 12, none⟩ = some (.slice m.a.kA m.a.knows.length m.a.kc) := by rw [hb.cell 12]; rfl
 have g13 : w.cell? ⟨m.g, 13, none⟩ = some (.int .i64 m.b.id) := by rw [hb.cell 13]; rfl
 have g14 : w.cell? ⟨m.g, 14, none⟩ = some (.slice m.b.bk.A1 m.b.bk.b.own.length m.b.bk.c1) := by rw [hb.cell 14]; rfl
 have g15 : w.cell? ⟨m.g, 15, none⟩ = some (.slice m.b.bk.A2 m.b.bk.b.notes.length m.b.bk.c2) := by rw [hb.cell 15]; rfl
 have g16 : w.cell? ⟨m.g, 16, none⟩ = some (.int .i64 m.b.bk.b.locked) := by rw [hb.cell 16]; rfl
 have g17 : w.cell? ⟨m.g, 17, none⟩ = some (.int .i64 m.b.st.x.way) := by rw [hb.cell 17]; rfl
 have g18 : w.cell? ⟨m.g, 18, none⟩ = some (.int .i64 m.b.st.x.ver) := by rw [hb.cell 18]; rfl
 have g19 : w.cell? ⟨m.g, 19, none⟩ = some (.int .i64 m.b.st.x.want) := by rw [hb.cell 19]; rfl
 have g20 : w.cell? ⟨m.g, 20, none⟩ = some (.slice m.b.st.A1 m.b.st.x.sent.length m.b.st.c1) := by rw [hb.cell 20]; rfl
 have g21 : w.cell? ⟨m.g, 21, none⟩ = some (.slice m.b.st.A2 m.b.st.x.live.length m.b.st.c2) := by rw [hb.cell 21]; rfl
 have g22 : w.cell? ⟨m.g, 22, none⟩ = some (.slice m.b.st.A3 m.b.st.x.back.length m.b.st.c3) := by rw [hb.cell 22]; rfl
 have g23 : w.cell? ⟨m.g, 23, none⟩ = some (.slice m.b.st.A4 m.b.st.x.got.length m.b.st.c4) := by rw [hb.cell 23]; rfl
 have g24 : w.cell? ⟨m.g, 24, none⟩ = some (.slice m.b.pA m.b.past.length m.b.pc) := by rw [hb.cell 24]; rfl
 have g25 : w.cell? ⟨m.g, 25, none⟩ = some (.slice m.b.kA m.b.knows.length m.b.kc) := by rw [hb.cell 25]; rfl
 clear hb hg ha hbb hg0 hcl ok; unfold RetCh at HCL; unfold ChM.val Ev.val at HCL; dsimp only at HCL; have HBV := hH (((Box.new w (w.heap.size) (by simp) 87 #[.slice (some ⟨m.g, 0, none⟩) 2 2]).alloc (.cells (evC kd 1 h n p) 102)).alloc (.cells #[.slice none 0 0] 87)); have HBE := hH ((Box.new (w.alloc (.cells #[.slice (some ⟨m.g, 0, none⟩) 2 2] 87)) (w.heap.size + 1) (by simp) 102 (evC kd 1 h n p)).alloc (.cells #[.slice none 0 0] 87)); have HBZ := hH (Box.new ((w.alloc (.cells #[.slice (some ⟨m.g, 0, none⟩) 2 2] 87)).alloc (.cells (evC kd 1 h n p) 102)) (w.heap.size + 1 + 1) (by simp) 87 #[.slice none 0 0]); have HK := hH ((((Keeps.refl (noBlk) w).alloc (.cells #[.slice (some ⟨m.g, 0, none⟩) 2 2] 87)).alloc (.cells (evC kd 1 h n p) 102)).alloc (.cells #[.slice none 0 0] 87))
 have hsz : w.heap.size + 3 ≤ (((w.alloc (.cells #[.slice (some ⟨m.g, 0, none⟩) 2 2] 87)).alloc (.cells (evC kd 1 h n p) 102)).alloc (.cells #[.slice none 0 0] 87)).heap.size := by simp
 have : ¬ m.g = w.heap.size := by omega
 have : ¬ w.heap.size = m.g := by omega
 have : ¬ m.g = w.heap.size + 1 := by omega
 have : ¬ w.heap.size + 1 = m.g := by omega
 have : ¬ m.g = w.heap.size + 1 + 1 := by omega
 have : ¬ w.heap.size + 1 + 1 = m.g := by omega
 have : m.g < w.heap.size + 1 := by omega
 have : m.g < w.heap.size + 1 + 1 := by omega
 unfold WdM.val Ev.val; dsimp only
 go_enter Tryd.func79, Tryd.ntmps79
 go_wp2_with fail; refine (HIN.out _).mono ?_; rintro e _ ⟨rfl, rfl⟩; go_wp2_with fail; generalize (((w.alloc (.cells #[.slice (some ⟨m.g, 0, none⟩) 2 2] 87)).alloc (.cells (evC kd 1 h n p) 102)).alloc (.cells #[.slice none 0 0] 87)) = WW at HBV HBE HBZ HK hsz ⊢; have hv := HBV.out; have V0 := hv.cell 0; have he := HBE.out; have E0 := he.cell 0; have E1 := he.cell 1; have E2 := he.cell 2; have E3 := he.cell 3; have E4 := he.cell 4; have E5 := he.cell 5; have E6 := he.cell 6; have E7 := he.cell 7; have E8 := he.cell 8; have E9 := he.cell 9; have E10 := he.cell 10; simp at V0 E0 E1 E2 E3 E4 E5 E6 E7 E8 E9 E10; clear hv he; obtain ⟨g0, g1, g2, g3, g4, g5, g6, g7, g8, g9, g10, g11, g12, g13, g14, g15, g16, g17, g18, g19, g20, g21, g22, g23, g24, g25⟩ := kc26 HK.out lg g0 g1 g2 g3 g4 g5 g6 g7 g8 g9 g10 g11 g12 g13 g14 g15 g16 g17 g18 g19 g20 g21 g22 g23 g24 g25; refine wp_region_held_drew (S := (fun w' : World => w'.cell? ⟨w.heap.size, 0, none⟩ = some (.slice (some ⟨m.g, 0, none⟩) 2 2) ∧ w'.cell? ⟨w.heap.size + 1, 0, none⟩ = some (.int .i64 kd) ∧ w'.cell? ⟨w.heap.size + 1, 1, none⟩ = some (.int .i64 1) ∧ w'.cell? ⟨w.heap.size + 1, 2, none⟩ = some (.int .i64 h) ∧ w'.cell? ⟨w.heap.size + 1, 3, none⟩ = some (.int .i64 n) ∧ w'.cell? ⟨w.heap.size + 1, 4, none⟩ = some (.int .i64 p.s) ∧ w'.cell? ⟨w.heap.size + 1, 5, none⟩ = some (.int .i64 p.k) ∧ w'.cell? ⟨w.heap.size + 1, 6, none⟩ = some (.int .i64 p.f) ∧ w'.cell? ⟨w.heap.size + 1, 7, none⟩ = some (.int .i64 p.t) ∧ w'.cell? ⟨w.heap.size + 1, 8, none⟩ = some (.int .i64 p.m) ∧ w'.cell? ⟨w.heap.size + 1, 9, none⟩ = some (.int .i64 p.u) ∧ w'.cell? ⟨w.heap.size + 1, 10, none⟩ = some (.int .i64 p.v))) (by kernel_rfl) ?_ (fun hHeld => ?_)
 ·(try dsimp only); (repeat' apply And.intro) <;> (first | with_reducible assumption | (go_keep; done))
 have hw0 : IntKind.i64.wrap 0 = 0 := rfl; have hw1 : IntKind.i64.wrap 1 = 1 := rfl; refine wpAnyH_take (i := 0) (oi := { dst := some 10, op := Op.fieldAddr 87 (Operand.tmp 2) 0, type := 0, pos := "l21_world.go:113", after := #[], guard := none }) (v := ?_) rfl (by kernel_rfl) (by kernel_rfl) (by kernel_rfl) (fun _ _ _ h => h) (Or.inl ⟨by rfl, ?_⟩) (by assumption) ?_
 rotate_left
 ·intro w9 hSw
  (try dsimp only at hSw)
  go_simp
  try with_reducible rfl
 try simp only [Act.put, sx]
 refine wpAnyH_take (i := 1) (oi := { dst := some 11, op := Op.load 85 (Operand.tmp 10), type := 85, pos := "l21_world.go:113", after := #[{ on := 0, ground := Ground.data }], guard := none }) (v := ?_) rfl (by kernel_rfl) (by kernel_rfl) (by kernel_rfl) (fun _ _ _ h => h) (Or.inl ⟨by rfl, ?_⟩) (by assumption) ?_
 rotate_left
 ·intro w9 hSw
  (try dsimp only at hSw)
  go_simp
  try with_reducible rfl
 try simp only [Act.put, sx]
 refine wpAnyH_take (i := 2) (oi := { dst := some 12, op := Op.fieldAddr 102 (Operand.tmp 3) 1, type := 0, pos := "l21_world.go:113", after := #[], guard := none }) (v := ?_) rfl (by kernel_rfl) (by kernel_rfl) (by kernel_rfl) (fun _ _ _ h => h) (Or.inl ⟨by rfl, ?_⟩) (by assumption) ?_
 rotate_left
 ·intro w9 hSw
  (try dsimp only at hSw)
  go_simp
  try with_reducible rfl
 try simp only [Act.put, sx]
 refine wpAnyH_take (i := 3) (oi := { dst := some 13, op := Op.load 3 (Operand.tmp 12), type := 3, pos := "l21_world.go:113", after := #[{ on := 2, ground := Ground.data }], guard := none }) (v := ?_) rfl (by kernel_rfl) (by kernel_rfl) (by kernel_rfl) (fun _ _ _ h => h) (Or.inl ⟨by rfl, ?_⟩) (by assumption) ?_
 rotate_left
 ·intro w9 hSw
  (try dsimp only at hSw)
  go_simp
  try with_reducible rfl
 try simp only [Act.put, sx]
 refine wpAnyH_take (i := 4) (oi := { dst := some 14, op := Op.binOp BinOp.sub 3 (Operand.tmp 13) (Operand.const (Value.int IntKind.i64 1)) 3, type := 3, pos := "l21_world.go:113", after := #[{ on := 3, ground := Ground.data }], guard := none }) (v := ?_) rfl (by kernel_rfl) (by kernel_rfl) (by kernel_rfl) (fun _ _ _ h => h) (Or.inl ⟨by rfl, ?_⟩) (by assumption) ?_
 rotate_left
 ·intro w9 hSw
  (try dsimp only at hSw)
  go_simp
  try with_reducible rfl
 try simp only [Act.put, sx]
 refine wpAnyH_take (i := 5) (oi := { dst := some 15, op := Op.fieldAddr 87 (Operand.tmp 2) 0, type := 0, pos := "l21_world.go:113", after := #[], guard := none }) (v := ?_) rfl (by kernel_rfl) (by kernel_rfl) (by kernel_rfl) (fun _ _ _ h => h) (Or.inl ⟨by rfl, ?_⟩) (by assumption) ?_
 rotate_left
 ·intro w9 hSw
  (try dsimp only at hSw)
  go_simp
  try with_reducible rfl
 try simp only [Act.put, sx]
 refine wpAnyH_take (i := 6) (oi := { dst := some 16, op := Op.load 85 (Operand.tmp 15), type := 85, pos := "l21_world.go:113", after := #[{ on := 5, ground := Ground.data }], guard := none }) (v := ?_) rfl (by kernel_rfl) (by kernel_rfl) (by kernel_rfl) (fun _ _ _ h => h) (Or.inl ⟨by rfl, ?_⟩) (by assumption) ?_
 rotate_left
 ·intro w9 hSw
  (try dsimp only at hSw)
  go_simp
  try with_reducible rfl
 try simp only [Act.put, sx]
 refine wpAnyH_take (i := 7) (oi := { dst := some 17, op := Op.fieldAddr 102 (Operand.tmp 3) 1, type := 0, pos := "l21_world.go:113", after := #[], guard := none }) (v := ?_) rfl (by kernel_rfl) (by kernel_rfl) (by kernel_rfl) (fun _ _ _ h => h) (Or.inl ⟨by rfl, ?_⟩) (by assumption) ?_
 rotate_left
 ·intro w9 hSw
  (try dsimp only at hSw)
  go_simp
  try with_reducible rfl
 try simp only [Act.put, sx]
 refine wpAnyH_take (i := 8) (oi := { dst := some 18, op := Op.load 3 (Operand.tmp 17), type := 3, pos := "l21_world.go:113", after := #[{ on := 7, ground := Ground.data }], guard := none }) (v := ?_) rfl (by kernel_rfl) (by kernel_rfl) (by kernel_rfl) (fun _ _ _ h => h) (Or.inl ⟨by rfl, ?_⟩) (by assumption) ?_
 rotate_left
 ·intro w9 hSw
  (try dsimp only at hSw)
  go_simp
  try with_reducible rfl
 try simp only [Act.put, sx]
 refine wpAnyH_take (i := 9) (oi := { dst := some 19, op := Op.binOp BinOp.sub 3 (Operand.tmp 18) (Operand.const (Value.int IntKind.i64 1)) 3, type := 3, pos := "l21_world.go:113", after := #[{ on := 8, ground := Ground.data }], guard := none }) (v := ?_) rfl (by kernel_rfl) (by kernel_rfl) (by kernel_rfl) (fun _ _ _ h => h) (Or.inl ⟨by rfl, ?_⟩) (by assumption) ?_
 rotate_left
 ·intro w9 hSw
  (try dsimp only at hSw)
  go_simp
  try with_reducible rfl
 try simp only [Act.put, sx]
 refine wpAnyH_take (i := 10) (oi := { dst := some 20, op := Op.indexAddr 85 (Operand.tmp 16) (Operand.tmp 19), type := 0, pos := "l21_world.go:113", after := #[{ on := 6, ground := Ground.data }, { on := 9, ground := Ground.data }], guard := none }) (v := ?_) rfl (by kernel_rfl) (by kernel_rfl) (by kernel_rfl) (fun _ _ _ h => h) (Or.inl ⟨by rfl, ?_⟩) (by assumption) ?_
 rotate_left
 ·intro w9 hSw
  (try dsimp only at hSw)
  go_simp
  try with_reducible rfl
 try simp only [Act.put, sx]
 refine wpAnyH_take (i := 12) (oi := { dst := some 22, op := Op.fieldAddr 87 (Operand.tmp 2) 0, type := 0, pos := "l21_world.go:113", after := #[], guard := none }) (v := ?_) rfl (by kernel_rfl) (by kernel_rfl) (by kernel_rfl) (fun _ _ _ h => h) (Or.inl ⟨by rfl, ?_⟩) (by assumption) ?_
 rotate_left
 ·intro w9 hSw
  (try dsimp only at hSw)
  go_simp
  try with_reducible rfl
 try simp only [Act.put, sx]
 refine wpAnyH_take (i := 13) (oi := { dst := some 23, op := Op.load 85 (Operand.tmp 22), type := 85, pos := "l21_world.go:113", after := #[{ on := 12, ground := Ground.data }], guard := none }) (v := ?_) rfl (by kernel_rfl) (by kernel_rfl) (by kernel_rfl) (fun _ _ _ h => h) (Or.inl ⟨by rfl, ?_⟩) (by assumption) ?_
 rotate_left
 ·intro w9 hSw
  (try dsimp only at hSw)
  go_simp
  try with_reducible rfl
 try simp only [Act.put, sx]
 refine wpAnyH_take (i := 14) (oi := { dst := some 24, op := Op.fieldAddr 102 (Operand.tmp 3) 1, type := 0, pos := "l21_world.go:113", after := #[], guard := none }) (v := ?_) rfl (by kernel_rfl) (by kernel_rfl) (by kernel_rfl) (fun _ _ _ h => h) (Or.inl ⟨by rfl, ?_⟩) (by assumption) ?_
 rotate_left
 ·intro w9 hSw
  (try dsimp only at hSw)
  go_simp
  try with_reducible rfl
 try simp only [Act.put, sx]
 refine wpAnyH_take (i := 15) (oi := { dst := some 25, op := Op.load 3 (Operand.tmp 24), type := 3, pos := "l21_world.go:113", after := #[{ on := 14, ground := Ground.data }], guard := none }) (v := ?_) rfl (by kernel_rfl) (by kernel_rfl) (by kernel_rfl) (fun _ _ _ h => h) (Or.inl ⟨by rfl, ?_⟩) (by assumption) ?_
 rotate_left
 ·intro w9 hSw
  (try dsimp only at hSw)
  go_simp
  try with_reducible rfl
 try simp only [Act.put, sx]
 refine wpAnyH_take (i := 16) (oi := { dst := some 26, op := Op.binOp BinOp.sub 3 (Operand.const (Value.int IntKind.i64 2)) (Operand.tmp 25) 3, type := 3, pos := "l21_world.go:113", after := #[{ on := 15, ground := Ground.data }], guard := none }) (v := ?_) rfl (by kernel_rfl) (by kernel_rfl) (by kernel_rfl) (fun _ _ _ h => h) (Or.inl ⟨by rfl, ?_⟩) (by assumption) ?_
 rotate_left
 ·intro w9 hSw
  (try dsimp only at hSw)
  go_simp
  try with_reducible rfl
 try simp only [Act.put, sx]
 refine wpAnyH_take (i := 17) (oi := { dst := some 27, op := Op.indexAddr 85 (Operand.tmp 23) (Operand.tmp 26), type := 0, pos := "l21_world.go:113", after := #[{ on := 13, ground := Ground.data }, { on := 16, ground := Ground.data }], guard := none }) (v := ?_) rfl (by kernel_rfl) (by kernel_rfl) (by kernel_rfl) (fun _ _ _ h => h) (Or.inl ⟨by rfl, ?_⟩) (by assumption) ?_
 rotate_left
 ·intro w9 hSw
  (try dsimp only at hSw)
  go_simp
  try with_reducible rfl
 try simp only [Act.put, sx]
 refine wpAnyH_take (i := 19) (oi := { dst := some 29, op := Op.load 102 (Operand.tmp 3), type := 102, pos := "l21_world.go:113", after := #[], guard := none }) (v := ?_) rfl (by kernel_rfl) (by kernel_rfl) (by kernel_rfl) (fun _ _ _ h => h) (Or.inl ⟨by rfl, ?_⟩) (by assumption) ?_
 rotate_left
 ·intro w9 hSw
  (try dsimp only at hSw)
  go_simp
  try with_reducible rfl
 try simp only [Act.put, sx]
 refine wpAnyH_ready (rs := [11, 18]) (by kernel_rfl) (by simp) ?_; refine AllReadyH.cons (o := { dst := some 21, op := Op.load 94 (Operand.tmp 20), type := 94, pos := "l21_world.go:113", after := #[{ on := 10, ground := Ground.data }], guard := none }) rfl (fun K hK => ?_) (AllReadyH.cons (o := { dst := some 28, op := Op.load 94 (Operand.tmp 27), type := 94, pos := "l21_world.go:113", after := #[{ on := 17, ground := Ground.data }], guard := none }) rfl (fun K hK => ?_) AllReadyH.nil)
 ·skip
  go_simp
  refine hK.out _ _ ?_ (fun hHeld2 => ?_)
  ·(try dsimp only); (repeat' apply And.intro) <;> (first | with_reducible assumption | (go_keep; done))
  clear hK K
  try simp only [Act.put, sx]
  refine wpAnyH_ready (rs := [18]) (by kernel_rfl) (by simp) ?_; refine AllReadyH.cons (o := { dst := some 28, op := Op.load 94 (Operand.tmp 27), type := 94, pos := "l21_world.go:113", after := #[{ on := 17, ground := Ground.data }], guard := none }) rfl (fun K hK => ?_) AllReadyH.nil
  go_simp
  refine hK.out _ _ ?_ (fun hHeld2 => ?_)
  ·(try dsimp only); (repeat' apply And.intro) <;> (first | with_reducible assumption | (go_keep; done))
  clear hK K
  try simp only [Act.put, sx]
  refine wpAnyH_ready (rs := [20]) (by kernel_rfl) (by simp) ?_; refine AllReadyH.cons (o := { dst := some 30, op := Op.call { callee := Callee.value (Operand.func 84), args := #[Operand.tmp 21, Operand.tmp 28, Operand.tmp 29], argTypes := #[ 94, 94, 102 ] }, type := 94, pos := "l21_world.go:113", after := #[{ on := 11, ground := Ground.data }, { on := 18, ground := Ground.data }, { on := 19, ground := Ground.data }], guard := none }) rfl (fun K hK => ?_) AllReadyH.nil
  go_simp
  refine (HCL.out _ (HK.out.drewN 1)).mono ?_; rintro e w1 ⟨G1, c1, rfl, hN, hag, hch, hk1⟩; dsimp only [ChM.val]; have HNX := hH hN; have HAG := hH hag; have HCH := hH hch; have hkq := ((Keeps.refl (Mt G0 0) WW).drewN 1).trans hk1
  have hnz : ∀ b, w.heap.size ≤ b → ¬ Mt G0 0 b := fun b hb hm => by obtain ⟨k, _, hk⟩ := hm; rw [HG.out b hb] at hk; unfold rl at hk; omega
  have hng : ¬ Mt G0 0 m.g := fun hm => by obtain ⟨k, _, hk⟩ := hm; rw [HGG.out] at hk; unfold rl at hk; omega
  have HBV1 := hH (HBV.out.keeps hkq (hnz _ (by omega))); have HBE1 := hH (HBE.out.keeps hkq (hnz _ (by omega))); have HBZ1 := hH (HBZ.out.keeps hkq (hnz _ (by omega))); have HBB1 := hH (show Box w1 m.g 94 #[.int .i64 m.a.id, .slice m.a.bk.A1 m.a.bk.b.own.length m.a.bk.c1, .slice m.a.bk.A2 m.a.bk.b.notes.length m.a.bk.c2, .int .i64 m.a.bk.b.locked, .int .i64 m.a.st.x.way, .int .i64 m.a.st.x.ver, .int .i64 m.a.st.x.want, .slice m.a.st.A1 m.a.st.x.sent.length m.a.st.c1, .slice m.a.st.A2 m.a.st.x.live.length m.a.st.c2, .slice m.a.st.A3 m.a.st.x.back.length m.a.st.c3, .slice m.a.st.A4 m.a.st.x.got.length m.a.st.c4, .slice m.a.pA m.a.past.length m.a.pc, .slice m.a.kA m.a.knows.length m.a.kc, .int .i64 m.b.id, .slice m.b.bk.A1 m.b.bk.b.own.length m.b.bk.c1, .slice m.b.bk.A2 m.b.bk.b.notes.length m.b.bk.c2, .int .i64 m.b.bk.b.locked, .int .i64 m.b.st.x.way, .int .i64 m.b.st.x.ver, .int .i64 m.b.st.x.want, .slice m.b.st.A1 m.b.st.x.sent.length m.b.st.c1, .slice m.b.st.A2 m.b.st.x.live.length m.b.st.c2, .slice m.b.st.A3 m.b.st.x.back.length m.b.st.c3, .slice m.b.st.A4 m.b.st.x.got.length m.b.st.c4, .slice m.b.pA m.b.past.length m.b.pc, .slice m.b.kA m.b.knows.length m.b.kc] from (HBB.out.keeps HK.out (fun h => h)).keeps hkq hng); have HKQ := hH hkq; have sz1 := hkq.size; clear hk1 hN hag hch V0 E0 E1 E2 E3 E4 E5 E6 E7 E8 E9 E10 g0 g1 g2 g3 g4 g5 g6 g7 g8 g9 g10 g11 g12 g13 g14 g15 g16 g17 g18 g19 g20 g21 g22 g23 g24 g25; have hv := HBV1.out; have V0 := hv.cell 0; have he := HBE1.out; have E0 := he.cell 0; have E1 := he.cell 1; have E2 := he.cell 2; have E3 := he.cell 3; have E4 := he.cell 4; have E5 := he.cell 5; have E6 := he.cell 6; have E7 := he.cell 7; have E8 := he.cell 8; have E9 := he.cell 9; have E10 := he.cell 10; simp at V0 E0 E1 E2 E3 E4 E5 E6 E7 E8 E9 E10; clear hv he; have hb9 := HBB1.out; have g0 := hb9.cell 0; have g1 := hb9.cell 1; have g2 := hb9.cell 2; have g3 := hb9.cell 3; have g4 := hb9.cell 4; have g5 := hb9.cell 5; have g6 := hb9.cell 6; have g7 := hb9.cell 7; have g8 := hb9.cell 8; have g9 := hb9.cell 9; have g10 := hb9.cell 10; have g11 := hb9.cell 11; have g12 := hb9.cell 12; have g13 := hb9.cell 13; have g14 := hb9.cell 14; have g15 := hb9.cell 15; have g16 := hb9.cell 16; have g17 := hb9.cell 17; have g18 := hb9.cell 18; have g19 := hb9.cell 19; have g20 := hb9.cell 20; have g21 := hb9.cell 21; have g22 := hb9.cell 22; have g23 := hb9.cell 23; have g24 := hb9.cell 24; have g25 := hb9.cell 25; simp at g0 g1 g2 g3 g4 g5 g6 g7 g8 g9 g10 g11 g12 g13 g14 g15 g16 g17 g18 g19 g20 g21 g22 g23 g24 g25; obtain ⟨gf0, gf1, gf2, gf3, gf4, gf5, gf6, gf7, gf8, gf9, gf10, gf11, gf12⟩ := hb9.fz13; have zg := hb9.lt; clear hb9 hkq; refine hK.out _ _ ?_ (fun hHeld2 => ?_)
  ·(try dsimp only); (repeat' apply And.intro) <;> (first | with_reducible assumption | (go_keep; done))
  clear hK K
  try simp only [Act.put, sx]
  refine wpAnyH_ready (rs := [21]) (by kernel_rfl) (by simp) ?_; refine AllReadyH.cons (o := { dst := some 31, op := Op.indexAddr 85 (Operand.tmp 11) (Operand.tmp 14), type := 0, pos := "l21_world.go:113", after := #[{ on := 1, ground := Ground.data }, { on := 4, ground := Ground.data }, { on := 0, ground := Ground.phase }, { on := 1, ground := Ground.phase }, { on := 2, ground := Ground.phase }, { on := 3, ground := Ground.phase }, { on := 4, ground := Ground.phase }, { on := 5, ground := Ground.phase }, { on := 6, ground := Ground.phase }, { on := 7, ground := Ground.phase }, { on := 8, ground := Ground.phase }, { on := 9, ground := Ground.phase }, { on := 10, ground := Ground.phase }, { on := 11, ground := Ground.phase }, { on := 12, ground := Ground.phase }, { on := 13, ground := Ground.phase }, { on := 14, ground := Ground.phase }, { on := 15, ground := Ground.phase }, { on := 16, ground := Ground.phase }, { on := 17, ground := Ground.phase }, { on := 18, ground := Ground.phase }, { on := 19, ground := Ground.phase }, { on := 20, ground := Ground.phase }], guard := none }) rfl (fun K hK => ?_) AllReadyH.nil
  go_simp
  refine hK.out _ _ ?_ (fun hHeld2 => ?_)
  ·(try dsimp only); (repeat' apply And.intro) <;> (first | with_reducible assumption | (go_keep; done))
  clear hK K
  try simp only [Act.put, sx]
  refine wpAnyH_ready (rs := [22]) (by kernel_rfl) (by simp) ?_; refine AllReadyH.cons (o := { dst := none, op := Op.store 94 (Operand.tmp 31) (Operand.tmp 30), type := 0, pos := "l21_world.go:113", after := #[{ on := 21, ground := Ground.data }, { on := 20, ground := Ground.data }, { on := 20, ground := Ground.chain }, { on := 0, ground := Ground.phase }, { on := 1, ground := Ground.phase }, { on := 2, ground := Ground.phase }, { on := 3, ground := Ground.phase }, { on := 4, ground := Ground.phase }, { on := 5, ground := Ground.phase }, { on := 6, ground := Ground.phase }, { on := 7, ground := Ground.phase }, { on := 8, ground := Ground.phase }, { on := 9, ground := Ground.phase }, { on := 10, ground := Ground.phase }, { on := 11, ground := Ground.phase }, { on := 12, ground := Ground.phase }, { on := 13, ground := Ground.phase }, { on := 14, ground := Ground.phase }, { on := 15, ground := Ground.phase }, { on := 16, ground := Ground.phase }, { on := 17, ground := Ground.phase }, { on := 18, ground := Ground.phase }, { on := 19, ground := Ground.phase }, { on := 20, ground := Ground.phase }], guard := none }) rfl (fun K hK => ?_) AllReadyH.nil
  go_simp
  refine hK.out _ _ ?_ (fun hHeld2 => ?_)
  ·(try dsimp only); (repeat' apply And.intro) <;> (first | with_reducible assumption | (go_keep; done) | ((repeat rw [World.cell?_setCell_other _ _ _ _ (by intro e; injection e with e _; omega)]); with_reducible assumption))
  clear hK K
  try simp only [Act.put, sx]
  refine wpAnyH_done (by kernel_rfl) ?_ _
  try clear hHeld2
  try clear hHeld
  have kS : Keeps (fun b => b = m.g) w1 (((((((((((((w1.setCell ⟨m.g, 0, none⟩ (.int .i64 c1.id)).setCell ⟨m.g, 1, none⟩ (.slice c1.bk.A1 c1.bk.b.own.length c1.bk.c1)).setCell ⟨m.g, 2, none⟩ (.slice c1.bk.A2 c1.bk.b.notes.length c1.bk.c2)).setCell ⟨m.g, 3, none⟩ (.int .i64 c1.bk.b.locked)).setCell ⟨m.g, 4, none⟩ (.int .i64 c1.st.x.way)).setCell ⟨m.g, 5, none⟩ (.int .i64 c1.st.x.ver)).setCell ⟨m.g, 6, none⟩ (.int .i64 c1.st.x.want)).setCell ⟨m.g, 7, none⟩ (.slice c1.st.A1 c1.st.x.sent.length c1.st.c1)).setCell ⟨m.g, 8, none⟩ (.slice c1.st.A2 c1.st.x.live.length c1.st.c2)).setCell ⟨m.g, 9, none⟩ (.slice c1.st.A3 c1.st.x.back.length c1.st.c3)).setCell ⟨m.g, 10, none⟩ (.slice c1.st.A4 c1.st.x.got.length c1.st.c4)).setCell ⟨m.g, 11, none⟩ (.slice c1.pA c1.past.length c1.pc)).setCell ⟨m.g, 12, none⟩ (.slice c1.kA c1.knows.length c1.kc)) := ((((((((((((((Keeps.refl (fun b => b = m.g) w1).setCell (p := ⟨m.g, 0, none⟩) (.inr rfl) (.int .i64 c1.id)).setCell (p := ⟨m.g, 1, none⟩) (.inr rfl) (.slice c1.bk.A1 c1.bk.b.own.length c1.bk.c1)).setCell (p := ⟨m.g, 2, none⟩) (.inr rfl) (.slice c1.bk.A2 c1.bk.b.notes.length c1.bk.c2)).setCell (p := ⟨m.g, 3, none⟩) (.inr rfl) (.int .i64 c1.bk.b.locked)).setCell (p := ⟨m.g, 4, none⟩) (.inr rfl) (.int .i64 c1.st.x.way)).setCell (p := ⟨m.g, 5, none⟩) (.inr rfl) (.int .i64 c1.st.x.ver)).setCell (p := ⟨m.g, 6, none⟩) (.inr rfl) (.int .i64 c1.st.x.want)).setCell (p := ⟨m.g, 7, none⟩) (.inr rfl) (.slice c1.st.A1 c1.st.x.sent.length c1.st.c1)).setCell (p := ⟨m.g, 8, none⟩) (.inr rfl) (.slice c1.st.A2 c1.st.x.live.length c1.st.c2)).setCell (p := ⟨m.g, 9, none⟩) (.inr rfl) (.slice c1.st.A3 c1.st.x.back.length c1.st.c3)).setCell (p := ⟨m.g, 10, none⟩) (.inr rfl) (.slice c1.st.A4 c1.st.x.got.length c1.st.c4)).setCell (p := ⟨m.g, 11, none⟩) (.inr rfl) (.slice c1.pA c1.past.length c1.pc)).setCell (p := ⟨m.g, 12, none⟩) (.inr rfl) (.slice c1.kA c1.knows.length c1.kc)); have hbn := (((((((((((((HBB1.out.set_ 0 (.int .i64 c1.id)).set_ 1 (.slice c1.bk.A1 c1.bk.b.own.length c1.bk.c1)).set_ 2 (.slice c1.bk.A2 c1.bk.b.notes.length c1.bk.c2)).set_ 3 (.int .i64 c1.bk.b.locked)).set_ 4 (.int .i64 c1.st.x.way)).set_ 5 (.int .i64 c1.st.x.ver)).set_ 6 (.int .i64 c1.st.x.want)).set_ 7 (.slice c1.st.A1 c1.st.x.sent.length c1.st.c1)).set_ 8 (.slice c1.st.A2 c1.st.x.live.length c1.st.c2)).set_ 9 (.slice c1.st.A3 c1.st.x.back.length c1.st.c3)).set_ 10 (.slice c1.st.A4 c1.st.x.got.length c1.st.c4)).set_ 11 (.slice c1.pA c1.past.length c1.pc)).set_ 12 (.slice c1.kA c1.knows.length c1.kc)); simp only [sx] at hbn; have HBN := hH hbn; clear hbn; have HBV2 := hH (HBV1.out.keeps kS fun h => by omega); have HBZ2 := hH (HBZ1.out.keeps kS fun h => by omega); have KS := hH kS; clear kS V0 E0 E1 E2 E3 E4 E5 E6 E7 E8 E9 E10 g0 g1 g2 g3 g4 g5 g6 g7 g8 g9 g10 g11 g12 g13 g14 g15 g16 g17 g18 g19 g20 g21 g22 g23 g24 g25 gf0 gf1 gf2 gf3 gf4 gf5 gf6 gf7 gf8 gf9 gf10 gf11 gf12; generalize (((((((((((((w1.setCell ⟨m.g, 0, none⟩ (.int .i64 c1.id)).setCell ⟨m.g, 1, none⟩ (.slice c1.bk.A1 c1.bk.b.own.length c1.bk.c1)).setCell ⟨m.g, 2, none⟩ (.slice c1.bk.A2 c1.bk.b.notes.length c1.bk.c2)).setCell ⟨m.g, 3, none⟩ (.int .i64 c1.bk.b.locked)).setCell ⟨m.g, 4, none⟩ (.int .i64 c1.st.x.way)).setCell ⟨m.g, 5, none⟩ (.int .i64 c1.st.x.ver)).setCell ⟨m.g, 6, none⟩ (.int .i64 c1.st.x.want)).setCell ⟨m.g, 7, none⟩ (.slice c1.st.A1 c1.st.x.sent.length c1.st.c1)).setCell ⟨m.g, 8, none⟩ (.slice c1.st.A2 c1.st.x.live.length c1.st.c2)).setCell ⟨m.g, 9, none⟩ (.slice c1.st.A3 c1.st.x.back.length c1.st.c3)).setCell ⟨m.g, 10, none⟩ (.slice c1.st.A4 c1.st.x.got.length c1.st.c4)).setCell ⟨m.g, 11, none⟩ (.slice c1.pA c1.past.length c1.pc)).setCell ⟨m.g, 12, none⟩ (.slice c1.kA c1.knows.length c1.kc)) = V2 at *; have hv := HBV2.out; have V0 := hv.cell 0; have hz9 := HBZ2.out; have Z0 := hz9.cell 0; have Zf := hz9.frozen 0
  simp at V0 Z0; have zz := hz9.lt; clear hv hz9; go_wp2; have kT : Keeps (fun b => b = w.heap.size + 1 + 1) V2 (V2.setCell ⟨w.heap.size + 1 + 1, 0, none⟩ (.slice (some ⟨m.g, 0, none⟩) 2 2)) := (Keeps.refl (fun b => b = w.heap.size + 1 + 1) V2).setCell (p := ⟨w.heap.size + 1 + 1, 0, none⟩) (.inr rfl) _; have hbz := HBZ2.out.set_ 0 (.slice (some ⟨m.g, 0, none⟩) 2 2); simp only [sx] at hbz; have s10 := hbz.cell 0; simp at s10; clear hbz; generalize V2.setCell ⟨w.heap.size + 1 + 1, 0, none⟩ (.slice (some ⟨m.g, 0, none⟩) 2 2) = V3 at *; refine bodyPost_ret (v := WdM.val ⟨c1, m.b, m.g⟩) (by simp [results, Tryd.results79, go_sem, WdM.val, s10]) rfl ?_
  have hag' : ∀ b, b < WW.heap.size → G1 b = G0 b := fun b hb => HAG.out b hb
  have hg2 : G1 m.g = 2 := (hag' _ (by omega)).trans HGG.out; have hgz : G1 (w.heap.size + 1 + 1) = 0 := (hag' _ (by omega)).trans (HG.out _ (by omega))
  have hk9 : Keeps (Mt G1 0) WW w1 := HKQ.out.more fun b hb ⟨k, hk, e⟩ => ⟨k, hk, (hag' b hb).trans e⟩
  have c2 : ChR G1 1 w1 m.b := ((HB.out.kept HK.out).ext hag').other hk9 (by decide)
  have ng : ∀ i b, (Mt G1 i b ∨ G1 b = 1) → b ≠ m.g := fun i b hb e => by
   subst e
   rcases hb with ⟨k, _, hk⟩ | hb
   ·rw [hg2] at hk
    unfold rl at hk
    omega
   ·rw [hg2] at hb
    cases hb
  have nz : ∀ i b, (Mt G1 i b ∨ G1 b = 1) → b ≠ w.heap.size + 1 + 1 := fun i b hb e => by
   subst e
   rcases hb with ⟨k, _, hk⟩ | hb
   ·rw [hgz] at hk
    unfold rl at hk
    omega
   ·rw [hgz] at hb
    cases hb
  have d1 := (HCH.out.keeps KS.out (fun b hb h => ng 0 b hb h)).keeps kT (fun b hb h => nz 0 b hb h); have d2 := (c2.keeps KS.out (fun b hb h => ng 1 b hb h)).keeps kT (fun b hb h => nz 1 b hb h); have hbf := HBN.out.keeps kT (fun h => by omega); have hkf : Keeps (MtW G) w V3 := ((((HK.out.more (T := MtW G) fun _ _ h => h.elim).then HKQ.out (fun i hi h => .inl (by obtain ⟨k, hk, e⟩ := h; exact ⟨k, hk, by rw [← HG'.out i hi]; exact e⟩))).then KS.out (fun i hi h => .inr (.inr (by rw [h, ← HG'.out _ (by omega)]; exact HGG.out)))).then kT (fun i hi h => by omega)); exact ⟨G1, ⟨c1, m.b, m.g⟩, rfl, ⟨HNX.out.1, HOK.out.b, by have := HNX.out.2.1; have := HOK.out.ka; dsimp only; omega, by have := HOK.out.kb; dsimp only; omega⟩, fun b hb => (hag' b (by omega)).trans (HG'.out b hb), ⟨hbf, hg2, d1, d2⟩, hkf⟩
 ·skip
  go_simp
  refine hK.out _ _ ?_ (fun hHeld2 => ?_)
  ·(try dsimp only); (repeat' apply And.intro) <;> (first | with_reducible assumption | (go_keep; done))
  clear hK K
  try simp only [Act.put, sx]
  refine wpAnyH_ready (rs := [11]) (by kernel_rfl) (by simp) ?_; refine AllReadyH.cons (o := { dst := some 21, op := Op.load 94 (Operand.tmp 20), type := 94, pos := "l21_world.go:113", after := #[{ on := 10, ground := Ground.data }], guard := none }) rfl (fun K hK => ?_) AllReadyH.nil
  go_simp
  refine hK.out _ _ ?_ (fun hHeld2 => ?_)
  ·(try dsimp only); (repeat' apply And.intro) <;> (first | with_reducible assumption | (go_keep; done))
  clear hK K
  try simp only [Act.put, sx]
  refine wpAnyH_ready (rs := [20]) (by kernel_rfl) (by simp) ?_; refine AllReadyH.cons (o := { dst := some 30, op := Op.call { callee := Callee.value (Operand.func 84), args := #[Operand.tmp 21, Operand.tmp 28, Operand.tmp 29], argTypes := #[ 94, 94, 102 ] }, type := 94, pos := "l21_world.go:113", after := #[{ on := 11, ground := Ground.data }, { on := 18, ground := Ground.data }, { on := 19, ground := Ground.data }], guard := none }) rfl (fun K hK => ?_) AllReadyH.nil
  go_simp
  refine (HCL.out _ (HK.out.drewN 1)).mono ?_; rintro e w1 ⟨G1, c1, rfl, hN, hag, hch, hk1⟩; dsimp only [ChM.val]; have HNX := hH hN; have HAG := hH hag; have HCH := hH hch; have hkq := ((Keeps.refl (Mt G0 0) WW).drewN 1).trans hk1
  have hnz : ∀ b, w.heap.size ≤ b → ¬ Mt G0 0 b := fun b hb hm => by obtain ⟨k, _, hk⟩ := hm; rw [HG.out b hb] at hk; unfold rl at hk; omega
  have hng : ¬ Mt G0 0 m.g := fun hm => by obtain ⟨k, _, hk⟩ := hm; rw [HGG.out] at hk; unfold rl at hk; omega
  have HBV1 := hH (HBV.out.keeps hkq (hnz _ (by omega))); have HBE1 := hH (HBE.out.keeps hkq (hnz _ (by omega))); have HBZ1 := hH (HBZ.out.keeps hkq (hnz _ (by omega))); have HBB1 := hH (show Box w1 m.g 94 #[.int .i64 m.a.id, .slice m.a.bk.A1 m.a.bk.b.own.length m.a.bk.c1, .slice m.a.bk.A2 m.a.bk.b.notes.length m.a.bk.c2, .int .i64 m.a.bk.b.locked, .int .i64 m.a.st.x.way, .int .i64 m.a.st.x.ver, .int .i64 m.a.st.x.want, .slice m.a.st.A1 m.a.st.x.sent.length m.a.st.c1, .slice m.a.st.A2 m.a.st.x.live.length m.a.st.c2, .slice m.a.st.A3 m.a.st.x.back.length m.a.st.c3, .slice m.a.st.A4 m.a.st.x.got.length m.a.st.c4, .slice m.a.pA m.a.past.length m.a.pc, .slice m.a.kA m.a.knows.length m.a.kc, .int .i64 m.b.id, .slice m.b.bk.A1 m.b.bk.b.own.length m.b.bk.c1, .slice m.b.bk.A2 m.b.bk.b.notes.length m.b.bk.c2, .int .i64 m.b.bk.b.locked, .int .i64 m.b.st.x.way, .int .i64 m.b.st.x.ver, .int .i64 m.b.st.x.want, .slice m.b.st.A1 m.b.st.x.sent.length m.b.st.c1, .slice m.b.st.A2 m.b.st.x.live.length m.b.st.c2, .slice m.b.st.A3 m.b.st.x.back.length m.b.st.c3, .slice m.b.st.A4 m.b.st.x.got.length m.b.st.c4, .slice m.b.pA m.b.past.length m.b.pc, .slice m.b.kA m.b.knows.length m.b.kc] from (HBB.out.keeps HK.out (fun h => h)).keeps hkq hng); have HKQ := hH hkq; have sz1 := hkq.size; clear hk1 hN hag hch V0 E0 E1 E2 E3 E4 E5 E6 E7 E8 E9 E10 g0 g1 g2 g3 g4 g5 g6 g7 g8 g9 g10 g11 g12 g13 g14 g15 g16 g17 g18 g19 g20 g21 g22 g23 g24 g25; have hv := HBV1.out; have V0 := hv.cell 0; have he := HBE1.out; have E0 := he.cell 0; have E1 := he.cell 1; have E2 := he.cell 2; have E3 := he.cell 3; have E4 := he.cell 4; have E5 := he.cell 5; have E6 := he.cell 6; have E7 := he.cell 7; have E8 := he.cell 8; have E9 := he.cell 9; have E10 := he.cell 10; simp at V0 E0 E1 E2 E3 E4 E5 E6 E7 E8 E9 E10; clear hv he; have hb9 := HBB1.out; have g0 := hb9.cell 0; have g1 := hb9.cell 1; have g2 := hb9.cell 2; have g3 := hb9.cell 3; have g4 := hb9.cell 4; have g5 := hb9.cell 5; have g6 := hb9.cell 6; have g7 := hb9.cell 7; have g8 := hb9.cell 8; have g9 := hb9.cell 9; have g10 := hb9.cell 10; have g11 := hb9.cell 11; have g12 := hb9.cell 12; have g13 := hb9.cell 13; have g14 := hb9.cell 14; have g15 := hb9.cell 15; have g16 := hb9.cell 16; have g17 := hb9.cell 17; have g18 := hb9.cell 18; have g19 := hb9.cell 19; have g20 := hb9.cell 20; have g21 := hb9.cell 21; have g22 := hb9.cell 22; have g23 := hb9.cell 23; have g24 := hb9.cell 24; have g25 := hb9.cell 25; simp at g0 g1 g2 g3 g4 g5 g6 g7 g8 g9 g10 g11 g12 g13 g14 g15 g16 g17 g18 g19 g20 g21 g22 g23 g24 g25; obtain ⟨gf0, gf1, gf2, gf3, gf4, gf5, gf6, gf7, gf8, gf9, gf10, gf11, gf12⟩ := hb9.fz13; have zg := hb9.lt; clear hb9 hkq; refine hK.out _ _ ?_ (fun hHeld2 => ?_)
  ·(try dsimp only); (repeat' apply And.intro) <;> (first | with_reducible assumption | (go_keep; done))
  clear hK K
  try simp only [Act.put, sx]
  refine wpAnyH_ready (rs := [21]) (by kernel_rfl) (by simp) ?_; refine AllReadyH.cons (o := { dst := some 31, op := Op.indexAddr 85 (Operand.tmp 11) (Operand.tmp 14), type := 0, pos := "l21_world.go:113", after := #[{ on := 1, ground := Ground.data }, { on := 4, ground := Ground.data }, { on := 0, ground := Ground.phase }, { on := 1, ground := Ground.phase }, { on := 2, ground := Ground.phase }, { on := 3, ground := Ground.phase }, { on := 4, ground := Ground.phase }, { on := 5, ground := Ground.phase }, { on := 6, ground := Ground.phase }, { on := 7, ground := Ground.phase }, { on := 8, ground := Ground.phase }, { on := 9, ground := Ground.phase }, { on := 10, ground := Ground.phase }, { on := 11, ground := Ground.phase }, { on := 12, ground := Ground.phase }, { on := 13, ground := Ground.phase }, { on := 14, ground := Ground.phase }, { on := 15, ground := Ground.phase }, { on := 16, ground := Ground.phase }, { on := 17, ground := Ground.phase }, { on := 18, ground := Ground.phase }, { on := 19, ground := Ground.phase }, { on := 20, ground := Ground.phase }], guard := none }) rfl (fun K hK => ?_) AllReadyH.nil
  go_simp
  refine hK.out _ _ ?_ (fun hHeld2 => ?_)
  ·(try dsimp only); (repeat' apply And.intro) <;> (first | with_reducible assumption | (go_keep; done))
  clear hK K
  try simp only [Act.put, sx]
  refine wpAnyH_ready (rs := [22]) (by kernel_rfl) (by simp) ?_; refine AllReadyH.cons (o := { dst := none, op := Op.store 94 (Operand.tmp 31) (Operand.tmp 30), type := 0, pos := "l21_world.go:113", after := #[{ on := 21, ground := Ground.data }, { on := 20, ground := Ground.data }, { on := 20, ground := Ground.chain }, { on := 0, ground := Ground.phase }, { on := 1, ground := Ground.phase }, { on := 2, ground := Ground.phase }, { on := 3, ground := Ground.phase }, { on := 4, ground := Ground.phase }, { on := 5, ground := Ground.phase }, { on := 6, ground := Ground.phase }, { on := 7, ground := Ground.phase }, { on := 8, ground := Ground.phase }, { on := 9, ground := Ground.phase }, { on := 10, ground := Ground.phase }, { on := 11, ground := Ground.phase }, { on := 12, ground := Ground.phase }, { on := 13, ground := Ground.phase }, { on := 14, ground := Ground.phase }, { on := 15, ground := Ground.phase }, { on := 16, ground := Ground.phase }, { on := 17, ground := Ground.phase }, { on := 18, ground := Ground.phase }, { on := 19, ground := Ground.phase }, { on := 20, ground := Ground.phase }], guard := none }) rfl (fun K hK => ?_) AllReadyH.nil
  go_simp
  refine hK.out _ _ ?_ (fun hHeld2 => ?_)
  ·(try dsimp only); (repeat' apply And.intro) <;> (first | with_reducible assumption | (go_keep; done) | ((repeat rw [World.cell?_setCell_other _ _ _ _ (by intro e; injection e with e _; omega)]); with_reducible assumption))
  clear hK K
  try simp only [Act.put, sx]
  refine wpAnyH_done (by kernel_rfl) ?_ _
  try clear hHeld2
  try clear hHeld
  have kS : Keeps (fun b => b = m.g) w1 (((((((((((((w1.setCell ⟨m.g, 0, none⟩ (.int .i64 c1.id)).setCell ⟨m.g, 1, none⟩ (.slice c1.bk.A1 c1.bk.b.own.length c1.bk.c1)).setCell ⟨m.g, 2, none⟩ (.slice c1.bk.A2 c1.bk.b.notes.length c1.bk.c2)).setCell ⟨m.g, 3, none⟩ (.int .i64 c1.bk.b.locked)).setCell ⟨m.g, 4, none⟩ (.int .i64 c1.st.x.way)).setCell ⟨m.g, 5, none⟩ (.int .i64 c1.st.x.ver)).setCell ⟨m.g, 6, none⟩ (.int .i64 c1.st.x.want)).setCell ⟨m.g, 7, none⟩ (.slice c1.st.A1 c1.st.x.sent.length c1.st.c1)).setCell ⟨m.g, 8, none⟩ (.slice c1.st.A2 c1.st.x.live.length c1.st.c2)).setCell ⟨m.g, 9, none⟩ (.slice c1.st.A3 c1.st.x.back.length c1.st.c3)).setCell ⟨m.g, 10, none⟩ (.slice c1.st.A4 c1.st.x.got.length c1.st.c4)).setCell ⟨m.g, 11, none⟩ (.slice c1.pA c1.past.length c1.pc)).setCell ⟨m.g, 12, none⟩ (.slice c1.kA c1.knows.length c1.kc)) := ((((((((((((((Keeps.refl (fun b => b = m.g) w1).setCell (p := ⟨m.g, 0, none⟩) (.inr rfl) (.int .i64 c1.id)).setCell (p := ⟨m.g, 1, none⟩) (.inr rfl) (.slice c1.bk.A1 c1.bk.b.own.length c1.bk.c1)).setCell (p := ⟨m.g, 2, none⟩) (.inr rfl) (.slice c1.bk.A2 c1.bk.b.notes.length c1.bk.c2)).setCell (p := ⟨m.g, 3, none⟩) (.inr rfl) (.int .i64 c1.bk.b.locked)).setCell (p := ⟨m.g, 4, none⟩) (.inr rfl) (.int .i64 c1.st.x.way)).setCell (p := ⟨m.g, 5, none⟩) (.inr rfl) (.int .i64 c1.st.x.ver)).setCell (p := ⟨m.g, 6, none⟩) (.inr rfl) (.int .i64 c1.st.x.want)).setCell (p := ⟨m.g, 7, none⟩) (.inr rfl) (.slice c1.st.A1 c1.st.x.sent.length c1.st.c1)).setCell (p := ⟨m.g, 8, none⟩) (.inr rfl) (.slice c1.st.A2 c1.st.x.live.length c1.st.c2)).setCell (p := ⟨m.g, 9, none⟩) (.inr rfl) (.slice c1.st.A3 c1.st.x.back.length c1.st.c3)).setCell (p := ⟨m.g, 10, none⟩) (.inr rfl) (.slice c1.st.A4 c1.st.x.got.length c1.st.c4)).setCell (p := ⟨m.g, 11, none⟩) (.inr rfl) (.slice c1.pA c1.past.length c1.pc)).setCell (p := ⟨m.g, 12, none⟩) (.inr rfl) (.slice c1.kA c1.knows.length c1.kc)); have hbn := (((((((((((((HBB1.out.set_ 0 (.int .i64 c1.id)).set_ 1 (.slice c1.bk.A1 c1.bk.b.own.length c1.bk.c1)).set_ 2 (.slice c1.bk.A2 c1.bk.b.notes.length c1.bk.c2)).set_ 3 (.int .i64 c1.bk.b.locked)).set_ 4 (.int .i64 c1.st.x.way)).set_ 5 (.int .i64 c1.st.x.ver)).set_ 6 (.int .i64 c1.st.x.want)).set_ 7 (.slice c1.st.A1 c1.st.x.sent.length c1.st.c1)).set_ 8 (.slice c1.st.A2 c1.st.x.live.length c1.st.c2)).set_ 9 (.slice c1.st.A3 c1.st.x.back.length c1.st.c3)).set_ 10 (.slice c1.st.A4 c1.st.x.got.length c1.st.c4)).set_ 11 (.slice c1.pA c1.past.length c1.pc)).set_ 12 (.slice c1.kA c1.knows.length c1.kc)); simp only [sx] at hbn; have HBN := hH hbn; clear hbn; have HBV2 := hH (HBV1.out.keeps kS fun h => by omega); have HBZ2 := hH (HBZ1.out.keeps kS fun h => by omega); have KS := hH kS; clear kS V0 E0 E1 E2 E3 E4 E5 E6 E7 E8 E9 E10 g0 g1 g2 g3 g4 g5 g6 g7 g8 g9 g10 g11 g12 g13 g14 g15 g16 g17 g18 g19 g20 g21 g22 g23 g24 g25 gf0 gf1 gf2 gf3 gf4 gf5 gf6 gf7 gf8 gf9 gf10 gf11 gf12; generalize (((((((((((((w1.setCell ⟨m.g, 0, none⟩ (.int .i64 c1.id)).setCell ⟨m.g, 1, none⟩ (.slice c1.bk.A1 c1.bk.b.own.length c1.bk.c1)).setCell ⟨m.g, 2, none⟩ (.slice c1.bk.A2 c1.bk.b.notes.length c1.bk.c2)).setCell ⟨m.g, 3, none⟩ (.int .i64 c1.bk.b.locked)).setCell ⟨m.g, 4, none⟩ (.int .i64 c1.st.x.way)).setCell ⟨m.g, 5, none⟩ (.int .i64 c1.st.x.ver)).setCell ⟨m.g, 6, none⟩ (.int .i64 c1.st.x.want)).setCell ⟨m.g, 7, none⟩ (.slice c1.st.A1 c1.st.x.sent.length c1.st.c1)).setCell ⟨m.g, 8, none⟩ (.slice c1.st.A2 c1.st.x.live.length c1.st.c2)).setCell ⟨m.g, 9, none⟩ (.slice c1.st.A3 c1.st.x.back.length c1.st.c3)).setCell ⟨m.g, 10, none⟩ (.slice c1.st.A4 c1.st.x.got.length c1.st.c4)).setCell ⟨m.g, 11, none⟩ (.slice c1.pA c1.past.length c1.pc)).setCell ⟨m.g, 12, none⟩ (.slice c1.kA c1.knows.length c1.kc)) = V2 at *; have hv := HBV2.out; have V0 := hv.cell 0; have hz9 := HBZ2.out; have Z0 := hz9.cell 0; have Zf := hz9.frozen 0
  simp at V0 Z0; have zz := hz9.lt; clear hv hz9; go_wp2; have kT : Keeps (fun b => b = w.heap.size + 1 + 1) V2 (V2.setCell ⟨w.heap.size + 1 + 1, 0, none⟩ (.slice (some ⟨m.g, 0, none⟩) 2 2)) := (Keeps.refl (fun b => b = w.heap.size + 1 + 1) V2).setCell (p := ⟨w.heap.size + 1 + 1, 0, none⟩) (.inr rfl) _; have hbz := HBZ2.out.set_ 0 (.slice (some ⟨m.g, 0, none⟩) 2 2); simp only [sx] at hbz; have s10 := hbz.cell 0; simp at s10; clear hbz; generalize V2.setCell ⟨w.heap.size + 1 + 1, 0, none⟩ (.slice (some ⟨m.g, 0, none⟩) 2 2) = V3 at *; refine bodyPost_ret (v := WdM.val ⟨c1, m.b, m.g⟩) (by simp [results, Tryd.results79, go_sem, WdM.val, s10]) rfl ?_
  have hag' : ∀ b, b < WW.heap.size → G1 b = G0 b := fun b hb => HAG.out b hb
  have hg2 : G1 m.g = 2 := (hag' _ (by omega)).trans HGG.out; have hgz : G1 (w.heap.size + 1 + 1) = 0 := (hag' _ (by omega)).trans (HG.out _ (by omega))
  have hk9 : Keeps (Mt G1 0) WW w1 := HKQ.out.more fun b hb ⟨k, hk, e⟩ => ⟨k, hk, (hag' b hb).trans e⟩
  have c2 : ChR G1 1 w1 m.b := ((HB.out.kept HK.out).ext hag').other hk9 (by decide)
  have ng : ∀ i b, (Mt G1 i b ∨ G1 b = 1) → b ≠ m.g := fun i b hb e => by
   subst e
   rcases hb with ⟨k, _, hk⟩ | hb
   ·rw [hg2] at hk
    unfold rl at hk
    omega
   ·rw [hg2] at hb
    cases hb
  have nz : ∀ i b, (Mt G1 i b ∨ G1 b = 1) → b ≠ w.heap.size + 1 + 1 := fun i b hb e => by
   subst e
   rcases hb with ⟨k, _, hk⟩ | hb
   ·rw [hgz] at hk
    unfold rl at hk
    omega
   ·rw [hgz] at hb
    cases hb
  have d1 := (HCH.out.keeps KS.out (fun b hb h => ng 0 b hb h)).keeps kT (fun b hb h => nz 0 b hb h); have d2 := (c2.keeps KS.out (fun b hb h => ng 1 b hb h)).keeps kT (fun b hb h => nz 1 b hb h); have hbf := HBN.out.keeps kT (fun h => by omega); have hkf : Keeps (MtW G) w V3 := ((((HK.out.more (T := MtW G) fun _ _ h => h.elim).then HKQ.out (fun i hi h => .inl (by obtain ⟨k, hk, e⟩ := h; exact ⟨k, hk, by rw [← HG'.out i hi]; exact e⟩))).then KS.out (fun i hi h => .inr (.inr (by rw [h, ← HG'.out _ (by omega)]; exact HGG.out)))).then kT (fun i hi h => by omega)); exact ⟨G1, ⟨c1, m.b, m.g⟩, rfl, ⟨HNX.out.1, HOK.out.b, by have := HNX.out.2.1; have := HOK.out.ka; dsimp only; omega, by have := HOK.out.kb; dsimp only; omega⟩, fun b hb => (hag' b (by omega)).trans (HG'.out b hb), ⟨hbf, hg2, d1, d2⟩, hkf⟩
theorem l21Do_2 (G : Nat → Nat) (m : WdM) (kd h n : Int) (p : Pk) (q : Nat) (w : World) (hw : WdR G w m) (ok : WdOk m q)
  (hcl : ∀ G0 : Nat → Nat, ∀ W, ChR G0 1 W m.b → ChR G0 0 W m.a → Calls Tryd.prog 84 #[m.b.val, m.a.val, Ev.val ⟨kd, 2, h, n, p⟩] W (RetCh G0 1 W (Nxt m.b))) :
  Calls Tryd.prog 79 #[m.val, Ev.val ⟨kd, 2, h, n, p⟩] w (RetWd G w (q + 1)) := by
 obtain ⟨hb, hg, ha, hbb⟩ := hw
 have ha := ha.ext (G' := up G w.heap.size 0) fun b hb => up_old hb
 have hbb := hbb.ext (G' := up G w.heap.size 0) fun b hb => up_old hb
 have hg0 : up G w.heap.size 0 m.g = 2 := by rw [up_old hb.lt]; exact hg
 have HG := hH (show ∀ b, w.heap.size ≤ b → up G w.heap.size 0 b = 0 from fun b hb => up_new hb); have HG' := hH (show ∀ b, b < w.heap.size → up G w.heap.size 0 b = G b from fun b hb => up_old hb); generalize up G w.heap.size 0 = G0 at ha hbb hg0 HG HG'; have HCL := hH (fun W (hk : Keeps noBlk w W) => hcl G0 W (hbb.kept hk) (ha.kept hk)); have HA := hH ha; have HB := hH hbb; have HGG := hH hg0; have HBB := hH hb; have HOK := hH ok; have lg := hb.lt; have HIN := hH (fun W => (show Calls Tryd.prog 50 #[.int .i64 2, .int .i64 1, .int .i64 2] W (fun e w' => e = .returned (.bool true) ∧ W = w') from l6In_any 2 1 2 W))
 have g0 : w.cell? ⟨m.g, 0, none⟩ = some (.int .i64 m.a.id) := by rw [hb.cell 0]; rfl
 have g1 : w.cell? ⟨m.g, 1, none⟩ = some (.slice m.a.bk.A1 m.a.bk.b.own.length m.a.bk.c1) := by rw [hb.cell 1]; rfl
 have g2 : w.cell? ⟨m.g, 2, none⟩ = some (.slice m.a.bk.A2 m.a.bk.b.notes.length m.a.bk.c2) := by rw [hb.cell 2]; rfl
 have g3 : w.cell? ⟨m.g, 3, none⟩ = some (.int .i64 m.a.bk.b.locked) := by rw [hb.cell 3]; rfl
 have g4 : w.cell? ⟨m.g, 4, none⟩ = some (.int .i64 m.a.st.x.way) := by rw [hb.cell 4]; rfl
 have g5 : w.cell? ⟨m.g, 5, none⟩ = some (.int .i64 m.a.st.x.ver) := by rw [hb.cell 5]; rfl
 have g6 : w.cell? ⟨m.g, 6, none⟩ = some (.int .i64 m.a.st.x.want) := by rw [hb.cell 6]; rfl
 have g7 : w.cell? ⟨m.g, 7, none⟩ = some (.slice m.a.st.A1 m.a.st.x.sent.length m.a.st.c1) := by rw [hb.cell 7]; rfl
 have g8 : w.cell? ⟨m.g, 8, none⟩ = some (.slice m.a.st.A2 m.a.st.x.live.length m.a.st.c2) := by rw [hb.cell 8]; rfl
 have g9 : w.cell? ⟨m.g, 9, none⟩ = some (.slice m.a.st.A3 m.a.st.x.back.length m.a.st.c3) := by rw [hb.cell 9]; rfl
 have g10 : w.cell? ⟨m.g, 10, none⟩ = some (.slice m.a.st.A4 m.a.st.x.got.length m.a.st.c4) := by rw [hb.cell 10]; rfl
 have g11 : w.cell? ⟨m.g, 11, none⟩ = some (.slice m.a.pA m.a.past.length m.a.pc) := by rw [hb.cell 11]; rfl
 have g12 : w.cell? ⟨m.g, 12, none⟩ = some (.slice m.a.kA m.a.knows.length m.a.kc) := by rw [hb.cell 12]; rfl
 have g13 : w.cell? ⟨m.g, 13, none⟩ = some (.int .i64 m.b.id) := by rw [hb.cell 13]; rfl
 have g14 : w.cell? ⟨m.g, 14, none⟩ = some (.slice m.b.bk.A1 m.b.bk.b.own.length m.b.bk.c1) := by rw [hb.cell 14]; rfl
 have g15 : w.cell? ⟨m.g, 15, none⟩ = some (.slice m.b.bk.A2 m.b.bk.b.notes.length m.b.bk.c2) := by rw [hb.cell 15]; rfl
 have g16 : w.cell? ⟨m.g, 16, none⟩ = some (.int .i64 m.b.bk.b.locked) := by rw [hb.cell 16]; rfl
 have g17 : w.cell? ⟨m.g, 17, none⟩ = some (.int .i64 m.b.st.x.way) := by rw [hb.cell 17]; rfl
 have g18 : w.cell? ⟨m.g, 18, none⟩ = some (.int .i64 m.b.st.x.ver) := by rw [hb.cell 18]; rfl
 have g19 : w.cell? ⟨m.g, 19, none⟩ = some (.int .i64 m.b.st.x.want) := by rw [hb.cell 19]; rfl
 have g20 : w.cell? ⟨m.g, 20, none⟩ = some (.slice m.b.st.A1 m.b.st.x.sent.length m.b.st.c1) := by rw [hb.cell 20]; rfl
 have g21 : w.cell? ⟨m.g, 21, none⟩ = some (.slice m.b.st.A2 m.b.st.x.live.length m.b.st.c2) := by rw [hb.cell 21]; rfl
 have g22 : w.cell? ⟨m.g, 22, none⟩ = some (.slice m.b.st.A3 m.b.st.x.back.length m.b.st.c3) := by rw [hb.cell 22]; rfl
 have g23 : w.cell? ⟨m.g, 23, none⟩ = some (.slice m.b.st.A4 m.b.st.x.got.length m.b.st.c4) := by rw [hb.cell 23]; rfl
 have g24 : w.cell? ⟨m.g, 24, none⟩ = some (.slice m.b.pA m.b.past.length m.b.pc) := by rw [hb.cell 24]; rfl
 have g25 : w.cell? ⟨m.g, 25, none⟩ = some (.slice m.b.kA m.b.knows.length m.b.kc) := by rw [hb.cell 25]; rfl
 clear hb hg ha hbb hg0 hcl ok; unfold RetCh at HCL; unfold ChM.val Ev.val at HCL; dsimp only at HCL; have HBV := hH (((Box.new w (w.heap.size) (by simp) 87 #[.slice (some ⟨m.g, 0, none⟩) 2 2]).alloc (.cells (evC kd 2 h n p) 102)).alloc (.cells #[.slice none 0 0] 87)); have HBE := hH ((Box.new (w.alloc (.cells #[.slice (some ⟨m.g, 0, none⟩) 2 2] 87)) (w.heap.size + 1) (by simp) 102 (evC kd 2 h n p)).alloc (.cells #[.slice none 0 0] 87)); have HBZ := hH (Box.new ((w.alloc (.cells #[.slice (some ⟨m.g, 0, none⟩) 2 2] 87)).alloc (.cells (evC kd 2 h n p) 102)) (w.heap.size + 1 + 1) (by simp) 87 #[.slice none 0 0]); have HK := hH ((((Keeps.refl (noBlk) w).alloc (.cells #[.slice (some ⟨m.g, 0, none⟩) 2 2] 87)).alloc (.cells (evC kd 2 h n p) 102)).alloc (.cells #[.slice none 0 0] 87))
 have hsz : w.heap.size + 3 ≤ (((w.alloc (.cells #[.slice (some ⟨m.g, 0, none⟩) 2 2] 87)).alloc (.cells (evC kd 2 h n p) 102)).alloc (.cells #[.slice none 0 0] 87)).heap.size := by simp
 have : ¬ m.g = w.heap.size := by omega
 have : ¬ w.heap.size = m.g := by omega
 have : ¬ m.g = w.heap.size + 1 := by omega
 have : ¬ w.heap.size + 1 = m.g := by omega
 have : ¬ m.g = w.heap.size + 1 + 1 := by omega
 have : ¬ w.heap.size + 1 + 1 = m.g := by omega
 have : m.g < w.heap.size + 1 := by omega
 have : m.g < w.heap.size + 1 + 1 := by omega
 unfold WdM.val Ev.val; dsimp only
 go_enter Tryd.func79, Tryd.ntmps79
 go_wp2_with fail; refine (HIN.out _).mono ?_; rintro e _ ⟨rfl, rfl⟩; go_wp2_with fail; generalize (((w.alloc (.cells #[.slice (some ⟨m.g, 0, none⟩) 2 2] 87)).alloc (.cells (evC kd 2 h n p) 102)).alloc (.cells #[.slice none 0 0] 87)) = WW at HBV HBE HBZ HK hsz ⊢; have hv := HBV.out; have V0 := hv.cell 0; have he := HBE.out; have E0 := he.cell 0; have E1 := he.cell 1; have E2 := he.cell 2; have E3 := he.cell 3; have E4 := he.cell 4; have E5 := he.cell 5; have E6 := he.cell 6; have E7 := he.cell 7; have E8 := he.cell 8; have E9 := he.cell 9; have E10 := he.cell 10; simp at V0 E0 E1 E2 E3 E4 E5 E6 E7 E8 E9 E10; clear hv he; obtain ⟨g0, g1, g2, g3, g4, g5, g6, g7, g8, g9, g10, g11, g12, g13, g14, g15, g16, g17, g18, g19, g20, g21, g22, g23, g24, g25⟩ := kc26 HK.out lg g0 g1 g2 g3 g4 g5 g6 g7 g8 g9 g10 g11 g12 g13 g14 g15 g16 g17 g18 g19 g20 g21 g22 g23 g24 g25; refine wp_region_held_drew (S := (fun w' : World => w'.cell? ⟨w.heap.size, 0, none⟩ = some (.slice (some ⟨m.g, 0, none⟩) 2 2) ∧ w'.cell? ⟨w.heap.size + 1, 0, none⟩ = some (.int .i64 kd) ∧ w'.cell? ⟨w.heap.size + 1, 1, none⟩ = some (.int .i64 2) ∧ w'.cell? ⟨w.heap.size + 1, 2, none⟩ = some (.int .i64 h) ∧ w'.cell? ⟨w.heap.size + 1, 3, none⟩ = some (.int .i64 n) ∧ w'.cell? ⟨w.heap.size + 1, 4, none⟩ = some (.int .i64 p.s) ∧ w'.cell? ⟨w.heap.size + 1, 5, none⟩ = some (.int .i64 p.k) ∧ w'.cell? ⟨w.heap.size + 1, 6, none⟩ = some (.int .i64 p.f) ∧ w'.cell? ⟨w.heap.size + 1, 7, none⟩ = some (.int .i64 p.t) ∧ w'.cell? ⟨w.heap.size + 1, 8, none⟩ = some (.int .i64 p.m) ∧ w'.cell? ⟨w.heap.size + 1, 9, none⟩ = some (.int .i64 p.u) ∧ w'.cell? ⟨w.heap.size + 1, 10, none⟩ = some (.int .i64 p.v))) (by kernel_rfl) ?_ (fun hHeld => ?_)
 ·(try dsimp only); (repeat' apply And.intro) <;> (first | with_reducible assumption | (go_keep; done))
 have hw0 : IntKind.i64.wrap 0 = 0 := rfl; have hw1 : IntKind.i64.wrap 1 = 1 := rfl; refine wpAnyH_take (i := 0) (oi := { dst := some 10, op := Op.fieldAddr 87 (Operand.tmp 2) 0, type := 0, pos := "l21_world.go:113", after := #[], guard := none }) (v := ?_) rfl (by kernel_rfl) (by kernel_rfl) (by kernel_rfl) (fun _ _ _ h => h) (Or.inl ⟨by rfl, ?_⟩) (by assumption) ?_
 rotate_left
 ·intro w9 hSw
  (try dsimp only at hSw)
  go_simp
  try with_reducible rfl
 try simp only [Act.put, sx]
 refine wpAnyH_take (i := 1) (oi := { dst := some 11, op := Op.load 85 (Operand.tmp 10), type := 85, pos := "l21_world.go:113", after := #[{ on := 0, ground := Ground.data }], guard := none }) (v := ?_) rfl (by kernel_rfl) (by kernel_rfl) (by kernel_rfl) (fun _ _ _ h => h) (Or.inl ⟨by rfl, ?_⟩) (by assumption) ?_
 rotate_left
 ·intro w9 hSw
  (try dsimp only at hSw)
  go_simp
  try with_reducible rfl
 try simp only [Act.put, sx]
 refine wpAnyH_take (i := 2) (oi := { dst := some 12, op := Op.fieldAddr 102 (Operand.tmp 3) 1, type := 0, pos := "l21_world.go:113", after := #[], guard := none }) (v := ?_) rfl (by kernel_rfl) (by kernel_rfl) (by kernel_rfl) (fun _ _ _ h => h) (Or.inl ⟨by rfl, ?_⟩) (by assumption) ?_
 rotate_left
 ·intro w9 hSw
  (try dsimp only at hSw)
  go_simp
  try with_reducible rfl
 try simp only [Act.put, sx]
 refine wpAnyH_take (i := 3) (oi := { dst := some 13, op := Op.load 3 (Operand.tmp 12), type := 3, pos := "l21_world.go:113", after := #[{ on := 2, ground := Ground.data }], guard := none }) (v := ?_) rfl (by kernel_rfl) (by kernel_rfl) (by kernel_rfl) (fun _ _ _ h => h) (Or.inl ⟨by rfl, ?_⟩) (by assumption) ?_
 rotate_left
 ·intro w9 hSw
  (try dsimp only at hSw)
  go_simp
  try with_reducible rfl
 try simp only [Act.put, sx]
 refine wpAnyH_take (i := 4) (oi := { dst := some 14, op := Op.binOp BinOp.sub 3 (Operand.tmp 13) (Operand.const (Value.int IntKind.i64 1)) 3, type := 3, pos := "l21_world.go:113", after := #[{ on := 3, ground := Ground.data }], guard := none }) (v := ?_) rfl (by kernel_rfl) (by kernel_rfl) (by kernel_rfl) (fun _ _ _ h => h) (Or.inl ⟨by rfl, ?_⟩) (by assumption) ?_
 rotate_left
 ·intro w9 hSw
  (try dsimp only at hSw)
  go_simp
  try with_reducible rfl
 try simp only [Act.put, sx]
 refine wpAnyH_take (i := 5) (oi := { dst := some 15, op := Op.fieldAddr 87 (Operand.tmp 2) 0, type := 0, pos := "l21_world.go:113", after := #[], guard := none }) (v := ?_) rfl (by kernel_rfl) (by kernel_rfl) (by kernel_rfl) (fun _ _ _ h => h) (Or.inl ⟨by rfl, ?_⟩) (by assumption) ?_
 rotate_left
 ·intro w9 hSw
  (try dsimp only at hSw)
  go_simp
  try with_reducible rfl
 try simp only [Act.put, sx]
 refine wpAnyH_take (i := 6) (oi := { dst := some 16, op := Op.load 85 (Operand.tmp 15), type := 85, pos := "l21_world.go:113", after := #[{ on := 5, ground := Ground.data }], guard := none }) (v := ?_) rfl (by kernel_rfl) (by kernel_rfl) (by kernel_rfl) (fun _ _ _ h => h) (Or.inl ⟨by rfl, ?_⟩) (by assumption) ?_
 rotate_left
 ·intro w9 hSw
  (try dsimp only at hSw)
  go_simp
  try with_reducible rfl
 try simp only [Act.put, sx]
 refine wpAnyH_take (i := 7) (oi := { dst := some 17, op := Op.fieldAddr 102 (Operand.tmp 3) 1, type := 0, pos := "l21_world.go:113", after := #[], guard := none }) (v := ?_) rfl (by kernel_rfl) (by kernel_rfl) (by kernel_rfl) (fun _ _ _ h => h) (Or.inl ⟨by rfl, ?_⟩) (by assumption) ?_
 rotate_left
 ·intro w9 hSw
  (try dsimp only at hSw)
  go_simp
  try with_reducible rfl
 try simp only [Act.put, sx]
 refine wpAnyH_take (i := 8) (oi := { dst := some 18, op := Op.load 3 (Operand.tmp 17), type := 3, pos := "l21_world.go:113", after := #[{ on := 7, ground := Ground.data }], guard := none }) (v := ?_) rfl (by kernel_rfl) (by kernel_rfl) (by kernel_rfl) (fun _ _ _ h => h) (Or.inl ⟨by rfl, ?_⟩) (by assumption) ?_
 rotate_left
 ·intro w9 hSw
  (try dsimp only at hSw)
  go_simp
  try with_reducible rfl
 try simp only [Act.put, sx]
 refine wpAnyH_take (i := 9) (oi := { dst := some 19, op := Op.binOp BinOp.sub 3 (Operand.tmp 18) (Operand.const (Value.int IntKind.i64 1)) 3, type := 3, pos := "l21_world.go:113", after := #[{ on := 8, ground := Ground.data }], guard := none }) (v := ?_) rfl (by kernel_rfl) (by kernel_rfl) (by kernel_rfl) (fun _ _ _ h => h) (Or.inl ⟨by rfl, ?_⟩) (by assumption) ?_
 rotate_left
 ·intro w9 hSw
  (try dsimp only at hSw)
  go_simp
  try with_reducible rfl
 try simp only [Act.put, sx]
 refine wpAnyH_take (i := 10) (oi := { dst := some 20, op := Op.indexAddr 85 (Operand.tmp 16) (Operand.tmp 19), type := 0, pos := "l21_world.go:113", after := #[{ on := 6, ground := Ground.data }, { on := 9, ground := Ground.data }], guard := none }) (v := ?_) rfl (by kernel_rfl) (by kernel_rfl) (by kernel_rfl) (fun _ _ _ h => h) (Or.inl ⟨by rfl, ?_⟩) (by assumption) ?_
 rotate_left
 ·intro w9 hSw
  (try dsimp only at hSw)
  go_simp
  try with_reducible rfl
 try simp only [Act.put, sx]
 refine wpAnyH_take (i := 12) (oi := { dst := some 22, op := Op.fieldAddr 87 (Operand.tmp 2) 0, type := 0, pos := "l21_world.go:113", after := #[], guard := none }) (v := ?_) rfl (by kernel_rfl) (by kernel_rfl) (by kernel_rfl) (fun _ _ _ h => h) (Or.inl ⟨by rfl, ?_⟩) (by assumption) ?_
 rotate_left
 ·intro w9 hSw
  (try dsimp only at hSw)
  go_simp
  try with_reducible rfl
 try simp only [Act.put, sx]
 refine wpAnyH_take (i := 13) (oi := { dst := some 23, op := Op.load 85 (Operand.tmp 22), type := 85, pos := "l21_world.go:113", after := #[{ on := 12, ground := Ground.data }], guard := none }) (v := ?_) rfl (by kernel_rfl) (by kernel_rfl) (by kernel_rfl) (fun _ _ _ h => h) (Or.inl ⟨by rfl, ?_⟩) (by assumption) ?_
 rotate_left
 ·intro w9 hSw
  (try dsimp only at hSw)
  go_simp
  try with_reducible rfl
 try simp only [Act.put, sx]
 refine wpAnyH_take (i := 14) (oi := { dst := some 24, op := Op.fieldAddr 102 (Operand.tmp 3) 1, type := 0, pos := "l21_world.go:113", after := #[], guard := none }) (v := ?_) rfl (by kernel_rfl) (by kernel_rfl) (by kernel_rfl) (fun _ _ _ h => h) (Or.inl ⟨by rfl, ?_⟩) (by assumption) ?_
 rotate_left
 ·intro w9 hSw
  (try dsimp only at hSw)
  go_simp
  try with_reducible rfl
 try simp only [Act.put, sx]
 refine wpAnyH_take (i := 15) (oi := { dst := some 25, op := Op.load 3 (Operand.tmp 24), type := 3, pos := "l21_world.go:113", after := #[{ on := 14, ground := Ground.data }], guard := none }) (v := ?_) rfl (by kernel_rfl) (by kernel_rfl) (by kernel_rfl) (fun _ _ _ h => h) (Or.inl ⟨by rfl, ?_⟩) (by assumption) ?_
 rotate_left
 ·intro w9 hSw
  (try dsimp only at hSw)
  go_simp
  try with_reducible rfl
 try simp only [Act.put, sx]
 refine wpAnyH_take (i := 16) (oi := { dst := some 26, op := Op.binOp BinOp.sub 3 (Operand.const (Value.int IntKind.i64 2)) (Operand.tmp 25) 3, type := 3, pos := "l21_world.go:113", after := #[{ on := 15, ground := Ground.data }], guard := none }) (v := ?_) rfl (by kernel_rfl) (by kernel_rfl) (by kernel_rfl) (fun _ _ _ h => h) (Or.inl ⟨by rfl, ?_⟩) (by assumption) ?_
 rotate_left
 ·intro w9 hSw
  (try dsimp only at hSw)
  go_simp
  try with_reducible rfl
 try simp only [Act.put, sx]
 refine wpAnyH_take (i := 17) (oi := { dst := some 27, op := Op.indexAddr 85 (Operand.tmp 23) (Operand.tmp 26), type := 0, pos := "l21_world.go:113", after := #[{ on := 13, ground := Ground.data }, { on := 16, ground := Ground.data }], guard := none }) (v := ?_) rfl (by kernel_rfl) (by kernel_rfl) (by kernel_rfl) (fun _ _ _ h => h) (Or.inl ⟨by rfl, ?_⟩) (by assumption) ?_
 rotate_left
 ·intro w9 hSw
  (try dsimp only at hSw)
  go_simp
  try with_reducible rfl
 try simp only [Act.put, sx]
 refine wpAnyH_take (i := 19) (oi := { dst := some 29, op := Op.load 102 (Operand.tmp 3), type := 102, pos := "l21_world.go:113", after := #[], guard := none }) (v := ?_) rfl (by kernel_rfl) (by kernel_rfl) (by kernel_rfl) (fun _ _ _ h => h) (Or.inl ⟨by rfl, ?_⟩) (by assumption) ?_
 rotate_left
 ·intro w9 hSw
  (try dsimp only at hSw)
  go_simp
  try with_reducible rfl
 try simp only [Act.put, sx]
 refine wpAnyH_ready (rs := [11, 18]) (by kernel_rfl) (by simp) ?_; refine AllReadyH.cons (o := { dst := some 21, op := Op.load 94 (Operand.tmp 20), type := 94, pos := "l21_world.go:113", after := #[{ on := 10, ground := Ground.data }], guard := none }) rfl (fun K hK => ?_) (AllReadyH.cons (o := { dst := some 28, op := Op.load 94 (Operand.tmp 27), type := 94, pos := "l21_world.go:113", after := #[{ on := 17, ground := Ground.data }], guard := none }) rfl (fun K hK => ?_) AllReadyH.nil)
 ·skip
  go_simp
  refine hK.out _ _ ?_ (fun hHeld2 => ?_)
  ·(try dsimp only); (repeat' apply And.intro) <;> (first | with_reducible assumption | (go_keep; done))
  clear hK K
  try simp only [Act.put, sx]
  refine wpAnyH_ready (rs := [18]) (by kernel_rfl) (by simp) ?_; refine AllReadyH.cons (o := { dst := some 28, op := Op.load 94 (Operand.tmp 27), type := 94, pos := "l21_world.go:113", after := #[{ on := 17, ground := Ground.data }], guard := none }) rfl (fun K hK => ?_) AllReadyH.nil
  go_simp
  refine hK.out _ _ ?_ (fun hHeld2 => ?_)
  ·(try dsimp only); (repeat' apply And.intro) <;> (first | with_reducible assumption | (go_keep; done))
  clear hK K
  try simp only [Act.put, sx]
  refine wpAnyH_ready (rs := [20]) (by kernel_rfl) (by simp) ?_; refine AllReadyH.cons (o := { dst := some 30, op := Op.call { callee := Callee.value (Operand.func 84), args := #[Operand.tmp 21, Operand.tmp 28, Operand.tmp 29], argTypes := #[ 94, 94, 102 ] }, type := 94, pos := "l21_world.go:113", after := #[{ on := 11, ground := Ground.data }, { on := 18, ground := Ground.data }, { on := 19, ground := Ground.data }], guard := none }) rfl (fun K hK => ?_) AllReadyH.nil
  go_simp
  refine (HCL.out _ (HK.out.drewN 1)).mono ?_; rintro e w1 ⟨G1, c1, rfl, hN, hag, hch, hk1⟩; dsimp only [ChM.val]; have HNX := hH hN; have HAG := hH hag; have HCH := hH hch; have hkq := ((Keeps.refl (Mt G0 1) WW).drewN 1).trans hk1
  have hnz : ∀ b, w.heap.size ≤ b → ¬ Mt G0 1 b := fun b hb hm => by obtain ⟨k, _, hk⟩ := hm; rw [HG.out b hb] at hk; unfold rl at hk; omega
  have hng : ¬ Mt G0 1 m.g := fun hm => by obtain ⟨k, _, hk⟩ := hm; rw [HGG.out] at hk; unfold rl at hk; omega
  have HBV1 := hH (HBV.out.keeps hkq (hnz _ (by omega))); have HBE1 := hH (HBE.out.keeps hkq (hnz _ (by omega))); have HBZ1 := hH (HBZ.out.keeps hkq (hnz _ (by omega))); have HBB1 := hH (show Box w1 m.g 94 #[.int .i64 m.a.id, .slice m.a.bk.A1 m.a.bk.b.own.length m.a.bk.c1, .slice m.a.bk.A2 m.a.bk.b.notes.length m.a.bk.c2, .int .i64 m.a.bk.b.locked, .int .i64 m.a.st.x.way, .int .i64 m.a.st.x.ver, .int .i64 m.a.st.x.want, .slice m.a.st.A1 m.a.st.x.sent.length m.a.st.c1, .slice m.a.st.A2 m.a.st.x.live.length m.a.st.c2, .slice m.a.st.A3 m.a.st.x.back.length m.a.st.c3, .slice m.a.st.A4 m.a.st.x.got.length m.a.st.c4, .slice m.a.pA m.a.past.length m.a.pc, .slice m.a.kA m.a.knows.length m.a.kc, .int .i64 m.b.id, .slice m.b.bk.A1 m.b.bk.b.own.length m.b.bk.c1, .slice m.b.bk.A2 m.b.bk.b.notes.length m.b.bk.c2, .int .i64 m.b.bk.b.locked, .int .i64 m.b.st.x.way, .int .i64 m.b.st.x.ver, .int .i64 m.b.st.x.want, .slice m.b.st.A1 m.b.st.x.sent.length m.b.st.c1, .slice m.b.st.A2 m.b.st.x.live.length m.b.st.c2, .slice m.b.st.A3 m.b.st.x.back.length m.b.st.c3, .slice m.b.st.A4 m.b.st.x.got.length m.b.st.c4, .slice m.b.pA m.b.past.length m.b.pc, .slice m.b.kA m.b.knows.length m.b.kc] from (HBB.out.keeps HK.out (fun h => h)).keeps hkq hng); have HKQ := hH hkq; have sz1 := hkq.size; clear hk1 hN hag hch V0 E0 E1 E2 E3 E4 E5 E6 E7 E8 E9 E10 g0 g1 g2 g3 g4 g5 g6 g7 g8 g9 g10 g11 g12 g13 g14 g15 g16 g17 g18 g19 g20 g21 g22 g23 g24 g25; have hv := HBV1.out; have V0 := hv.cell 0; have he := HBE1.out; have E0 := he.cell 0; have E1 := he.cell 1; have E2 := he.cell 2; have E3 := he.cell 3; have E4 := he.cell 4; have E5 := he.cell 5; have E6 := he.cell 6; have E7 := he.cell 7; have E8 := he.cell 8; have E9 := he.cell 9; have E10 := he.cell 10; simp at V0 E0 E1 E2 E3 E4 E5 E6 E7 E8 E9 E10; clear hv he; have hb9 := HBB1.out; have g0 := hb9.cell 0; have g1 := hb9.cell 1; have g2 := hb9.cell 2; have g3 := hb9.cell 3; have g4 := hb9.cell 4; have g5 := hb9.cell 5; have g6 := hb9.cell 6; have g7 := hb9.cell 7; have g8 := hb9.cell 8; have g9 := hb9.cell 9; have g10 := hb9.cell 10; have g11 := hb9.cell 11; have g12 := hb9.cell 12; have g13 := hb9.cell 13; have g14 := hb9.cell 14; have g15 := hb9.cell 15; have g16 := hb9.cell 16; have g17 := hb9.cell 17; have g18 := hb9.cell 18; have g19 := hb9.cell 19; have g20 := hb9.cell 20; have g21 := hb9.cell 21; have g22 := hb9.cell 22; have g23 := hb9.cell 23; have g24 := hb9.cell 24; have g25 := hb9.cell 25; simp at g0 g1 g2 g3 g4 g5 g6 g7 g8 g9 g10 g11 g12 g13 g14 g15 g16 g17 g18 g19 g20 g21 g22 g23 g24 g25; have gf13 := hb9.frozen 13; have gf14 := hb9.frozen 14; have gf15 := hb9.frozen 15; have gf16 := hb9.frozen 16; have gf17 := hb9.frozen 17; have gf18 := hb9.frozen 18; have gf19 := hb9.frozen 19; have gf20 := hb9.frozen 20; have gf21 := hb9.frozen 21; have gf22 := hb9.frozen 22; have gf23 := hb9.frozen 23; have gf24 := hb9.frozen 24; have gf25 := hb9.frozen 25; have zg := hb9.lt; clear hb9 hkq; refine hK.out _ _ ?_ (fun hHeld2 => ?_)
  ·(try dsimp only); (repeat' apply And.intro) <;> (first | with_reducible assumption | (go_keep; done))
  clear hK K
  try simp only [Act.put, sx]
  refine wpAnyH_ready (rs := [21]) (by kernel_rfl) (by simp) ?_; refine AllReadyH.cons (o := { dst := some 31, op := Op.indexAddr 85 (Operand.tmp 11) (Operand.tmp 14), type := 0, pos := "l21_world.go:113", after := #[{ on := 1, ground := Ground.data }, { on := 4, ground := Ground.data }, { on := 0, ground := Ground.phase }, { on := 1, ground := Ground.phase }, { on := 2, ground := Ground.phase }, { on := 3, ground := Ground.phase }, { on := 4, ground := Ground.phase }, { on := 5, ground := Ground.phase }, { on := 6, ground := Ground.phase }, { on := 7, ground := Ground.phase }, { on := 8, ground := Ground.phase }, { on := 9, ground := Ground.phase }, { on := 10, ground := Ground.phase }, { on := 11, ground := Ground.phase }, { on := 12, ground := Ground.phase }, { on := 13, ground := Ground.phase }, { on := 14, ground := Ground.phase }, { on := 15, ground := Ground.phase }, { on := 16, ground := Ground.phase }, { on := 17, ground := Ground.phase }, { on := 18, ground := Ground.phase }, { on := 19, ground := Ground.phase }, { on := 20, ground := Ground.phase }], guard := none }) rfl (fun K hK => ?_) AllReadyH.nil
  go_simp
  refine hK.out _ _ ?_ (fun hHeld2 => ?_)
  ·(try dsimp only); (repeat' apply And.intro) <;> (first | with_reducible assumption | (go_keep; done))
  clear hK K
  try simp only [Act.put, sx]
  refine wpAnyH_ready (rs := [22]) (by kernel_rfl) (by simp) ?_; refine AllReadyH.cons (o := { dst := none, op := Op.store 94 (Operand.tmp 31) (Operand.tmp 30), type := 0, pos := "l21_world.go:113", after := #[{ on := 21, ground := Ground.data }, { on := 20, ground := Ground.data }, { on := 20, ground := Ground.chain }, { on := 0, ground := Ground.phase }, { on := 1, ground := Ground.phase }, { on := 2, ground := Ground.phase }, { on := 3, ground := Ground.phase }, { on := 4, ground := Ground.phase }, { on := 5, ground := Ground.phase }, { on := 6, ground := Ground.phase }, { on := 7, ground := Ground.phase }, { on := 8, ground := Ground.phase }, { on := 9, ground := Ground.phase }, { on := 10, ground := Ground.phase }, { on := 11, ground := Ground.phase }, { on := 12, ground := Ground.phase }, { on := 13, ground := Ground.phase }, { on := 14, ground := Ground.phase }, { on := 15, ground := Ground.phase }, { on := 16, ground := Ground.phase }, { on := 17, ground := Ground.phase }, { on := 18, ground := Ground.phase }, { on := 19, ground := Ground.phase }, { on := 20, ground := Ground.phase }], guard := none }) rfl (fun K hK => ?_) AllReadyH.nil
  go_simp
  refine hK.out _ _ ?_ (fun hHeld2 => ?_)
  ·(try dsimp only); (repeat' apply And.intro) <;> (first | with_reducible assumption | (go_keep; done) | ((repeat rw [World.cell?_setCell_other _ _ _ _ (by intro e; injection e with e _; omega)]); with_reducible assumption))
  clear hK K
  try simp only [Act.put, sx]
  refine wpAnyH_done (by kernel_rfl) ?_ _
  try clear hHeld2
  try clear hHeld
  have kS : Keeps (fun b => b = m.g) w1 (((((((((((((w1.setCell ⟨m.g, 13, none⟩ (.int .i64 c1.id)).setCell ⟨m.g, 14, none⟩ (.slice c1.bk.A1 c1.bk.b.own.length c1.bk.c1)).setCell ⟨m.g, 15, none⟩ (.slice c1.bk.A2 c1.bk.b.notes.length c1.bk.c2)).setCell ⟨m.g, 16, none⟩ (.int .i64 c1.bk.b.locked)).setCell ⟨m.g, 17, none⟩ (.int .i64 c1.st.x.way)).setCell ⟨m.g, 18, none⟩ (.int .i64 c1.st.x.ver)).setCell ⟨m.g, 19, none⟩ (.int .i64 c1.st.x.want)).setCell ⟨m.g, 20, none⟩ (.slice c1.st.A1 c1.st.x.sent.length c1.st.c1)).setCell ⟨m.g, 21, none⟩ (.slice c1.st.A2 c1.st.x.live.length c1.st.c2)).setCell ⟨m.g, 22, none⟩ (.slice c1.st.A3 c1.st.x.back.length c1.st.c3)).setCell ⟨m.g, 23, none⟩ (.slice c1.st.A4 c1.st.x.got.length c1.st.c4)).setCell ⟨m.g, 24, none⟩ (.slice c1.pA c1.past.length c1.pc)).setCell ⟨m.g, 25, none⟩ (.slice c1.kA c1.knows.length c1.kc)) := ((((((((((((((Keeps.refl (fun b => b = m.g) w1).setCell (p := ⟨m.g, 13, none⟩) (.inr rfl) (.int .i64 c1.id)).setCell (p := ⟨m.g, 14, none⟩) (.inr rfl) (.slice c1.bk.A1 c1.bk.b.own.length c1.bk.c1)).setCell (p := ⟨m.g, 15, none⟩) (.inr rfl) (.slice c1.bk.A2 c1.bk.b.notes.length c1.bk.c2)).setCell (p := ⟨m.g, 16, none⟩) (.inr rfl) (.int .i64 c1.bk.b.locked)).setCell (p := ⟨m.g, 17, none⟩) (.inr rfl) (.int .i64 c1.st.x.way)).setCell (p := ⟨m.g, 18, none⟩) (.inr rfl) (.int .i64 c1.st.x.ver)).setCell (p := ⟨m.g, 19, none⟩) (.inr rfl) (.int .i64 c1.st.x.want)).setCell (p := ⟨m.g, 20, none⟩) (.inr rfl) (.slice c1.st.A1 c1.st.x.sent.length c1.st.c1)).setCell (p := ⟨m.g, 21, none⟩) (.inr rfl) (.slice c1.st.A2 c1.st.x.live.length c1.st.c2)).setCell (p := ⟨m.g, 22, none⟩) (.inr rfl) (.slice c1.st.A3 c1.st.x.back.length c1.st.c3)).setCell (p := ⟨m.g, 23, none⟩) (.inr rfl) (.slice c1.st.A4 c1.st.x.got.length c1.st.c4)).setCell (p := ⟨m.g, 24, none⟩) (.inr rfl) (.slice c1.pA c1.past.length c1.pc)).setCell (p := ⟨m.g, 25, none⟩) (.inr rfl) (.slice c1.kA c1.knows.length c1.kc)); have hbn := (((((((((((((HBB1.out.set_ 13 (.int .i64 c1.id)).set_ 14 (.slice c1.bk.A1 c1.bk.b.own.length c1.bk.c1)).set_ 15 (.slice c1.bk.A2 c1.bk.b.notes.length c1.bk.c2)).set_ 16 (.int .i64 c1.bk.b.locked)).set_ 17 (.int .i64 c1.st.x.way)).set_ 18 (.int .i64 c1.st.x.ver)).set_ 19 (.int .i64 c1.st.x.want)).set_ 20 (.slice c1.st.A1 c1.st.x.sent.length c1.st.c1)).set_ 21 (.slice c1.st.A2 c1.st.x.live.length c1.st.c2)).set_ 22 (.slice c1.st.A3 c1.st.x.back.length c1.st.c3)).set_ 23 (.slice c1.st.A4 c1.st.x.got.length c1.st.c4)).set_ 24 (.slice c1.pA c1.past.length c1.pc)).set_ 25 (.slice c1.kA c1.knows.length c1.kc)); simp only [sx] at hbn; have HBN := hH hbn; clear hbn; have HBV2 := hH (HBV1.out.keeps kS fun h => by omega); have HBZ2 := hH (HBZ1.out.keeps kS fun h => by omega); have KS := hH kS; clear kS V0 E0 E1 E2 E3 E4 E5 E6 E7 E8 E9 E10 g0 g1 g2 g3 g4 g5 g6 g7 g8 g9 g10 g11 g12 g13 g14 g15 g16 g17 g18 g19 g20 g21 g22 g23 g24 g25 gf13 gf14 gf15 gf16 gf17 gf18 gf19 gf20 gf21 gf22 gf23 gf24 gf25; generalize (((((((((((((w1.setCell ⟨m.g, 13, none⟩ (.int .i64 c1.id)).setCell ⟨m.g, 14, none⟩ (.slice c1.bk.A1 c1.bk.b.own.length c1.bk.c1)).setCell ⟨m.g, 15, none⟩ (.slice c1.bk.A2 c1.bk.b.notes.length c1.bk.c2)).setCell ⟨m.g, 16, none⟩ (.int .i64 c1.bk.b.locked)).setCell ⟨m.g, 17, none⟩ (.int .i64 c1.st.x.way)).setCell ⟨m.g, 18, none⟩ (.int .i64 c1.st.x.ver)).setCell ⟨m.g, 19, none⟩ (.int .i64 c1.st.x.want)).setCell ⟨m.g, 20, none⟩ (.slice c1.st.A1 c1.st.x.sent.length c1.st.c1)).setCell ⟨m.g, 21, none⟩ (.slice c1.st.A2 c1.st.x.live.length c1.st.c2)).setCell ⟨m.g, 22, none⟩ (.slice c1.st.A3 c1.st.x.back.length c1.st.c3)).setCell ⟨m.g, 23, none⟩ (.slice c1.st.A4 c1.st.x.got.length c1.st.c4)).setCell ⟨m.g, 24, none⟩ (.slice c1.pA c1.past.length c1.pc)).setCell ⟨m.g, 25, none⟩ (.slice c1.kA c1.knows.length c1.kc)) = V2 at *; have hv := HBV2.out; have V0 := hv.cell 0
  have hz9 := HBZ2.out; have Z0 := hz9.cell 0; have Zf := hz9.frozen 0; simp at V0 Z0; have zz := hz9.lt; clear hv hz9; go_wp2; have kT : Keeps (fun b => b = w.heap.size + 1 + 1) V2 (V2.setCell ⟨w.heap.size + 1 + 1, 0, none⟩ (.slice (some ⟨m.g, 0, none⟩) 2 2)) := (Keeps.refl (fun b => b = w.heap.size + 1 + 1) V2).setCell (p := ⟨w.heap.size + 1 + 1, 0, none⟩) (.inr rfl) _; have hbz := HBZ2.out.set_ 0 (.slice (some ⟨m.g, 0, none⟩) 2 2); simp only [sx] at hbz; have s10 := hbz.cell 0; simp at s10; clear hbz; generalize V2.setCell ⟨w.heap.size + 1 + 1, 0, none⟩ (.slice (some ⟨m.g, 0, none⟩) 2 2) = V3 at *; refine bodyPost_ret (v := WdM.val ⟨m.a, c1, m.g⟩) (by simp [results, Tryd.results79, go_sem, WdM.val, s10]) rfl ?_
  have hag' : ∀ b, b < WW.heap.size → G1 b = G0 b := fun b hb => HAG.out b hb
  have hg2 : G1 m.g = 2 := (hag' _ (by omega)).trans HGG.out; have hgz : G1 (w.heap.size + 1 + 1) = 0 := (hag' _ (by omega)).trans (HG.out _ (by omega))
  have hk9 : Keeps (Mt G1 1) WW w1 := HKQ.out.more fun b hb ⟨k, hk, e⟩ => ⟨k, hk, (hag' b hb).trans e⟩
  have c2 : ChR G1 0 w1 m.a := ((HA.out.kept HK.out).ext hag').other hk9 (by decide)
  have ng : ∀ i b, (Mt G1 i b ∨ G1 b = 1) → b ≠ m.g := fun i b hb e => by
   subst e
   rcases hb with ⟨k, _, hk⟩ | hb
   ·rw [hg2] at hk
    unfold rl at hk
    omega
   ·rw [hg2] at hb
    cases hb
  have nz : ∀ i b, (Mt G1 i b ∨ G1 b = 1) → b ≠ w.heap.size + 1 + 1 := fun i b hb e => by
   subst e
   rcases hb with ⟨k, _, hk⟩ | hb
   ·rw [hgz] at hk
    unfold rl at hk
    omega
   ·rw [hgz] at hb
    cases hb
  have d1 := (HCH.out.keeps KS.out (fun b hb h => ng 1 b hb h)).keeps kT (fun b hb h => nz 1 b hb h); have d2 := (c2.keeps KS.out (fun b hb h => ng 0 b hb h)).keeps kT (fun b hb h => nz 0 b hb h); have hbf := HBN.out.keeps kT (fun h => by omega); have hkf : Keeps (MtW G) w V3 := ((((HK.out.more (T := MtW G) fun _ _ h => h.elim).then HKQ.out (fun i hi h => .inr (.inl (by obtain ⟨k, hk, e⟩ := h; exact ⟨k, hk, by rw [← HG'.out i hi]; exact e⟩)))).then KS.out (fun i hi h => .inr (.inr (by rw [h, ← HG'.out _ (by omega)]; exact HGG.out)))).then kT (fun i hi h => by omega)); exact ⟨G1, ⟨m.a, c1, m.g⟩, rfl, ⟨HOK.out.a, HNX.out.1, by have := HOK.out.ka; dsimp only; omega, by have := HNX.out.2.1; have := HOK.out.kb; dsimp only; omega⟩, fun b hb => (hag' b (by omega)).trans (HG'.out b hb), ⟨hbf, hg2, d2, d1⟩, hkf⟩
 ·skip
  go_simp
  refine hK.out _ _ ?_ (fun hHeld2 => ?_)
  ·(try dsimp only); (repeat' apply And.intro) <;> (first | with_reducible assumption | (go_keep; done))
  clear hK K
  try simp only [Act.put, sx]
  refine wpAnyH_ready (rs := [11]) (by kernel_rfl) (by simp) ?_; refine AllReadyH.cons (o := { dst := some 21, op := Op.load 94 (Operand.tmp 20), type := 94, pos := "l21_world.go:113", after := #[{ on := 10, ground := Ground.data }], guard := none }) rfl (fun K hK => ?_) AllReadyH.nil
  go_simp
  refine hK.out _ _ ?_ (fun hHeld2 => ?_)
  ·(try dsimp only); (repeat' apply And.intro) <;> (first | with_reducible assumption | (go_keep; done))
  clear hK K
  try simp only [Act.put, sx]
  refine wpAnyH_ready (rs := [20]) (by kernel_rfl) (by simp) ?_; refine AllReadyH.cons (o := { dst := some 30, op := Op.call { callee := Callee.value (Operand.func 84), args := #[Operand.tmp 21, Operand.tmp 28, Operand.tmp 29], argTypes := #[ 94, 94, 102 ] }, type := 94, pos := "l21_world.go:113", after := #[{ on := 11, ground := Ground.data }, { on := 18, ground := Ground.data }, { on := 19, ground := Ground.data }], guard := none }) rfl (fun K hK => ?_) AllReadyH.nil
  go_simp
  refine (HCL.out _ (HK.out.drewN 1)).mono ?_; rintro e w1 ⟨G1, c1, rfl, hN, hag, hch, hk1⟩; dsimp only [ChM.val]; have HNX := hH hN; have HAG := hH hag; have HCH := hH hch; have hkq := ((Keeps.refl (Mt G0 1) WW).drewN 1).trans hk1
  have hnz : ∀ b, w.heap.size ≤ b → ¬ Mt G0 1 b := fun b hb hm => by obtain ⟨k, _, hk⟩ := hm; rw [HG.out b hb] at hk; unfold rl at hk; omega
  have hng : ¬ Mt G0 1 m.g := fun hm => by obtain ⟨k, _, hk⟩ := hm; rw [HGG.out] at hk; unfold rl at hk; omega
  have HBV1 := hH (HBV.out.keeps hkq (hnz _ (by omega))); have HBE1 := hH (HBE.out.keeps hkq (hnz _ (by omega))); have HBZ1 := hH (HBZ.out.keeps hkq (hnz _ (by omega))); have HBB1 := hH (show Box w1 m.g 94 #[.int .i64 m.a.id, .slice m.a.bk.A1 m.a.bk.b.own.length m.a.bk.c1, .slice m.a.bk.A2 m.a.bk.b.notes.length m.a.bk.c2, .int .i64 m.a.bk.b.locked, .int .i64 m.a.st.x.way, .int .i64 m.a.st.x.ver, .int .i64 m.a.st.x.want, .slice m.a.st.A1 m.a.st.x.sent.length m.a.st.c1, .slice m.a.st.A2 m.a.st.x.live.length m.a.st.c2, .slice m.a.st.A3 m.a.st.x.back.length m.a.st.c3, .slice m.a.st.A4 m.a.st.x.got.length m.a.st.c4, .slice m.a.pA m.a.past.length m.a.pc, .slice m.a.kA m.a.knows.length m.a.kc, .int .i64 m.b.id, .slice m.b.bk.A1 m.b.bk.b.own.length m.b.bk.c1, .slice m.b.bk.A2 m.b.bk.b.notes.length m.b.bk.c2, .int .i64 m.b.bk.b.locked, .int .i64 m.b.st.x.way, .int .i64 m.b.st.x.ver, .int .i64 m.b.st.x.want, .slice m.b.st.A1 m.b.st.x.sent.length m.b.st.c1, .slice m.b.st.A2 m.b.st.x.live.length m.b.st.c2, .slice m.b.st.A3 m.b.st.x.back.length m.b.st.c3, .slice m.b.st.A4 m.b.st.x.got.length m.b.st.c4, .slice m.b.pA m.b.past.length m.b.pc, .slice m.b.kA m.b.knows.length m.b.kc] from (HBB.out.keeps HK.out (fun h => h)).keeps hkq hng); have HKQ := hH hkq; have sz1 := hkq.size; clear hk1 hN hag hch V0 E0 E1 E2 E3 E4 E5 E6 E7 E8 E9 E10 g0 g1 g2 g3 g4 g5 g6 g7 g8 g9 g10 g11 g12 g13 g14 g15 g16 g17 g18 g19 g20 g21 g22 g23 g24 g25; have hv := HBV1.out; have V0 := hv.cell 0; have he := HBE1.out; have E0 := he.cell 0; have E1 := he.cell 1; have E2 := he.cell 2; have E3 := he.cell 3; have E4 := he.cell 4; have E5 := he.cell 5; have E6 := he.cell 6; have E7 := he.cell 7; have E8 := he.cell 8; have E9 := he.cell 9; have E10 := he.cell 10; simp at V0 E0 E1 E2 E3 E4 E5 E6 E7 E8 E9 E10; clear hv he; have hb9 := HBB1.out; have g0 := hb9.cell 0; have g1 := hb9.cell 1; have g2 := hb9.cell 2; have g3 := hb9.cell 3; have g4 := hb9.cell 4; have g5 := hb9.cell 5; have g6 := hb9.cell 6; have g7 := hb9.cell 7; have g8 := hb9.cell 8; have g9 := hb9.cell 9; have g10 := hb9.cell 10; have g11 := hb9.cell 11; have g12 := hb9.cell 12; have g13 := hb9.cell 13; have g14 := hb9.cell 14; have g15 := hb9.cell 15; have g16 := hb9.cell 16; have g17 := hb9.cell 17; have g18 := hb9.cell 18; have g19 := hb9.cell 19; have g20 := hb9.cell 20; have g21 := hb9.cell 21; have g22 := hb9.cell 22; have g23 := hb9.cell 23; have g24 := hb9.cell 24; have g25 := hb9.cell 25; simp at g0 g1 g2 g3 g4 g5 g6 g7 g8 g9 g10 g11 g12 g13 g14 g15 g16 g17 g18 g19 g20 g21 g22 g23 g24 g25; have gf13 := hb9.frozen 13; have gf14 := hb9.frozen 14; have gf15 := hb9.frozen 15; have gf16 := hb9.frozen 16; have gf17 := hb9.frozen 17; have gf18 := hb9.frozen 18; have gf19 := hb9.frozen 19; have gf20 := hb9.frozen 20; have gf21 := hb9.frozen 21; have gf22 := hb9.frozen 22; have gf23 := hb9.frozen 23; have gf24 := hb9.frozen 24; have gf25 := hb9.frozen 25; have zg := hb9.lt; clear hb9 hkq; refine hK.out _ _ ?_ (fun hHeld2 => ?_)
  ·(try dsimp only); (repeat' apply And.intro) <;> (first | with_reducible assumption | (go_keep; done))
  clear hK K
  try simp only [Act.put, sx]
  refine wpAnyH_ready (rs := [21]) (by kernel_rfl) (by simp) ?_; refine AllReadyH.cons (o := { dst := some 31, op := Op.indexAddr 85 (Operand.tmp 11) (Operand.tmp 14), type := 0, pos := "l21_world.go:113", after := #[{ on := 1, ground := Ground.data }, { on := 4, ground := Ground.data }, { on := 0, ground := Ground.phase }, { on := 1, ground := Ground.phase }, { on := 2, ground := Ground.phase }, { on := 3, ground := Ground.phase }, { on := 4, ground := Ground.phase }, { on := 5, ground := Ground.phase }, { on := 6, ground := Ground.phase }, { on := 7, ground := Ground.phase }, { on := 8, ground := Ground.phase }, { on := 9, ground := Ground.phase }, { on := 10, ground := Ground.phase }, { on := 11, ground := Ground.phase }, { on := 12, ground := Ground.phase }, { on := 13, ground := Ground.phase }, { on := 14, ground := Ground.phase }, { on := 15, ground := Ground.phase }, { on := 16, ground := Ground.phase }, { on := 17, ground := Ground.phase }, { on := 18, ground := Ground.phase }, { on := 19, ground := Ground.phase }, { on := 20, ground := Ground.phase }], guard := none }) rfl (fun K hK => ?_) AllReadyH.nil
  go_simp
  refine hK.out _ _ ?_ (fun hHeld2 => ?_)
  ·(try dsimp only); (repeat' apply And.intro) <;> (first | with_reducible assumption | (go_keep; done))
  clear hK K
  try simp only [Act.put, sx]
  refine wpAnyH_ready (rs := [22]) (by kernel_rfl) (by simp) ?_; refine AllReadyH.cons (o := { dst := none, op := Op.store 94 (Operand.tmp 31) (Operand.tmp 30), type := 0, pos := "l21_world.go:113", after := #[{ on := 21, ground := Ground.data }, { on := 20, ground := Ground.data }, { on := 20, ground := Ground.chain }, { on := 0, ground := Ground.phase }, { on := 1, ground := Ground.phase }, { on := 2, ground := Ground.phase }, { on := 3, ground := Ground.phase }, { on := 4, ground := Ground.phase }, { on := 5, ground := Ground.phase }, { on := 6, ground := Ground.phase }, { on := 7, ground := Ground.phase }, { on := 8, ground := Ground.phase }, { on := 9, ground := Ground.phase }, { on := 10, ground := Ground.phase }, { on := 11, ground := Ground.phase }, { on := 12, ground := Ground.phase }, { on := 13, ground := Ground.phase }, { on := 14, ground := Ground.phase }, { on := 15, ground := Ground.phase }, { on := 16, ground := Ground.phase }, { on := 17, ground := Ground.phase }, { on := 18, ground := Ground.phase }, { on := 19, ground := Ground.phase }, { on := 20, ground := Ground.phase }], guard := none }) rfl (fun K hK => ?_) AllReadyH.nil
  go_simp
  refine hK.out _ _ ?_ (fun hHeld2 => ?_)
  ·(try dsimp only); (repeat' apply And.intro) <;> (first | with_reducible assumption | (go_keep; done) | ((repeat rw [World.cell?_setCell_other _ _ _ _ (by intro e; injection e with e _; omega)]); with_reducible assumption))
  clear hK K
  try simp only [Act.put, sx]
  refine wpAnyH_done (by kernel_rfl) ?_ _
  try clear hHeld2
  try clear hHeld
  have kS : Keeps (fun b => b = m.g) w1 (((((((((((((w1.setCell ⟨m.g, 13, none⟩ (.int .i64 c1.id)).setCell ⟨m.g, 14, none⟩ (.slice c1.bk.A1 c1.bk.b.own.length c1.bk.c1)).setCell ⟨m.g, 15, none⟩ (.slice c1.bk.A2 c1.bk.b.notes.length c1.bk.c2)).setCell ⟨m.g, 16, none⟩ (.int .i64 c1.bk.b.locked)).setCell ⟨m.g, 17, none⟩ (.int .i64 c1.st.x.way)).setCell ⟨m.g, 18, none⟩ (.int .i64 c1.st.x.ver)).setCell ⟨m.g, 19, none⟩ (.int .i64 c1.st.x.want)).setCell ⟨m.g, 20, none⟩ (.slice c1.st.A1 c1.st.x.sent.length c1.st.c1)).setCell ⟨m.g, 21, none⟩ (.slice c1.st.A2 c1.st.x.live.length c1.st.c2)).setCell ⟨m.g, 22, none⟩ (.slice c1.st.A3 c1.st.x.back.length c1.st.c3)).setCell ⟨m.g, 23, none⟩ (.slice c1.st.A4 c1.st.x.got.length c1.st.c4)).setCell ⟨m.g, 24, none⟩ (.slice c1.pA c1.past.length c1.pc)).setCell ⟨m.g, 25, none⟩ (.slice c1.kA c1.knows.length c1.kc)) := ((((((((((((((Keeps.refl (fun b => b = m.g) w1).setCell (p := ⟨m.g, 13, none⟩) (.inr rfl) (.int .i64 c1.id)).setCell (p := ⟨m.g, 14, none⟩) (.inr rfl) (.slice c1.bk.A1 c1.bk.b.own.length c1.bk.c1)).setCell (p := ⟨m.g, 15, none⟩) (.inr rfl) (.slice c1.bk.A2 c1.bk.b.notes.length c1.bk.c2)).setCell (p := ⟨m.g, 16, none⟩) (.inr rfl) (.int .i64 c1.bk.b.locked)).setCell (p := ⟨m.g, 17, none⟩) (.inr rfl) (.int .i64 c1.st.x.way)).setCell (p := ⟨m.g, 18, none⟩) (.inr rfl) (.int .i64 c1.st.x.ver)).setCell (p := ⟨m.g, 19, none⟩) (.inr rfl) (.int .i64 c1.st.x.want)).setCell (p := ⟨m.g, 20, none⟩) (.inr rfl) (.slice c1.st.A1 c1.st.x.sent.length c1.st.c1)).setCell (p := ⟨m.g, 21, none⟩) (.inr rfl) (.slice c1.st.A2 c1.st.x.live.length c1.st.c2)).setCell (p := ⟨m.g, 22, none⟩) (.inr rfl) (.slice c1.st.A3 c1.st.x.back.length c1.st.c3)).setCell (p := ⟨m.g, 23, none⟩) (.inr rfl) (.slice c1.st.A4 c1.st.x.got.length c1.st.c4)).setCell (p := ⟨m.g, 24, none⟩) (.inr rfl) (.slice c1.pA c1.past.length c1.pc)).setCell (p := ⟨m.g, 25, none⟩) (.inr rfl) (.slice c1.kA c1.knows.length c1.kc)); have hbn := (((((((((((((HBB1.out.set_ 13 (.int .i64 c1.id)).set_ 14 (.slice c1.bk.A1 c1.bk.b.own.length c1.bk.c1)).set_ 15 (.slice c1.bk.A2 c1.bk.b.notes.length c1.bk.c2)).set_ 16 (.int .i64 c1.bk.b.locked)).set_ 17 (.int .i64 c1.st.x.way)).set_ 18 (.int .i64 c1.st.x.ver)).set_ 19 (.int .i64 c1.st.x.want)).set_ 20 (.slice c1.st.A1 c1.st.x.sent.length c1.st.c1)).set_ 21 (.slice c1.st.A2 c1.st.x.live.length c1.st.c2)).set_ 22 (.slice c1.st.A3 c1.st.x.back.length c1.st.c3)).set_ 23 (.slice c1.st.A4 c1.st.x.got.length c1.st.c4)).set_ 24 (.slice c1.pA c1.past.length c1.pc)).set_ 25 (.slice c1.kA c1.knows.length c1.kc)); simp only [sx] at hbn; have HBN := hH hbn; clear hbn; have HBV2 := hH (HBV1.out.keeps kS fun h => by omega); have HBZ2 := hH (HBZ1.out.keeps kS fun h => by omega); have KS := hH kS; clear kS V0 E0 E1 E2 E3 E4 E5 E6 E7 E8 E9 E10 g0 g1 g2 g3 g4 g5 g6 g7 g8 g9 g10 g11 g12 g13 g14 g15 g16 g17 g18 g19 g20 g21 g22 g23 g24 g25 gf13 gf14 gf15 gf16 gf17 gf18 gf19 gf20 gf21 gf22 gf23 gf24 gf25; generalize (((((((((((((w1.setCell ⟨m.g, 13, none⟩ (.int .i64 c1.id)).setCell ⟨m.g, 14, none⟩ (.slice c1.bk.A1 c1.bk.b.own.length c1.bk.c1)).setCell ⟨m.g, 15, none⟩ (.slice c1.bk.A2 c1.bk.b.notes.length c1.bk.c2)).setCell ⟨m.g, 16, none⟩ (.int .i64 c1.bk.b.locked)).setCell ⟨m.g, 17, none⟩ (.int .i64 c1.st.x.way)).setCell ⟨m.g, 18, none⟩ (.int .i64 c1.st.x.ver)).setCell ⟨m.g, 19, none⟩ (.int .i64 c1.st.x.want)).setCell ⟨m.g, 20, none⟩ (.slice c1.st.A1 c1.st.x.sent.length c1.st.c1)).setCell ⟨m.g, 21, none⟩ (.slice c1.st.A2 c1.st.x.live.length c1.st.c2)).setCell ⟨m.g, 22, none⟩ (.slice c1.st.A3 c1.st.x.back.length c1.st.c3)).setCell ⟨m.g, 23, none⟩ (.slice c1.st.A4 c1.st.x.got.length c1.st.c4)).setCell ⟨m.g, 24, none⟩ (.slice c1.pA c1.past.length c1.pc)).setCell ⟨m.g, 25, none⟩ (.slice c1.kA c1.knows.length c1.kc)) = V2 at *; have hv := HBV2.out; have V0 := hv.cell 0
  have hz9 := HBZ2.out; have Z0 := hz9.cell 0; have Zf := hz9.frozen 0; simp at V0 Z0; have zz := hz9.lt; clear hv hz9; go_wp2; have kT : Keeps (fun b => b = w.heap.size + 1 + 1) V2 (V2.setCell ⟨w.heap.size + 1 + 1, 0, none⟩ (.slice (some ⟨m.g, 0, none⟩) 2 2)) := (Keeps.refl (fun b => b = w.heap.size + 1 + 1) V2).setCell (p := ⟨w.heap.size + 1 + 1, 0, none⟩) (.inr rfl) _; have hbz := HBZ2.out.set_ 0 (.slice (some ⟨m.g, 0, none⟩) 2 2); simp only [sx] at hbz; have s10 := hbz.cell 0; simp at s10; clear hbz; generalize V2.setCell ⟨w.heap.size + 1 + 1, 0, none⟩ (.slice (some ⟨m.g, 0, none⟩) 2 2) = V3 at *; refine bodyPost_ret (v := WdM.val ⟨m.a, c1, m.g⟩) (by simp [results, Tryd.results79, go_sem, WdM.val, s10]) rfl ?_
  have hag' : ∀ b, b < WW.heap.size → G1 b = G0 b := fun b hb => HAG.out b hb
  have hg2 : G1 m.g = 2 := (hag' _ (by omega)).trans HGG.out; have hgz : G1 (w.heap.size + 1 + 1) = 0 := (hag' _ (by omega)).trans (HG.out _ (by omega))
  have hk9 : Keeps (Mt G1 1) WW w1 := HKQ.out.more fun b hb ⟨k, hk, e⟩ => ⟨k, hk, (hag' b hb).trans e⟩
  have c2 : ChR G1 0 w1 m.a := ((HA.out.kept HK.out).ext hag').other hk9 (by decide)
  have ng : ∀ i b, (Mt G1 i b ∨ G1 b = 1) → b ≠ m.g := fun i b hb e => by
   subst e
   rcases hb with ⟨k, _, hk⟩ | hb
   ·rw [hg2] at hk
    unfold rl at hk
    omega
   ·rw [hg2] at hb
    cases hb
  have nz : ∀ i b, (Mt G1 i b ∨ G1 b = 1) → b ≠ w.heap.size + 1 + 1 := fun i b hb e => by
   subst e
   rcases hb with ⟨k, _, hk⟩ | hb
   ·rw [hgz] at hk
    unfold rl at hk
    omega
   ·rw [hgz] at hb
    cases hb
  have d1 := (HCH.out.keeps KS.out (fun b hb h => ng 1 b hb h)).keeps kT (fun b hb h => nz 1 b hb h); have d2 := (c2.keeps KS.out (fun b hb h => ng 0 b hb h)).keeps kT (fun b hb h => nz 0 b hb h); have hbf := HBN.out.keeps kT (fun h => by omega); have hkf : Keeps (MtW G) w V3 := ((((HK.out.more (T := MtW G) fun _ _ h => h.elim).then HKQ.out (fun i hi h => .inr (.inl (by obtain ⟨k, hk, e⟩ := h; exact ⟨k, hk, by rw [← HG'.out i hi]; exact e⟩)))).then KS.out (fun i hi h => .inr (.inr (by rw [h, ← HG'.out _ (by omega)]; exact HGG.out)))).then kT (fun i hi h => by omega)); exact ⟨G1, ⟨m.a, c1, m.g⟩, rfl, ⟨HOK.out.a, HNX.out.1, by have := HOK.out.ka; dsimp only; omega, by have := HNX.out.2.1; have := HOK.out.kb; dsimp only; omega⟩, fun b hb => (hag' b (by omega)).trans (HG'.out b hb), ⟨hbf, hg2, d2, d1⟩, hkf⟩
theorem l21Do_no (G : Nat → Nat) (m : WdM) (kd ch h n : Int) (p : Pk) (q : Nat) (w : World) (hw : WdR G w m) (ok : WdOk m q) (hch : in2 ch 1 2 = false) :
  Calls Tryd.prog 79 #[m.val, Ev.val ⟨kd, ch, h, n, p⟩] w (RetWd G w (q + 1)) := by
 have HW := hH hw; have HOK := hH ok; have HIN := hH (fun W => (show Calls Tryd.prog 50 #[.int .i64 ch, .int .i64 1, .int .i64 2] W (fun e w' => e = .returned (.bool false) ∧ W = w') from by rw [← hch]; exact l6In_any ch 1 2 W)); clear hw ok hch; have HBV := hH (((Box.new w (w.heap.size) (by simp) 87 #[.slice (some ⟨m.g, 0, none⟩) 2 2]).alloc (.cells (evC kd ch h n p) 102)).alloc (.cells #[.slice none 0 0] 87)); have HBE := hH ((Box.new (w.alloc (.cells #[.slice (some ⟨m.g, 0, none⟩) 2 2] 87)) (w.heap.size + 1) (by simp) 102 (evC kd ch h n p)).alloc (.cells #[.slice none 0 0] 87)); have HBZ := hH (Box.new ((w.alloc (.cells #[.slice (some ⟨m.g, 0, none⟩) 2 2] 87)).alloc (.cells (evC kd ch h n p) 102)) (w.heap.size + 1 + 1) (by simp) 87 #[.slice none 0 0]); have HK := hH ((((Keeps.refl (noBlk) w).alloc (.cells #[.slice (some ⟨m.g, 0, none⟩) 2 2] 87)).alloc (.cells (evC kd ch h n p) 102)).alloc (.cells #[.slice none 0 0] 87))
 have hsz : w.heap.size + 3 ≤ (((w.alloc (.cells #[.slice (some ⟨m.g, 0, none⟩) 2 2] 87)).alloc (.cells (evC kd ch h n p) 102)).alloc (.cells #[.slice none 0 0] 87)).heap.size := by simp
 unfold WdM.val Ev.val; dsimp only
 go_enter Tryd.func79, Tryd.ntmps79
 go_wp2_with fail; refine (HIN.out _).mono ?_; rintro e _ ⟨rfl, rfl⟩; generalize (((w.alloc (.cells #[.slice (some ⟨m.g, 0, none⟩) 2 2] 87)).alloc (.cells (evC kd ch h n p) 102)).alloc (.cells #[.slice none 0 0] 87)) = WW at HBV HBE HBZ HK hsz ⊢; have hv := HBV.out; have V0 := hv.cell 0; have hz9 := HBZ.out; have Z0 := hz9.cell 0; have Zf := hz9.frozen 0; simp at V0 Z0; have zz := hz9.lt; clear hv hz9; go_wp2; have kT : Keeps (fun b => b = w.heap.size + 1 + 1) WW (WW.setCell ⟨w.heap.size + 1 + 1, 0, none⟩ (.slice (some ⟨m.g, 0, none⟩) 2 2)) := (Keeps.refl (fun b => b = w.heap.size + 1 + 1) WW).setCell (p := ⟨w.heap.size + 1 + 1, 0, none⟩) (.inr rfl) _; have hbz := HBZ.out.set_ 0 (.slice (some ⟨m.g, 0, none⟩) 2 2); simp only [sx] at hbz; have s10 := hbz.cell 0; simp at s10; clear hbz; generalize WW.setCell ⟨w.heap.size + 1 + 1, 0, none⟩ (.slice (some ⟨m.g, 0, none⟩) 2 2) = V3 at *; refine bodyPost_ret (v := WdM.val m) (by simp [results, Tryd.results79, go_sem, WdM.val, s10]) rfl ?_
 have hk9 : Keeps noBlk w V3 := HK.out.then kT fun i hi h => by omega
 exact ⟨G, m, rfl, ⟨HOK.out.a, HOK.out.b, Nat.le_succ_of_le HOK.out.ka, Nat.le_succ_of_le HOK.out.kb⟩, fun _ _ => rfl, ⟨HW.out.1.keeps hk9 (fun h => h), HW.out.2.1, HW.out.2.2.1.kept hk9, HW.out.2.2.2.kept hk9⟩, hk9.more fun _ _ h => h.elim⟩
theorem l21Do_any (G : Nat → Nat) (m : WdM) (e : Ev) (q : Nat) (w : World) (hw : WdR G w m) (ok : WdOk m q) (hq : q ≤ 1000) : Calls Tryd.prog 79 #[m.val, e.val] w (RetWd G w (q + 1)) := by
 obtain ⟨kd, ch, h, n, p⟩ := e; have ka := ok.ka; have kb := ok.kb
 by_cases h1 : ch = 1
 ·subst h1
  exact l21Do_1 G m kd h n p q w hw ok fun G0 W ha hb => l21Chain_any G0 0 1 m.a m.b _ W ha hb (by omega) ok.a ok.b
 by_cases h2 : ch = 2
 ·subst h2
  exact l21Do_2 G m kd h n p q w hw ok fun G0 W hb ha => l21Chain_any G0 1 0 m.b m.a _ W hb ha (by omega) ok.b ok.a
 refine l21Do_no G m kd ch h n p q w hw ok ?_; unfold in2; rw [Bool.eq_false_iff]; intro hc; simp only [Bool.and_eq_true, decide_eq_true_eq] at hc
 omega
end Go.Proofs.YtjcbeihoeanhaaaDoor
