/- l71Bank of the model: it draws some bank, in memory of its own. -/
import Derived.Test.YtedmkbiamjpdaabPure
import Derived.Test.YtedmkbiamjpdaabPick
import Derived.Test.YtedmkbiamjpdaabNew
set_option linter.unusedVariables false
set_option linter.unusedSimpArgs false
namespace Go.Proofs.Ytedmkbiamjpdaab
open Go.RowKit

/-- What holds at each round of the draw of a bank: the bank is valid, it lies in block B, its rows and it lie apart. -/
def DrawInv (w wr : World) (g B : Nat) (lim : Int) : Prop :=
  Rd wr g lim ∧ Box wr w.heap.size 25 #[.slice none 0 0, .slice none 0 0, .int .i64 0] ∧ Keeps (one g) w wr ∧
  ∃ A1 c1 A2 c2 xs ys L, Box wr B 25 #[.slice A1 3 c1, .slice A2 3 c2, .int .i64 L] ∧ Row wr (w.heap.size + 1) A1 3 xs ∧ Row wr (w.heap.size + 1) A2 3 ys ∧
    (∀ i, blk A1 3 i → ¬ blk A2 3 i) ∧ ¬ blk A1 3 B ∧ ¬ blk A2 3 B ∧ okB ⟨xs, ys, L⟩ = true ∧ 3 ≤ c1 ∧ 3 ≤ c2 ∧ c1 ≤ maxLen ∧ c2 ≤ maxLen

theorem DrawInv.pick {w wr w' : World} {g B : Nat} {lim lim' : Int} (h : DrawInv w wr g B lim) (hg : g < w.heap.size) (hB : w.heap.size < B) (hk : Keeps (one g) wr w') (hr : Rd w' g lim') : DrawInv w w' g B lim' := by
  obtain ⟨_, h2, h3, A1, c1, A2, c2, xs, ys, L, hbx, hr1, hr2, r⟩ := h
  have hS : ∀ b, w.heap.size ≤ b → ¬ one g b := fun b hb h => by have h' : b = g := h; omega
  exact ⟨hr, h2.keeps hk (hS _ (Nat.le_refl _)), h3.trans hk, A1, c1, A2, c2, xs, ys, L, hbx.keeps hk (hS _ (by omega)), hr1.keeps hk (fun b hb => hS b (by have := hr1.ge hb; omega)), hr2.keeps hk (fun b hb => hS b (by have := hr2.ge hb; omega)), r⟩
theorem DrawInv.more {w wr : World} {g B : Nat} {lim lim' : Int} (h : DrawInv w wr g B lim) (hl : lim ≤ lim') : DrawInv w wr g B lim' := ⟨h.1.more hl, h.2⟩
theorem DrawInv.alloc {w wr : World} {g B : Nat} {lim : Int} (h : DrawInv w wr g B lim) (o : Obj) : DrawInv w (wr.alloc o) g B lim := by
  obtain ⟨h1, h2, h3, A1, c1, A2, c2, xs, ys, L, hbx, hr1, hr2, r⟩ := h
  exact ⟨h1.alloc o, h2.alloc o, h3.alloc o, A1, c1, A2, c2, xs, ys, L, hbx.alloc o, hr1.alloc o, hr2.alloc o, r⟩
theorem DrawInv.rd {w wr : World} {g B : Nat} {lim : Int} (h : DrawInv w wr g B lim) : Rd wr g lim := h.1

theorem DrawInv.store {w w7 : World} {g B : Nat} {lim : Int} {A1 A2 : Option Addr} {c1 c2 : Nat} {b : BankL} {x y z : Value} (hg : g < w.heap.size) (hB : w.heap.size < B) (hrd : Rd w7 g lim)
    (hres : Box w7 w.heap.size 25 #[.slice none 0 0, .slice none 0 0, .int .i64 0]) (hkp : Keeps (one g) w w7) (hbx : Box w7 B 25 #[x, y, z])
    (hr1 : Row w7 (w.heap.size + 1) A1 3 b.own) (hr2 : Row w7 (w.heap.size + 1) A2 3 b.notes) (hd : ∀ i, blk A1 3 i → ¬ blk A2 3 i) (hn1 : ¬ blk A1 3 B) (hn2 : ¬ blk A2 3 B) (hok : okB b = true)
    (k1 : 3 ≤ c1) (k2 : 3 ≤ c2) (m1 : c1 ≤ maxLen) (m2 : c2 ≤ maxLen) :
    DrawInv w (((w7.setCell ⟨B, 0, none⟩ (.slice A1 3 c1)).setCell ⟨B, 1, none⟩ (.slice A2 3 c2)).setCell ⟨B, 2, none⟩ (.int .i64 b.locked)) g B lim := by
  have hS : Keeps (one B) w7 _ := (((Keeps.refl (one B) w7).set1 0 (.slice A1 3 c1)).set1 1 (.slice A2 3 c2)).set1 2 (.int .i64 b.locked)
  have hbn := ((hbx.set_ 0 (.slice A1 3 c1)).set_ 1 (.slice A2 3 c2)).set_ 2 (.int .i64 b.locked)
  simp at hbn
  refine ⟨hrd.keeps hS fun i hi h => ?_, hres.keeps hS fun h => ?_, hkp.then hS fun i hi h => ?_, A1, c1, A2, c2, b.own, b.notes, b.locked, hbn, hr1.keeps hS fun i hi h => ?_, hr2.keeps hS fun i hi h => ?_, hd, hn1, hn2, hok, k1, k2, m1, m2⟩
  · have h' : i = B := h; omega
  · have h' : w.heap.size = B := h; omega
  · have h' : i = B := h; omega
  · have h' : i = B := h; subst h'; exact hn1 hi
  · have h' : i = B := h; subst h'; exact hn2 hi

theorem DrawInv.step {w w5 X : World} {g B tb : Nat} {lim' : Int} {A1 A2 : Option Addr} {c1 c2 : Nat} {xs ys : List Int} {L : Int} (hg : g < w.heap.size) (hB : w.heap.size < B)
    (hres : Box w5 w.heap.size 25 #[.slice none 0 0, .slice none 0 0, .int .i64 0]) (hkp : Keeps (one g) w w5) (hbx : Box w5 B 25 #[.slice A1 3 c1, .slice A2 3 c2, .int .i64 L])
    (hr1 : Row w5 (w.heap.size + 1) A1 3 xs) (hr2 : Row w5 (w.heap.size + 1) A2 3 ys) (hd : ∀ i, blk A1 3 i → ¬ blk A2 3 i) (hn1 : ¬ blk A1 3 B) (hn2 : ¬ blk A2 3 B) (hok : okB ⟨xs, ys, L⟩ = true)
    (k1 : 3 ≤ c1) (k2 : 3 ≤ c2) (m1 : c1 ≤ maxLen) (m2 : c2 ≤ maxLen) (hk : Keeps (two g tb) w5 X) (htb : w5.heap.size ≤ tb) (hrd : Rd X g lim') : DrawInv w X g B lim' := by
  have h5 := hbx.lt
  have h6 := hres.lt
  refine ⟨hrd, hres.keeps hk ?_, hkp.then hk ?_, A1, c1, A2, c2, xs, ys, L, hbx.keeps hk ?_, hr1.keeps hk ?_, hr2.keeps hk ?_, hd, hn1, hn2, hok, k1, k2, m1, m2⟩
  · rintro (h | h) <;> omega
  · rintro i hi (h | h)
    · exact h
    · omega
  · rintro (h | h) <;> omega
  · rintro b hb (h | h)
    · have := hr1.ge hb; omega
    · have := hr1.lt hb; omega
  · rintro b hb (h | h)
    · have := hr2.ge hb; omega
    · have := hr2.lt hb; omega

/-- BankMove of the model as the draw uses it: some bank and whether it is one. -/
def RetMv (w : World) (e : Ending) (w' : World) : Prop :=
  ∃ B1 m1 d1 B2 m2 d2 L ok, e = .returned (.tuple #[.agg #[.slice B1 m1 d1, .slice B2 m2 d2, .int .i64 L], .bool ok]) ∧ Keeps noBlk w w' ∧
    (ok = true → m1 = 3 ∧ m2 = 3 ∧ ∃ b : BankL, okB b = true ∧ b.locked = L ∧ Row w' w.heap.size B1 3 b.own ∧ Row w' w.heap.size B2 3 b.notes ∧ (∀ i, blk B1 3 i → ¬ blk B2 3 i) ∧ 3 ≤ d1 ∧ 3 ≤ d2 ∧ d1 ≤ maxLen ∧ d2 ≤ maxLen)
theorem specMove_draw (A1 A2 : Option Addr) (c1 c2 : Nat) (L : Int) (xs ys : List Int) (w : World) (ha1 : Ints w A1 3 xs) (ha2 : Ints w A2 3 ys) (hok : okB ⟨xs, ys, L⟩ = true) (kd fr to sm : Int) :
    Calls Try.prog 37 #[.agg #[.slice A1 3 c1, .slice A2 3 c2, .int .i64 L], .int .i64 kd, .int .i64 fr, .int .i64 to, .int .i64 sm] w (RetMv w) := by
  refine (specMove_any A1 A2 3 3 c1 c2 L xs ys w ha1 ha2 (by decide) (by decide) (by have := locked_bounds hok; dsimp only at this; omega) kd fr to sm).mono fun e w' hr => ?_
  rcases hr with ⟨hyes, v, rfl, ⟨B1, m1, d1, B2, m2, d2, rfl, hr1, hr2, hd, k1, k2, n1, n2⟩, hk⟩ | ⟨_, rfl, hk⟩
  · have hb := move_ok hyes
    obtain rfl : 3 = m1 := (lst_len hb 1).symm.trans hr1.1.1
    obtain rfl : 3 = m2 := (lst_len hb 2).symm.trans hr2.1.1
    exact ⟨B1, 3, d1, B2, 3, d2, _, true, rfl, hk, fun _ => ⟨rfl, rfl, _, hb, rfl, hr1, hr2, hd, k1, k2, n1, n2⟩⟩
  · exact ⟨none, 0, 0, none, 0, 0, 0, false, rfl, hk, fun h => by cases h⟩

def RetDraw (w : World) (g : Nat) (lim : Int) (e : Ending) (w' : World) : Prop :=
  ∃ v b, e = .returned v ∧ BankAt w' (w.heap.size + 1) v b ∧ Rd w' g (lim + 500) ∧ Keeps (one g) w w' ∧ -100 ≤ b.locked ∧ b.locked ≤ 100 ∧ b.own.length ≤ 3 ∧ b.notes.length = 3

theorem draw_end {w wr : World} {g n1 c1 c2 : Nat} {lim : Int} {A1 A2 : Option Addr} {xs ys : List Int} {L : Int} (hg : g < w.heap.size) (hrd : Rd wr g (lim + 500)) (hkp : Keeps (one g) w wr)
    (hr1 : Row wr (w.heap.size + 1) A1 n1 xs) (hr2 : Row wr (w.heap.size + 1) A2 3 ys) (hd : ∀ i, blk A1 n1 i → ¬ blk A2 3 i) (k1 : n1 ≤ c1) (k2 : 3 ≤ c2) (m1 : c1 ≤ maxLen) (m2 : c2 ≤ maxLen) (hn : n1 ≤ 3)
    (hL1 : -100 ≤ L) (hL2 : L ≤ 100) : RetDraw w g lim (.returned (.agg #[.slice A1 n1 c1, .slice A2 3 c2, .int .i64 L]))
      (((wr.setCell ⟨w.heap.size, 0, none⟩ (.slice A1 n1 c1)).setCell ⟨w.heap.size, 1, none⟩ (.slice A2 3 c2)).setCell ⟨w.heap.size, 2, none⟩ (.int .i64 L)) := by
  have hS : Keeps (one w.heap.size) wr _ := (((Keeps.refl (one w.heap.size) wr).set1 0 (.slice A1 n1 c1)).set1 1 (.slice A2 3 c2)).set1 2 (.int .i64 L)
  refine ⟨_, ⟨xs, ys, L⟩, rfl, ⟨A1, n1, c1, A2, 3, c2, rfl, hr1.keeps hS fun i hi h => ?_, hr2.keeps hS fun i hi h => ?_, hd, k1, k2, m1, m2⟩, hrd.keeps hS fun i hi h => ?_, hkp.then hS fun i hi h => ?_, hL1, hL2, by have := hr1.1.1; show xs.length ≤ 3; omega, hr2.1.1⟩
  · have h' : i = w.heap.size := h; have := hr1.ge hi; omega
  · have h' : i = w.heap.size := h; have := hr2.ge hi; omega
  · have h' : i = w.heap.size := h; omega
  · have h' : i = w.heap.size := h; omega

theorem RetDraw.alloc {w w' : World} {g : Nat} {lim : Int} {e : Ending} (h : RetDraw w g lim e w') (o : Obj) : RetDraw w g lim e (w'.alloc o) := by
  obtain ⟨v, b, h1, ⟨A1, n1, c1, A2, n2, c2, hv, hr1, hr2, r⟩, h3, h4, h5⟩ := h
  exact ⟨v, b, h1, ⟨A1, n1, c1, A2, n2, c2, hv, hr1.alloc o, hr2.alloc o, r⟩, h3.alloc o, h4.alloc o, h5⟩

theorem pick3 (p : Nat) (h : p < 3) : ∃ y : Int, #[Value.int .i64 (-1), .int .i64 31, .int .i64 30][p]? = some (.int .i64 y) := by
  match p, h with
  | 0, _ => exact ⟨-1, rfl⟩
  | 1, _ => exact ⟨31, rfl⟩
  | 2, _ => exact ⟨30, rfl⟩

theorem Row.tail {w : World} {lo b off n : Nat} {xs : List Int} (h : Row w lo (some ⟨b, off, none⟩) (n + 1) xs) : Row w lo (some ⟨b, off + 1, none⟩) n (xs.drop 1) := by
  obtain ⟨⟨hl, h1⟩, h2⟩ := h
  refine ⟨⟨by simp; omega, fun hn => ?_⟩, fun hn => ?_⟩
  · obtain ⟨b', off', e, hb, hc⟩ := h1 (by omega)
    injection e with e
    injection e with e1 e2
    subst e1
    subst e2
    refine ⟨b, off + 1, rfl, hb, fun j x hx => ?_⟩
    rw [List.getElem?_drop] at hx
    have := hc (1 + j) x hx
    rwa [← Nat.add_assoc] at this
  · obtain ⟨b', off', e, hb, hf⟩ := h2 (by omega)
    injection e with e
    injection e with e1 e2
    subst e1
    subst e2
    refine ⟨b, off + 1, rfl, hb, fun j hj => ?_⟩
    have := hf (1 + j) (by omega)
    rwa [← Nat.add_assoc] at this

set_option maxHeartbeats 20000000 in
set_option maxRecDepth 100000 in
theorem l71Bank_any (g : Nat) (lim : Int) (w : World) (hr : Rd w g lim) (hl : lim ≤ 100000000) :
    Calls Try.prog 29 #[.pointer (some ⟨g, 0, none⟩)] w (RetDraw w g lim) := by
  have hg := hr.lt
  have HR := Lib.hid hr
  clear hr
  go_enter Try.func29, Try.ntmps29
  go_wp2_with fail
  refine (specNew_any _).mono ?_
  rintro e w1 ⟨v, rfl, ⟨A1, n1, c1, A2, n2, c2, rfl, hr1, hr2, hd, k1, k2, m1, m2⟩, hk1⟩
  obtain rfl : 3 = n1 := hr1.1.1
  obtain rfl : 3 = n2 := hr2.1.1
  have hz1 : w.heap.size < w1.heap.size := by have := hk1.size; simp at this; omega
  have hg1 : g < w1.heap.size := by omega
  have hrd : Rd (w1.alloc (.cells #[.slice A1 3 c1, .slice A2 3 c2, .int .i64 newL.locked] 25)) g lim := ((HR.out.alloc _).keeps hk1 fun _ _ h => h).alloc _
  have HRD := Lib.hid hrd
  have HR1 := Lib.hid hr1
  have HR2 := Lib.hid hr2
  have HD := Lib.hid hd
  have HK1 := Lib.hid hk1
  clear hrd hr1 hr2 hd hk1
  go_wp2_with fail
  refine (pick_any g lim 8 _ HRD.out (by omega) (by omega) (by omega)).mono ?_
  rintro e w2 ⟨n, rfl, hn0, hn8, hrd2, hk2⟩
  obtain ⟨n, rfl⟩ := Int.eq_ofNat_of_zero_le hn0
  have hinv : DrawInv w w2 g w1.heap.size (lim + 1) := by
    have hS : ∀ b, w.heap.size ≤ b → ¬ one g b := fun b hb h => by have h' : b = g := h; omega
    refine ⟨hrd2, ((((Box.new w _ rfl _ _).keeps HK1.out fun h => h).alloc _).keeps hk2 (hS _ (Nat.le_refl _))), ?_, A1, c1, A2, c2, _, _, _, (Box.new w1 _ rfl _ _).keeps hk2 (hS _ (by omega)),
      ((HR1.out.alloc _).keeps hk2 fun b hb => hS b (by have := HR1.out.ge hb; simp at this; omega)).less (by simp), ((HR2.out.alloc _).keeps hk2 fun b hb => hS b (by have := HR2.out.ge hb; simp at this; omega)).less (by simp),
      HD.out, fun h => by have := HR1.out.lt h; omega, fun h => by have := HR2.out.lt h; omega, by decide, k1, k2, m1, m2⟩
    exact ((((Keeps.refl _ w).alloc _).then HK1.out fun i hi h => h.elim).alloc _).then hk2 fun i hi h => h
  have HI := Lib.hid hinv
  clear hinv hrd2 hk2
  have hn7 : n ≤ 7 := by omega
  go_wp2_with fail
  go_loopw [4] (fun i wr => ∃ k : Nat, k ≤ 7 ∧ i = .int .i64 k ∧ DrawInv w wr g w1.heap.size (lim + 200 - 20 * (k : Int))) (fun i _ => (intOf i).toNat)
  case atStart => exact ⟨n, hn7, rfl, HI.out.more (by omega)⟩
  case round =>
    obtain ⟨k, hk7, rfl, hinv⟩ := hrel
    have HV := Lib.hid hinv
    clear hinv
    by_cases hk0 : k = 0
    · subst hk0
      go_wp2_with fail
      refine (pick_any g _ 24 _ HV.out.rd (by omega) (by omega) (by omega)).mono ?_
      rintro e w3 ⟨v, rfl, hv0, hv24, hrd3, hk3⟩
      have hv3 := HV.out.pick hg hz1 hk3 hrd3
      obtain ⟨hrd, hres, hkp5, A1, c1, A2, c2, xs, ys, L, hbx, hr1, hr2, hd, hn1, hn2, hok, k1, k2, m1, m2⟩ := hv3
      have hLb := locked_bounds hok
      dsimp only at hLb
      have b0 := hbx.cell 0
      have b1 := hbx.cell 1
      have b2 := hbx.cell 2
      have fb0 := hbx.frozen 0
      have fb2 := hbx.frozen 2
      have r0 := hres.cell 0
      have r1 := hres.cell 1
      have r2 := hres.cell 2
      have f0 := hres.frozen 0
      have f1 := hres.frozen 1
      have f2 := hres.frozen 2
      simp at b0 b1 b2 r0 r1 r2
      have hzB := hbx.lt
      have hne : ¬ w1.heap.size = w.heap.size := by omega
      have hne2 : ¬ w.heap.size = w1.heap.size := by omega
      have HRD := Lib.hid hrd
      have HRES := Lib.hid hres
      have HKP := Lib.hid hkp5
      have HBX := Lib.hid hbx
      have HR1 := Lib.hid hr1
      have HR2 := Lib.hid hr2
      have HD := Lib.hid hd
      have HN1 := Lib.hid hn1
      have HN2 := Lib.hid hn2
      clear hrd hres hkp5 hbx hr1 hr2 hd hn1 hn2 hok hk3 hrd3 HV
      by_cases v0 : v = 0
      · have t0 : (v == 0) = true := by simp; omega
        clear v0
        have hgB : ¬ one g w1.heap.size := fun h => by have h' : w1.heap.size = g := h; omega
        have HgB := Lib.hid hgB
        have hQ1 : ∀ b, blk A1 3 b → ¬ one g b := fun b hb h => by have h' : b = g := h; have := HR1.out.ge hb; omega
        have hQ2 : ∀ b, blk A2 3 b → ¬ one g b := fun b hb h => by have h' : b = g := h; have := HR2.out.ge hb; omega
        have HQ1 := Lib.hid hQ1
        have HQ2 := Lib.hid hQ2
        have hgw : ¬ one g w.heap.size := fun h => by have h' : w.heap.size = g := h; omega
        have Hgw := Lib.hid hgw
        clear hgB hQ1 hQ2 hgw
        go_wp2_with fail
        go_region_with (first | (go_at_call 30; refine (pick_any g (lim + 200 - 20 * ((0 : Nat) : Int) + 1) 3 _ (HRD.out.drewN 1) (by omega) (by omega) (by omega)).mono ?_; rintro e w4 ⟨p, rfl, hp0, hp3, hrd4, hk4⟩; have hB4 := ((HBX.out.drewN 1).keeps hk4 HgB.out); have b0 := hB4.cell 0; have b1 := hB4.cell 1; have b2 := hB4.cell 2; have fb2 := hB4.frozen 2; simp at b0 b1 b2; have hR4 := (HRES.out.drewN 1).keeps hk4 Hgw.out; have r0 := hR4.cell 0; have r1 := hR4.cell 1; have r2 := hR4.cell 2; have f0 := hR4.frozen 0; have f1 := hR4.frozen 1; have f2 := hR4.frozen 2; simp at r0 r1 r2; have q1 : IntKind.i64.wrap (L + p) = L + p := IntWalk.i64_in _ (by omega); have q2 : IntKind.i64.wrap (L + p - 1) = L + p - 1 := IntWalk.i64_in _ (by omega); have HB4 := Lib.hid hB4; have HR4 := Lib.hid hR4; have HK4 := Lib.hid hk4; have HRD4 := Lib.hid hrd4; clear hB4 hR4 hk4 hrd4))
        all_goals
          have hS : Keeps (one w1.heap.size) w4 (w4.setCell ⟨w1.heap.size, 2, none⟩ (.int .i64 (L + p - 1))) := (Keeps.refl _ w4).set1 _ _
          have hx1 := (((HR1.out.drewN 1).keeps HK4.out HQ1.out).keeps hS fun i hi h => by have h' : i = w1.heap.size := h; subst h'; exact HN1.out hi)
          have hx2 := (((HR2.out.drewN 1).keeps HK4.out HQ2.out).keeps hS fun i hi h => by have h' : i = w1.heap.size := h; subst h'; exact HN2.out hi)
          have hfin := draw_end (lim := lim) (c1 := c1) (c2 := c2) (L := L + p - 1) hg ((HRD4.out.keeps hS fun i hi h => by have h' : i = w1.heap.size := h; omega).more (by omega)) (((HKP.out.drewN 1).trans HK4.out).then hS fun i hi h => by have h' : i = w1.heap.size := h; omega) hx1 hx2 HD.out k1 k2 m1 m2 (by omega) (by omega) (by omega)
          have HFIN := Lib.hid hfin
          clear hS hx1 hx2 hfin
          go_wp2
          refine bodyPost_ret (v := .agg #[.slice A1 3 c1, .slice A2 3 c2, .int .i64 (L + p - 1)]) (by simp [results, Try.results29, go_sem, r0, r1, r2, hne2]) rfl ?_
          exact HFIN.out
      · have t0 : (v == 0) = false := by simp; omega
        by_cases v1 : v = 1
        · have t1 : (v == 1) = true := by simp; omega
          clear v0 v1
          obtain ⟨b, off, eA, _, _, _, _⟩ := HR1.out.at_ (k := 0) (by omega)
          subst eA
          have hc1 : ¬ c1 = 1 := by omega
          have hc13 : 1 ≤ c1 := by omega
          have hS : Keeps (one w1.heap.size) w3 (w3.setCell ⟨w1.heap.size, 0, none⟩ (.slice (some ⟨b, off + 1, none⟩) 2 (c1 - 1))) := (Keeps.refl _ w3).set1 _ _
          have hbB : ¬ b = w1.heap.size := fun h => HN1.out ⟨by omega, _, rfl, h⟩
          have hx1 := (HR1.out.tail.keeps hS fun i hi h => by have h' : i = w1.heap.size := h; have h2 := blk_some hi; dsimp only at h2; omega)
          have hx2 := (HR2.out.keeps hS fun i hi h => by have h' : i = w1.heap.size := h; subst h'; exact HN2.out hi)
          have hdd : ∀ i, blk (some ⟨b, off + 1, none⟩) 2 i → ¬ blk A2 3 i := fun i h1 h2 => HD.out i (by have h3 := blk_some h1; dsimp only at h3; subst h3; exact ⟨by omega, _, rfl, rfl⟩) h2
          have hfin := draw_end (lim := lim) (c1 := c1 - 1) (c2 := c2) (L := L) hg ((HRD.out.keeps hS fun i hi h => by have h' : i = w1.heap.size := h; omega).more (by omega)) (HKP.out.then hS fun i hi h => by have h' : i = w1.heap.size := h; omega) hx1 hx2 hdd (by omega) k2 (by unfold maxLen at *; omega) m2 (by omega) (by omega) (by omega)
          have HFIN := Lib.hid hfin
          clear hS hx1 hx2 hdd hfin
          go_wp2
          refine bodyPost_ret (v := .agg #[.slice (some ⟨b, off + 1, none⟩) 2 (c1 - 1), .slice A2 3 c2, .int .i64 L]) (by simp [results, Try.results29, go_sem, r0, r1, r2, hne, hne2]) rfl ?_
          exact HFIN.out
        · have t1 : (v == 1) = false := by simp; omega
          by_cases v2 : v = 2
          · have t2 : (v == 2) = true := by simp; omega
            clear v0 v1 v2
            have hgB : ¬ one g w1.heap.size := fun h => by have h' : w1.heap.size = g := h; omega
            have HgB := Lib.hid hgB
            have hQ1 : ∀ b, blk A1 3 b → ¬ one g b := fun b hb h => by have h' : b = g := h; have := HR1.out.ge hb; omega
            have hQ2 : ∀ b, blk A2 3 b → ¬ one g b := fun b hb h => by have h' : b = g := h; have := HR2.out.ge hb; omega
            have HQ1 := Lib.hid hQ1
            have HQ2 := Lib.hid hQ2
            have z3 : w.heap.size ≤ w3.heap.size := by omega
            have hgz : ∀ n, w.heap.size ≤ n → ¬ one g n := fun n hn h => by have h' : n = g := h; omega
            have HGZ := Lib.hid hgz
            have tok1 : True := trivial
            clear hgB hQ1 hQ2 hgz
            go_wp2_with fail
            go_region_with (first | (go_at_call 30; have _t := tok1; refine (pick_any g (lim + 200 - 20 * ((0 : Nat) : Int) + 1) 3 _ (by repeat (first | with_reducible exact HRD.out | with_reducible refine Rd.alloc ?_ _ | with_reducible refine Rd.drew ?_)) (by omega) (by omega) (by omega)).mono ?_; rintro e w4 ⟨p1, rfl, hp0, hp3, hrd4, hk4⟩; obtain ⟨p1, rfl⟩ := Int.eq_ofNat_of_zero_le hp0; have hB4 := ((by repeat (first | with_reducible exact HBX.out | with_reducible refine Box.alloc ?_ _ | with_reducible refine Box.drew ?_)) : Box _ w1.heap.size 25 #[.slice A1 3 c1, .slice A2 3 c2, .int .i64 L]).keeps hk4 HgB.out; have b0 := hB4.cell 0; have b1 := hB4.cell 1; have b2 := hB4.cell 2; simp at b0 b1 b2; have HB4 := Lib.hid hB4; have zb4 := hB4.lt; (first | (have T4 := (Box.new w3.drew w3.heap.size rfl 3 #[.int .i64 (-1), .int .i64 31, .int .i64 30]).keeps hk4 (HGZ.out _ z3); have HT4 := Lib.hid T4; clear T4) | skip); have HK4 := Lib.hid hk4; clear hB4 hk4 tok1) | (go_at_call 30; refine (pick_any g (lim + 200 - 20 * ((0 : Nat) : Int) + 1 + 1) 3 _ (by repeat (first | with_reducible exact hrd4 | with_reducible refine Rd.alloc ?_ _)) (by omega) (by omega) (by omega)).mono ?_; rintro e w5 ⟨p2, rfl, hq0, hq3, hrd5, hk5⟩; obtain ⟨p2, rfl⟩ := Int.eq_ofNat_of_zero_le hq0; have hB5 := ((by repeat (first | with_reducible exact HB4.out | with_reducible refine Box.alloc ?_ _)) : Box _ w1.heap.size 25 #[.slice A1 3 c1, .slice A2 3 c2, .int .i64 L]).keeps hk5 HgB.out; have b0 := hB5.cell 0; have b1 := hB5.cell 1; have b2 := hB5.cell 2; simp at b0 b1 b2; have HB5 := Lib.hid hB5; have zb5 := hB5.lt; obtain ⟨y, hy⟩ := pick3 p2 (by omega); (first | (have T5 := HT4.out.keeps hk5 (HGZ.out _ z3); have yc := T5.cell p2; rw [hy] at yc; have HY := Lib.hid T5; clear T5) | (have T5 := (Box.new w4 _ rfl 3 #[.int .i64 (-1), .int .i64 31, .int .i64 30]).keeps hk5 (HGZ.out _ (by omega)); have yc := T5.cell p2; rw [hy] at yc; have HY := Lib.hid T5; clear T5) | skip); obtain ⟨ob, oo, oe, og, ol, oc, of⟩ := ((by repeat (first | with_reducible exact HR2.out | with_reducible refine Row.alloc ?_ _ | with_reducible refine Row.drew ?_ | with_reducible refine Row.keeps ?_ hk5 HQ2.out | with_reducible refine Row.keeps ?_ HK4.out HQ2.out)) : Row w5 (w.heap.size + 1) A2 3 ys).at_ (k := p1) (by omega); have hob : ¬ ob = w1.heap.size := (fun h => HN2.out (by rw [oe]; exact ⟨by omega, _, rfl, h⟩)); have hob2 : ¬ w1.heap.size = ob := (fun h => hob h.symm); have hpp : (p1 : Int) < 3 := (by omega); have hpq : (p2 : Int) < 3 := (by omega); have HOE := Lib.hid oe; subst oe; have HK5 := Lib.hid hk5; clear hB5 hk5))
            all_goals
              have hk35 : Keeps (one g) w3 w5 := by
                repeat (first | with_reducible exact Keeps.refl _ _ | with_reducible refine Keeps.trans ?_ HK5.out | with_reducible refine Keeps.trans ?_ HK4.out | with_reducible refine Keeps.alloc ?_ _ | with_reducible refine Keeps.drew ?_)
              have hS : Keeps (one ob) w5 (w5.setCell ⟨ob, oo + p1, none⟩ (.int .i64 y)) := (Keeps.refl _ w5).set1 _ _
              have hx1 := ((HR1.out.keeps hk35 HQ1.out).keeps hS fun i hi h => HD.out i hi (by have h' : i = ob := h; subst h'; exact ⟨by omega, _, rfl, rfl⟩))
              have hx2 := (HR2.out.keeps hk35 HQ2.out).set_ (k := p1) (by omega) y
              have hR5 := (HRES.out.keeps hk35 (HGZ.out _ (Nat.le_refl _))).keeps hS fun h => by have h' : w.heap.size = ob := h; omega
              have r0 := hR5.cell 0
              have r1 := hR5.cell 1
              have r2 := hR5.cell 2
              have f0 := hR5.frozen 0
              have f1 := hR5.frozen 1
              have f2 := hR5.frozen 2
              simp only [List.getElem?_toArray, List.getElem?_cons_zero, List.getElem?_cons_succ] at r0 r1 r2
              have hB5 := HB5.out.keeps hS fun h => hob2 h
              have b0 := hB5.cell 0
              have b1 := hB5.cell 1
              have b2 := hB5.cell 2
              simp only [List.getElem?_toArray, List.getElem?_cons_zero, List.getElem?_cons_succ] at b0 b1 b2
              have zr5 : w.heap.size < w5.heap.size := by omega
              have hfin := draw_end (lim := lim) (c1 := c1) (c2 := c2) (L := L) hg ((hrd5.keeps hS fun i hi h => by have h' : i = ob := h; omega).more (by omega)) ((HKP.out.trans hk35).then hS fun i hi h => by have h' : i = ob := h; omega) hx1 hx2 HD.out k1 k2 m1 m2 (by omega) (by omega) (by omega)
              have HFIN := Lib.hid hfin
              clear hS hx1 hx2 hfin hR5 hB5 hk35 hrd5 hrd4
              go_wp2
              refine bodyPost_ret (v := .agg #[.slice A1 3 c1, .slice (some ⟨ob, oo, none⟩) 3 c2, .int .i64 L]) (by simp [results, Try.results29, go_sem, r0, r1, r2, hne, hne2, zr5]) rfl ?_
              first | with_reducible exact HFIN.out | with_reducible exact HFIN.out.alloc _
          · have t2 : (v == 2) = false := by simp; omega
            clear v0 v1 v2
            go_wp2
            refine bodyPost_ret (v := .agg #[.slice A1 3 c1, .slice A2 3 c2, .int .i64 L]) (by simp [results, Try.results29, go_sem, r0, r1, r2]) rfl ?_
            exact draw_end hg (HRD.out.more (by omega)) HKP.out HR1.out HR2.out HD.out k1 k2 m1 m2 (by omega) (by omega) (by omega)
    · have hkp : (0 : Int) < (k : Int) := by omega
      go_wp2_with fail
      refine (pick_any g _ 2 _ HV.out.rd (by omega) (by omega) (by omega)).mono ?_
      rintro e w3 ⟨a, rfl, ha0, ha2, hrd3, hk3⟩
      have hv3 := HV.out.pick hg hz1 hk3 hrd3
      have HV3 := Lib.hid hv3
      clear hrd3 hk3 hv3
      go_wp2_with fail
      refine (pick_any g _ 3 _ HV3.out.rd (by omega) (by omega) (by omega)).mono ?_
      rintro e w4 ⟨f, rfl, hf0, hf3, hrd4, hk4⟩
      have hv4 := HV3.out.pick hg hz1 hk4 hrd4
      have HV4 := Lib.hid hv4
      clear hrd4 hk4 hv4
      go_wp2_with fail
      refine (pick_any g _ 3 _ HV4.out.rd (by omega) (by omega) (by omega)).mono ?_
      rintro e w5 ⟨v, rfl, hv0, hv3, hrd5, hk5⟩
      have hv5 := HV4.out.pick hg hz1 hk5 hrd5
      have hkd : kindB (1 + a) = true := by simp [kindB]; omega
      have hus : userB (1 + f) = true := by simp [userB]; omega
      have HV5 := Lib.hid hv5
      obtain ⟨hrd, hres, hkp5, A1, c1, A2, c2, xs, ys, L, hbx, hr1, hr2, hd, hn1, hn2, hok, k1, k2, m1, m2⟩ := hv5
      have b0 := hbx.cell 0
      have b1 := hbx.cell 1
      have b2 := hbx.cell 2
      simp at b0 b1 b2
      have hzB := hbx.lt
      have HRD := Lib.hid hrd
      have HRES := Lib.hid hres
      have HKP := Lib.hid hkp5
      have HBX := Lib.hid hbx
      have HR1 := Lib.hid hr1
      have HR2 := Lib.hid hr2
      have HD := Lib.hid hd
      have HN1 := Lib.hid hn1
      have HN2 := Lib.hid hn2
      have HOK := Lib.hid hok
      have HKD := Lib.hid hkd
      have HUS := Lib.hid hus
      clear hrd hres hkp5 hbx hr1 hr2 hd hn1 hn2 hok hkd hus hk5 hrd5 HV HV3 HV4
      by_cases v0 : v = 0
      · have t0 : (v == 0) = true := by simp; omega
        clear v0
        go_wp2_with fail
        have hgB : ¬ one g w1.heap.size := fun h => by have h' : w1.heap.size = g := h; omega
        have hR1 : ∀ b, blk A1 3 b → ¬ one g b := fun b hb h => by have h' : b = g := h; have := HR1.out.ge hb; omega
        have hR2 : ∀ b, blk A2 3 b → ¬ one g b := fun b hb h => by have h' : b = g := h; have := HR2.out.ge hb; omega
        have hNB : ¬ (blk A1 3 w1.heap.size ∨ blk A2 3 w1.heap.size) := fun h => h.elim HN1.out HN2.out
        have HgB := Lib.hid hgB
        have HNB := Lib.hid hNB
        have HQ1 := Lib.hid hR1
        have HQ2 := Lib.hid hR2
        clear hgB hR1 hR2 hNB
        go_region_with (first | (go_at_call 30; refine (pick_any g _ 5 _ (HRD.out.drewN 1) (by omega) (by omega) (by omega)).mono ?_; rintro e w6 ⟨s, rfl, hs0, hs5, hrd6, hk6⟩; have hB6 := ((HBX.out.drewN 1).keeps hk6 HgB.out); have j0 := hB6.cell 0; have j1 := hB6.cell 1; have j2 := hB6.cell 2; simp at j0 j1 j2; clear hB6) | (go_at_call 36; refine (l1Away_any A1 A2 c1 c2 _ L xs ys _ ((HR1.out.drewN 1).keeps hk6 HQ1.out) ((HR2.out.drewN 1).keeps hk6 HQ2.out) HD.out (1 + a) (1 + f) s HOK.out HKD.out HUS.out hs0 (by omega)).mono ?_; rintro e w7 ⟨rfl, hq1, hq2, hk7⟩; have hB7 := ((HBX.out.drewN 1).keeps hk6 HgB.out).keeps hk7 HNB.out; have g0 := hB7.frozen 0; have g1 := hB7.frozen 1; have g2 := hB7.frozen 2; have j0 := hB7.cell 0; have j1 := hB7.cell 1; have j2 := hB7.cell 2; simp at j0 j1 j2; have HB7 := Lib.hid hB7; clear hB7))
        all_goals
          have hge : ∀ i, i ≤ w.heap.size → ¬ (blk A1 3 i ∨ blk A2 3 i) := fun i hi h => by rcases h with h | h; (have := HR1.out.ge h; omega); (have := HR2.out.ge h; omega)
          have hfin := DrawInv.store (w := w) (c1 := c1) (c2 := c2) hg hz1 (hrd6.keeps hk7 fun i hi => hge i (by omega)) (((HRES.out.drewN 1).keeps hk6 fun h => by have h' : w.heap.size = g := h; omega).keeps hk7 (hge _ (Nat.le_refl _)))
            (((HKP.out.drewN 1).trans hk6).then hk7 fun i hi h => (hge i (by omega) h).elim) HB7.out hq1 hq2 HD.out HN1.out HN2.out (turnA_ok HOK.out HKD.out HUS.out hs0) k1 k2 m1 m2
          have HFIN := Lib.hid hfin
          clear hfin hq1 hq2 hk7 hk6 hrd6 hge
          go_wp2
          go_roundw
          case rel => exact ⟨k - 1, by omega, by go_num, HFIN.out.more (by omega)⟩
          case measure => simp [intOf]; omega
      · have t0 : (v == 0) = false := by simp; omega
        by_cases v1 : v = 1
        · have t1 : (v == 1) = true := by simp; omega
          clear v0 v1
          go_wp2_with fail
          have hgB : ¬ one g w1.heap.size := fun h => by have h' : w1.heap.size = g := h; omega
          have hR1 : ∀ b, blk A1 3 b → ¬ one g b := fun b hb h => by have h' : b = g := h; have := HR1.out.ge hb; omega
          have hR2 : ∀ b, blk A2 3 b → ¬ one g b := fun b hb h => by have h' : b = g := h; have := HR2.out.ge hb; omega
          have hNB : ¬ (blk A1 3 w1.heap.size ∨ blk A2 3 w1.heap.size) := fun h => h.elim HN1.out HN2.out
          have HgB := Lib.hid hgB
          have HNB := Lib.hid hNB
          have HQ1 := Lib.hid hR1
          have HQ2 := Lib.hid hR2
          clear hgB hR1 hR2 hNB
          go_region_with (first | (go_at_call 30; refine (pick_any g _ 5 _ (HRD.out.drewN 1) (by omega) (by omega) (by omega)).mono ?_; rintro e w6 ⟨s, rfl, hs0, hs5, hrd6, hk6⟩; have hB6 := ((HBX.out.drewN 1).keeps hk6 HgB.out); have j0 := hB6.cell 0; have j1 := hB6.cell 1; have j2 := hB6.cell 2; simp at j0 j1 j2; clear hB6) | (go_at_call 17; refine (l1Back_any A1 A2 c1 c2 _ L xs ys _ ((HR1.out.drewN 1).keeps hk6 HQ1.out) ((HR2.out.drewN 1).keeps hk6 HQ2.out) HD.out (1 + a) (1 + f) s HOK.out HKD.out HUS.out hs0 (by omega)).mono ?_; rintro e w7 ⟨rfl, hq1, hq2, hk7⟩; have hB7 := ((HBX.out.drewN 1).keeps hk6 HgB.out).keeps hk7 HNB.out; have g0 := hB7.frozen 0; have g1 := hB7.frozen 1; have g2 := hB7.frozen 2; have j0 := hB7.cell 0; have j1 := hB7.cell 1; have j2 := hB7.cell 2; simp at j0 j1 j2; have HB7 := Lib.hid hB7; clear hB7))
          all_goals
            have hge : ∀ i, i ≤ w.heap.size → ¬ (blk A1 3 i ∨ blk A2 3 i) := fun i hi h => by rcases h with h | h; (have := HR1.out.ge h; omega); (have := HR2.out.ge h; omega)
            have hfin := DrawInv.store (w := w) (c1 := c1) (c2 := c2) hg hz1 (hrd6.keeps hk7 fun i hi => hge i (by omega)) (((HRES.out.drewN 1).keeps hk6 fun h => by have h' : w.heap.size = g := h; omega).keeps hk7 (hge _ (Nat.le_refl _)))
              (((HKP.out.drewN 1).trans hk6).then hk7 fun i hi h => (hge i (by omega) h).elim) HB7.out hq1 hq2 HD.out HN1.out HN2.out (turnB_ok HOK.out HKD.out HUS.out hs0) k1 k2 m1 m2
            have HFIN := Lib.hid hfin
            clear hfin hq1 hq2 hk7 hk6 hrd6 hge
            go_wp2
            go_roundw
            case rel => exact ⟨k - 1, by omega, by go_num, HFIN.out.more (by omega)⟩
            case measure => simp [intOf]; omega
        · have t1 : (v == 1) = false := by simp; omega
          clear v0 v1
          have hgB : ¬ one g w1.heap.size := fun h => by have h' : w1.heap.size = g := h; omega
          have hR1 : ∀ b, blk A1 3 b → ¬ one g b := fun b hb h => by have h' : b = g := h; have := HR1.out.ge hb; omega
          have hR2 : ∀ b, blk A2 3 b → ¬ one g b := fun b hb h => by have h' : b = g := h; have := HR2.out.ge hb; omega
          have HgB := Lib.hid hgB
          have HQ1 := Lib.hid hR1
          have HQ2 := Lib.hid hR2
          clear hgB hR1 hR2
          have HRD5 := Lib.hid (HRD.out.more (lim' := lim + 200 - 20 * (k : Int) + 3) (by omega))
          have z5 : w.heap.size ≤ w5.heap.size := by omega
          have hgz : ∀ n, w.heap.size ≤ n → ¬ one g n := fun n hn h => by have h' : n = g := h; omega
          have HGZ := Lib.hid hgz
          clear hgz
          go_wp2_with fail
          go_region_held3 (fun w' => w'.cell? ⟨w1.heap.size, 0, none⟩ = some (.slice A1 3 c1) ∧ w'.cell? ⟨w1.heap.size, 1, none⟩ = some (.slice A2 3 c2) ∧ w'.cell? ⟨w1.heap.size, 2, none⟩ = some (.int .i64 L))
            (((try dsimp only); (repeat' apply And.intro) <;> (first | with_reducible assumption | ((repeat (with_reducible refine (World.cell?_setCell_far _ _ _ _ (by dsimp only; omega)).trans ?_)); with_reducible assumption) | (with_reducible refine (World.cell?_alloc_lt _ _ _ (by dsimp only; omega)).trans ?_; with_reducible assumption) | (go_keep; done))))
            (first | (go_at_call_of 30 (Value.int IntKind.i64 3); refine (pick_any g (lim + 200 - 20 * (k : Int) + 3) 3 _ (by repeat (first | with_reducible exact HRD5.out | with_reducible refine Rd.alloc ?_ _ | with_reducible refine Rd.drew ?_)) (by omega) (by omega) (by omega)).mono ?_; rintro e w6 ⟨t, rfl, ht0, ht3, hrd6, hk6⟩; have hB6 := ((by repeat (first | with_reducible exact HBX.out | with_reducible refine Box.alloc ?_ _ | with_reducible refine Box.drew ?_)) : Box _ w1.heap.size 25 #[.slice A1 3 c1, .slice A2 3 c2, .int .i64 L]).keeps hk6 HgB.out; have j0 := hB6.cell 0; have j1 := hB6.cell 1; have j2 := hB6.cell 2; simp at j0 j1 j2; have z6 := hB6.lt; have HB6 := Lib.hid hB6; clear hB6; (first | (have T6 := (Box.new w5.drew w5.heap.size rfl 25 #[.slice none 0 0, .slice none 0 0, .int .i64 0]).keeps hk6 (HGZ.out _ z5); have y0 := T6.cell 0; have y1 := T6.cell 1; have y2 := T6.cell 2; have e0 := T6.frozen 0; have e1 := T6.frozen 1; have e2 := T6.frozen 2; simp at y0 y1 y2; have HT6 := Lib.hid T6; clear T6) | skip); have HK6 := Lib.hid hk6; clear hk6) | (go_at_call_of 30 (Value.int IntKind.i64 5); refine (pick_any g (lim + 200 - 20 * (k : Int) + 3 + 1) 5 _ (by repeat (first | with_reducible exact hrd6 | with_reducible refine Rd.alloc ?_ _ | with_reducible refine Rd.drew ?_)) (by omega) (by omega) (by omega)).mono ?_; rintro e w7 ⟨s, rfl, hs0, hs5, hrd7, hk7⟩; have hB7 := ((by repeat (first | with_reducible exact HB6.out | with_reducible refine Box.alloc ?_ _ | with_reducible refine Box.drew ?_)) : Box _ w1.heap.size 25 #[.slice A1 3 c1, .slice A2 3 c2, .int .i64 L]).keeps hk7 HgB.out; have j0 := hB7.cell 0; have j1 := hB7.cell 1; have j2 := hB7.cell 2; simp at j0 j1 j2; have z7 := hB7.lt; have HB7 := Lib.hid hB7; clear hB7; (first | (have T7 := HT6.out.keeps hk7 (HGZ.out _ z5); have y0 := T7.cell 0; have y1 := T7.cell 1; have y2 := T7.cell 2; have e0 := T7.frozen 0; have e1 := T7.frozen 1; have e2 := T7.frozen 2; simp at y0 y1 y2; have HT7 := Lib.hid T7; clear T7) | (have T7 := (Box.new w6 _ rfl 25 #[.slice none 0 0, .slice none 0 0, .int .i64 0]).keeps hk7 (HGZ.out _ (by omega)); have y0 := T7.cell 0; have y1 := T7.cell 1; have y2 := T7.cell 2; have e0 := T7.frozen 0; have e1 := T7.frozen 1; have e2 := T7.frozen 2; simp at y0 y1 y2; have HT7 := Lib.hid T7; clear T7) | skip); have HK7 := Lib.hid hk7; clear hk7) | (go_at_call 37; refine (specMove_draw A1 A2 c1 c2 L xs ys _ (by repeat (first | with_reducible exact HR1.out.ints | with_reducible refine Ints.alloc ?_ _ | with_reducible refine Ints.drew ?_ | with_reducible refine Ints.keeps ?_ HK7.out HQ1.out | with_reducible refine Ints.keeps ?_ HK6.out HQ1.out)) (by repeat (first | with_reducible exact HR2.out.ints | with_reducible refine Ints.alloc ?_ _ | with_reducible refine Ints.drew ?_ | with_reducible refine Ints.keeps ?_ HK7.out HQ2.out | with_reducible refine Ints.keeps ?_ HK6.out HQ2.out)) HOK.out _ _ _ _).mono ?_; rintro e w8 ⟨B1, n1, d1, B2, n2, d2, L', ok, rfl, hk8, hyes⟩; have hB8 := ((by repeat (first | with_reducible exact HB7.out | with_reducible refine Box.alloc ?_ _ | with_reducible refine Box.drew ?_)) : Box _ w1.heap.size 25 #[.slice A1 3 c1, .slice A2 3 c2, .int .i64 L]).keeps hk8 fun h => h; have j0 := hB8.cell 0; have j1 := hB8.cell 1; have j2 := hB8.cell 2; have g0 := hB8.frozen 0; have g1 := hB8.frozen 1; have g2 := hB8.frozen 2; simp at j0 j1 j2; have z8 := hB8.lt; have HB8 := Lib.hid hB8; have HYES := Lib.hid hyes; clear hB8 hyes; (first | (have T8 := HT7.out.keeps hk8 fun h => h; have y0 := T8.cell 0; have y1 := T8.cell 1; have y2 := T8.cell 2; have e0 := T8.frozen 0; have e1 := T8.frozen 1; have e2 := T8.frozen 2; simp at y0 y1 y2; have HT8 := Lib.hid T8; clear T8) | (have T8 := (Box.new w7 _ rfl 25 #[.slice none 0 0, .slice none 0 0, .int .i64 0]).keeps hk8 fun h => h; have y0 := T8.cell 0; have y1 := T8.cell 1; have y2 := T8.cell 2; have e0 := T8.frozen 0; have e1 := T8.frozen 1; have e2 := T8.frozen 2; simp at y0 y1 y2; have HT8 := Lib.hid T8; clear T8) | skip); have HK8 := Lib.hid hk8; clear hk8))
          · have s6 := HK6.out.size
            have s7 := HK7.out.size
            have s8 := HK8.out.size
            (try simp at s6)
            (try simp at s7)
            (try simp at s8)
            have hk8g := HK8.out.more (T := one g) (fun _ _ h => absurd h id)
            have hK58 : Keeps (one g) w5 w8 := by
              repeat (first | with_reducible exact Keeps.refl _ _ | with_reducible refine Keeps.trans ?_ hk8g | with_reducible refine Keeps.trans ?_ HK7.out | with_reducible refine Keeps.trans ?_ HK6.out | with_reducible refine Keeps.alloc ?_ _ | with_reducible refine Keeps.drew ?_)
            have hrd8 : Rd w8 g (lim + 200 - 20 * (k : Int) + 3 + 1 + 1) := by
              repeat (first | with_reducible exact hrd7 | with_reducible refine Rd.keeps ?_ HK8.out (fun _ _ h => h) | with_reducible refine Rd.alloc ?_ _)
            have hIX : DrawInv w (w8.alloc (.cells #[.slice B1 n1 d1, .slice B2 n2 d2, .int .i64 L'] 25)) g w1.heap.size (lim + 200 - 20 * (k : Int) + 3 + 1 + 1) :=
              DrawInv.step (tb := w8.heap.size) hg hz1 HRES.out HKP.out HBX.out HR1.out HR2.out HD.out HN1.out HN2.out HOK.out k1 k2 m1 m2 ((hK58.more (T := two g w8.heap.size) fun _ _ h => .inl h).alloc _) (by omega) (hrd8.alloc _)
            have HIX := Lib.hid hIX
            cases ok
            · clear hIX hK58 hk8g hrd8
              go_wp2
              go_roundw
              case rel => exact ⟨k - 1, by omega, by go_num, HIX.out.more (by omega)⟩
              case measure => simp [intOf]; omega
            · obtain ⟨e3, e4, b, hbok, hbl, hq1, hq2, hqd, j1, j2, j3, j4⟩ := HYES.out rfl
              subst e3
              subst e4
              subst hbl
              have hI8 : DrawInv w w8 g w1.heap.size (lim + 200 - 20 * (k : Int) + 3 + 1 + 1) :=
                DrawInv.step (tb := w8.heap.size) hg hz1 HRES.out HKP.out HBX.out HR1.out HR2.out HD.out HN1.out HN2.out HOK.out k1 k2 m1 m2 (hK58.more (T := two g w8.heap.size) fun _ _ h => .inl h) (by omega) hrd8
              obtain ⟨hX1, hX2, hX3, _, _, _, _, _, _, _, hX4, _⟩ := hI8
              have hx1 := hq1.less (lo' := w.heap.size + 1) (by (try simp); omega)
              have hx2 := hq2.less (lo' := w.heap.size + 1) (by (try simp); omega)
              have hNb1 : ¬ blk B1 3 w1.heap.size := fun h => by have := hq1.ge h; (try simp at this); omega
              have hNb2 : ¬ blk B2 3 w1.heap.size := fun h => by have := hq2.ge h; (try simp at this); omega
              have hfin := DrawInv.store (b := b) (c1 := d1) (c2 := d2) hg hz1 hX1 hX2 hX3 hX4 hx1 hx2 hqd hNb1 hNb2 hbok j1 j2 j3 j4
              have u0 := hX4.cell 0
              have u1 := hX4.cell 1
              have u2 := hX4.cell 2
              have u3 := hX4.frozen 0
              have u4 := hX4.frozen 1
              have u5 := hX4.frozen 2
              simp only [List.getElem?_toArray, List.getElem?_cons_zero, List.getElem?_cons_succ] at u0 u1 u2
              have HFIN := Lib.hid (hfin.alloc (.cells #[.slice B1 3 d1, .slice B2 3 d2, .int .i64 b.locked] 25))
              clear hIX hfin hX1 hX2 hX3 hX4 hx1 hx2 hq1 hq2 hqd hNb1 hNb2 hbok HIX hK58 hk8g hrd8
              go_wp2
              go_roundw
              case rel => exact ⟨k - 1, by omega, by go_num, HFIN.out.more (by omega)⟩
              case measure => simp [intOf]; omega
          · have s6 := HK6.out.size
            have s7 := HK7.out.size
            have s8 := HK8.out.size
            (try simp at s6)
            (try simp at s7)
            (try simp at s8)
            have hk8g := HK8.out.more (T := one g) (fun _ _ h => absurd h id)
            have hK58 : Keeps (one g) w5 w8 := by
              repeat (first | with_reducible exact Keeps.refl _ _ | with_reducible refine Keeps.trans ?_ hk8g | with_reducible refine Keeps.trans ?_ HK7.out | with_reducible refine Keeps.trans ?_ HK6.out | with_reducible refine Keeps.alloc ?_ _ | with_reducible refine Keeps.drew ?_)
            have hrd8 : Rd w8 g (lim + 200 - 20 * (k : Int) + 3 + 1 + 1) := by
              repeat (first | with_reducible exact hrd7 | with_reducible refine Rd.keeps ?_ HK8.out (fun _ _ h => h) | with_reducible refine Rd.alloc ?_ _)
            have hSX : Keeps (one w7.heap.size) w8 (((w8.setCell ⟨w7.heap.size, 0, none⟩ (.slice B1 n1 d1)).setCell ⟨w7.heap.size, 1, none⟩ (.slice B2 n2 d2)).setCell ⟨w7.heap.size, 2, none⟩ (.int .i64 L')) := (((Keeps.refl _ w8).set1 _ _).set1 _ _).set1 _ _
            have hIX : DrawInv w (((w8.setCell ⟨w7.heap.size, 0, none⟩ (.slice B1 n1 d1)).setCell ⟨w7.heap.size, 1, none⟩ (.slice B2 n2 d2)).setCell ⟨w7.heap.size, 2, none⟩ (.int .i64 L')) g w1.heap.size (lim + 200 - 20 * (k : Int) + 3 + 1 + 1) :=
              DrawInv.step (tb := w7.heap.size) hg hz1 HRES.out HKP.out HBX.out HR1.out HR2.out HD.out HN1.out HN2.out HOK.out k1 k2 m1 m2 ((((hK58.more (T := two g w7.heap.size) fun _ _ h => .inl h).setB _ _).setB _ _).setB _ _) (by omega) (hrd8.keeps hSX fun i hi h => by have h' : i = w7.heap.size := h; omega)
            have HIX := Lib.hid hIX
            cases ok
            · clear hIX hK58 hk8g hrd8 hSX
              go_wp2
              go_roundw
              case rel => exact ⟨k - 1, by omega, by go_num, HIX.out.more (by omega)⟩
              case measure => simp [intOf]; omega
            · obtain ⟨e3, e4, b, hbok, hbl, hq1, hq2, hqd, j1, j2, j3, j4⟩ := HYES.out rfl
              subst e3
              subst e4
              subst hbl
              obtain ⟨hX1, hX2, hX3, _, _, _, _, _, _, _, hX4, _⟩ := hIX
              have hx1 := (hq1.keeps hSX fun i hi h => by have h' : i = w7.heap.size := h; have := hq1.ge hi; (try simp at this); omega).less (lo' := w.heap.size + 1) (by (try simp); omega)
              have hx2 := (hq2.keeps hSX fun i hi h => by have h' : i = w7.heap.size := h; have := hq2.ge hi; (try simp at this); omega).less (lo' := w.heap.size + 1) (by (try simp); omega)
              have hNb1 : ¬ blk B1 3 w1.heap.size := fun h => by have := hq1.ge h; (try simp at this); omega
              have hNb2 : ¬ blk B2 3 w1.heap.size := fun h => by have := hq2.ge h; (try simp at this); omega
              have hfin := DrawInv.store (b := b) (c1 := d1) (c2 := d2) hg hz1 hX1 hX2 hX3 hX4 hx1 hx2 hqd hNb1 hNb2 hbok j1 j2 j3 j4
              have u0 := hX4.cell 0
              have u1 := hX4.cell 1
              have u2 := hX4.cell 2
              have u3 := hX4.frozen 0
              have u4 := hX4.frozen 1
              have u5 := hX4.frozen 2
              simp only [List.getElem?_toArray, List.getElem?_cons_zero, List.getElem?_cons_succ] at u0 u1 u2
              have HFIN := Lib.hid hfin
              clear hfin hX1 hX2 hX3 hX4 hx1 hx2 hq1 hq2 hqd hNb1 hNb2 hbok HIX hK58 hk8g hrd8 hSX
              go_wp2
              go_roundw
              case rel => exact ⟨k - 1, by omega, by go_num, HFIN.out.more (by omega)⟩
              case measure => simp [intOf]; omega
          · have s6 := HK6.out.size
            have s7 := HK7.out.size
            have s8 := HK8.out.size
            (try simp at s6)
            (try simp at s7)
            (try simp at s8)
            have hk8g := HK8.out.more (T := one g) (fun _ _ h => absurd h id)
            have hK58 : Keeps (one g) w5 w8 := by
              repeat (first | with_reducible exact Keeps.refl _ _ | with_reducible refine Keeps.trans ?_ hk8g | with_reducible refine Keeps.trans ?_ HK7.out | with_reducible refine Keeps.trans ?_ HK6.out | with_reducible refine Keeps.alloc ?_ _ | with_reducible refine Keeps.drew ?_)
            have hrd8 : Rd w8 g (lim + 200 - 20 * (k : Int) + 3 + 1 + 1) := by
              repeat (first | with_reducible exact hrd7 | with_reducible refine Rd.keeps ?_ HK8.out (fun _ _ h => h) | with_reducible refine Rd.alloc ?_ _)
            have hSX : Keeps (one w6.heap.size) w8 (((w8.setCell ⟨w6.heap.size, 0, none⟩ (.slice B1 n1 d1)).setCell ⟨w6.heap.size, 1, none⟩ (.slice B2 n2 d2)).setCell ⟨w6.heap.size, 2, none⟩ (.int .i64 L')) := (((Keeps.refl _ w8).set1 _ _).set1 _ _).set1 _ _
            have hIX : DrawInv w (((w8.setCell ⟨w6.heap.size, 0, none⟩ (.slice B1 n1 d1)).setCell ⟨w6.heap.size, 1, none⟩ (.slice B2 n2 d2)).setCell ⟨w6.heap.size, 2, none⟩ (.int .i64 L')) g w1.heap.size (lim + 200 - 20 * (k : Int) + 3 + 1 + 1) :=
              DrawInv.step (tb := w6.heap.size) hg hz1 HRES.out HKP.out HBX.out HR1.out HR2.out HD.out HN1.out HN2.out HOK.out k1 k2 m1 m2 ((((hK58.more (T := two g w6.heap.size) fun _ _ h => .inl h).setB _ _).setB _ _).setB _ _) (by omega) (hrd8.keeps hSX fun i hi h => by have h' : i = w6.heap.size := h; omega)
            have HIX := Lib.hid hIX
            cases ok
            · clear hIX hK58 hk8g hrd8 hSX
              go_wp2
              go_roundw
              case rel => exact ⟨k - 1, by omega, by go_num, HIX.out.more (by omega)⟩
              case measure => simp [intOf]; omega
            · obtain ⟨e3, e4, b, hbok, hbl, hq1, hq2, hqd, j1, j2, j3, j4⟩ := HYES.out rfl
              subst e3
              subst e4
              subst hbl
              obtain ⟨hX1, hX2, hX3, _, _, _, _, _, _, _, hX4, _⟩ := hIX
              have hx1 := (hq1.keeps hSX fun i hi h => by have h' : i = w6.heap.size := h; have := hq1.ge hi; (try simp at this); omega).less (lo' := w.heap.size + 1) (by (try simp); omega)
              have hx2 := (hq2.keeps hSX fun i hi h => by have h' : i = w6.heap.size := h; have := hq2.ge hi; (try simp at this); omega).less (lo' := w.heap.size + 1) (by (try simp); omega)
              have hNb1 : ¬ blk B1 3 w1.heap.size := fun h => by have := hq1.ge h; (try simp at this); omega
              have hNb2 : ¬ blk B2 3 w1.heap.size := fun h => by have := hq2.ge h; (try simp at this); omega
              have hfin := DrawInv.store (b := b) (c1 := d1) (c2 := d2) hg hz1 hX1 hX2 hX3 hX4 hx1 hx2 hqd hNb1 hNb2 hbok j1 j2 j3 j4
              have u0 := hX4.cell 0
              have u1 := hX4.cell 1
              have u2 := hX4.cell 2
              have u3 := hX4.frozen 0
              have u4 := hX4.frozen 1
              have u5 := hX4.frozen 2
              simp only [List.getElem?_toArray, List.getElem?_cons_zero, List.getElem?_cons_succ] at u0 u1 u2
              have HFIN := Lib.hid hfin
              clear hfin hX1 hX2 hX3 hX4 hx1 hx2 hq1 hq2 hqd hNb1 hNb2 hbok HIX hK58 hk8g hrd8 hSX
              go_wp2
              go_roundw
              case rel => exact ⟨k - 1, by omega, by go_num, HFIN.out.more (by omega)⟩
              case measure => simp [intOf]; omega
          · have s6 := HK6.out.size
            have s7 := HK7.out.size
            have s8 := HK8.out.size
            (try simp at s6)
            (try simp at s7)
            (try simp at s8)
            have hk8g := HK8.out.more (T := one g) (fun _ _ h => absurd h id)
            have hK58 : Keeps (one g) w5 w8 := by
              repeat (first | with_reducible exact Keeps.refl _ _ | with_reducible refine Keeps.trans ?_ hk8g | with_reducible refine Keeps.trans ?_ HK7.out | with_reducible refine Keeps.trans ?_ HK6.out | with_reducible refine Keeps.alloc ?_ _ | with_reducible refine Keeps.drew ?_)
            have hrd8 : Rd w8 g (lim + 200 - 20 * (k : Int) + 3 + 1 + 1) := by
              repeat (first | with_reducible exact hrd7 | with_reducible refine Rd.keeps ?_ HK8.out (fun _ _ h => h) | with_reducible refine Rd.alloc ?_ _)
            have hSX : Keeps (one w5.heap.size) w8 (((w8.setCell ⟨w5.heap.size, 0, none⟩ (.slice B1 n1 d1)).setCell ⟨w5.heap.size, 1, none⟩ (.slice B2 n2 d2)).setCell ⟨w5.heap.size, 2, none⟩ (.int .i64 L')) := (((Keeps.refl _ w8).set1 _ _).set1 _ _).set1 _ _
            have hIX : DrawInv w (((w8.setCell ⟨w5.heap.size, 0, none⟩ (.slice B1 n1 d1)).setCell ⟨w5.heap.size, 1, none⟩ (.slice B2 n2 d2)).setCell ⟨w5.heap.size, 2, none⟩ (.int .i64 L')) g w1.heap.size (lim + 200 - 20 * (k : Int) + 3 + 1 + 1) :=
              DrawInv.step (tb := w5.heap.size) hg hz1 HRES.out HKP.out HBX.out HR1.out HR2.out HD.out HN1.out HN2.out HOK.out k1 k2 m1 m2 ((((hK58.more (T := two g w5.heap.size) fun _ _ h => .inl h).setB _ _).setB _ _).setB _ _) (by omega) (hrd8.keeps hSX fun i hi h => by have h' : i = w5.heap.size := h; omega)
            have HIX := Lib.hid hIX
            cases ok
            · clear hIX hK58 hk8g hrd8 hSX
              go_wp2
              go_roundw
              case rel => exact ⟨k - 1, by omega, by go_num, HIX.out.more (by omega)⟩
              case measure => simp [intOf]; omega
            · obtain ⟨e3, e4, b, hbok, hbl, hq1, hq2, hqd, j1, j2, j3, j4⟩ := HYES.out rfl
              subst e3
              subst e4
              subst hbl
              obtain ⟨hX1, hX2, hX3, _, _, _, _, _, _, _, hX4, _⟩ := hIX
              have hx1 := (hq1.keeps hSX fun i hi h => by have h' : i = w5.heap.size := h; have := hq1.ge hi; (try simp at this); omega).less (lo' := w.heap.size + 1) (by (try simp); omega)
              have hx2 := (hq2.keeps hSX fun i hi h => by have h' : i = w5.heap.size := h; have := hq2.ge hi; (try simp at this); omega).less (lo' := w.heap.size + 1) (by (try simp); omega)
              have hNb1 : ¬ blk B1 3 w1.heap.size := fun h => by have := hq1.ge h; (try simp at this); omega
              have hNb2 : ¬ blk B2 3 w1.heap.size := fun h => by have := hq2.ge h; (try simp at this); omega
              have hfin := DrawInv.store (b := b) (c1 := d1) (c2 := d2) hg hz1 hX1 hX2 hX3 hX4 hx1 hx2 hqd hNb1 hNb2 hbok j1 j2 j3 j4
              have u0 := hX4.cell 0
              have u1 := hX4.cell 1
              have u2 := hX4.cell 2
              have u3 := hX4.frozen 0
              have u4 := hX4.frozen 1
              have u5 := hX4.frozen 2
              simp only [List.getElem?_toArray, List.getElem?_cons_zero, List.getElem?_cons_succ] at u0 u1 u2
              have HFIN := Lib.hid hfin
              clear hfin hX1 hX2 hX3 hX4 hx1 hx2 hq1 hq2 hqd hNb1 hNb2 hbok HIX hK58 hk8g hrd8 hSX
              go_wp2
              go_roundw
              case rel => exact ⟨k - 1, by omega, by go_num, HFIN.out.more (by omega)⟩
              case measure => simp [intOf]; omega
end Go.Proofs.Ytedmkbiamjpdaab
