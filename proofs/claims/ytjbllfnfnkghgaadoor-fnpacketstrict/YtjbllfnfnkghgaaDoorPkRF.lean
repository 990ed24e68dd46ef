/- impl.readField: a word is the number that it spells, if that number is spelt so; else the error of packets. -/
import Derived.Test.YtjbllfnfnkghgaaDoorPkI
import Derived.Test.YtjbllfnfnkghgaaDoorPkIs
import Derived.Test.YtjbllfnfnkghgaaDoorShelfR
import Derived.Shelf.Strconv.ErrVarAll
import Derived.Lib.AtoiAllCases
import Derived.Lib.SmallJoins
import Derived.Sort.Grow
import Derived.ChangeBears2
set_option linter.unusedVariables false
set_option linter.unusedSimpArgs false
namespace Go.Proofs.YtjbllfnfnkghgaaDoor
open Go.RowKit Go.Joins

theorem var_keeps {P : Program} {w w' : World} {n : String} {cs : Array Value} (h : w.var? P n = some cs) (hk : Keeps noBlk w w') : w'.var? P n = some cs := by
  unfold World.var? at h ⊢
  cases hg : P.globalNamed n with
  | none => rw [hg] at h; cases h
  | some g =>
    rw [hg] at h
    simp only [Option.bind_some] at h ⊢
    have hlt : g < w.heap.size := by
      cases hh : w.heap[g]? with
      | none => rw [hh] at h; cases h
      | some o => exact (Array.getElem?_eq_some_iff.1 hh).1
    rw [hk.block g hlt (fun a => a)]
    exact h

/-- What the reading of packets finds in the variables: the tables, the errors. -/
def Libs (w : World) (aE : Addr) : Prop :=
  Tabs w ∧ Lib.TabIs Tryd.prog w "internal/strconv.uint64pow10" .u64 Lib.pow10Tab ∧
  (∃ tp p, w.var? Tryd.prog "strconv.ErrSyntax" = some #[.iface tp p]) ∧ (∃ tp p, w.var? Tryd.prog "strconv.ErrRange" = some #[.iface tp p]) ∧
  w.cell? ⟨0, 0, none⟩ = some (.iface 133 (.pointer (some aE))) ∧ ∃ m, w.cell? ⟨4, 0, none⟩ = some (.int .i64 m)
theorem Libs.keeps {w w' : World} {aE : Addr} (h : Libs w aE) (hk : Keeps noBlk w w') : Libs w' aE := by
  obtain ⟨h1, h2, ⟨t1, p1, h3⟩, ⟨t2, p2, h4⟩, h5, m, h6⟩ := h
  exact ⟨h1.keeps hk, var_keeps h2 hk, ⟨t1, p1, var_keeps h3 hk⟩, ⟨t2, p2, var_keeps h4 hk⟩, (hk.cell (World.block_lt_of_cell? w _ h5) (fun a => a)).trans h5, m, (hk.cell (World.block_lt_of_cell? w _ h6) (fun a => a)).trans h6⟩

theorem atoi_bad (s : ByteArray) (hl : s.size ≤ 1000) (h : ∀ v, Lib.atoiAll s.data.toList ≠ .ok v) (aE : Addr) (w : World) (hL : Libs w aE) :
    Calls Tryd.prog 57 #[.string s] w fun e w' => ∃ n N, e = .returned (.tuple #[.int .i64 n, .iface 115 (.pointer (some ⟨N, 0, none⟩))]) ∧ Keeps noBlk w w' := by
  obtain ⟨_, _, ⟨t1, p1, h3⟩, ⟨t2, p2, h4⟩, _⟩ := hL
  cases hq : Lib.atoiAll s.data.toList with
  | ok v => exact absurd hq (h v)
  | _ =>
    first
    | exact (Any.strconv_Atoi_syntax_var Tryd.laysC172 s (by omega) hq t1 p1 w h3).mono fun e w' ⟨N, he, _, _, hb⟩ => ⟨_, N, he, Below.keeps hb _⟩
    | exact (Any.strconv_Atoi_range_var Tryd.laysC172 s (by omega) hq t2 p2 w h4).mono fun e w' ⟨N, he, _, _, hb⟩ => ⟨_, N, he, Below.keeps hb _⟩
theorem atoi_ok (s : ByteArray) (hl : s.size ≤ 1000) (v : Int) (h : Lib.atoiAll s.data.toList = .ok v) (w : World) :
    Calls Tryd.prog 57 #[.string s] w fun e w' => e = .returned (.tuple #[.int .i64 v, .nilIface]) ∧ Keeps noBlk w w' :=
  (Tryd.strconv_Atoi_ok s (by omega) v h w).mono fun e w' ⟨he, hw⟩ => ⟨he, by
    rcases hw with rfl | ⟨t, rfl⟩
    · exact Keeps.refl _ _
    · exact Below.keeps (below_bytesWorld _ w _ t (Nat.le_refl _)) _⟩
theorem keeps_grow (w : World) (k : Nat) (os : Array Obj) : Keeps noBlk w (Sort.grow (w.drewN k) os) :=
  ⟨rfl, rfl, rfl, by simp [Sort.grow, World.drewN], fun b hb _ => by
    show (w.heap ++ os)[b]? = w.heap[b]?
    exact Array.getElem?_append_left hb⟩
theorem itoa_any (v : Int) (h : -9223372036854775808 ≤ v ∧ v ≤ 9223372036854775807) (aE : Addr) (w : World) (hL : Libs w aE) :
    Calls Tryd.prog 26 #[.int .i64 v] w fun e w' => e = .returned (.string ⟨(Lib.itoa v).toArray⟩) ∧ Keeps noBlk w w' :=
  (Tryd.strconv_Itoa v h.1 h.2 w hL.2.1).mono fun e w' ⟨he, k, os, hw⟩ => ⟨he, by
    subst hw
    exact keeps_grow w k os⟩

/-- The number that a word is, if it is spelt as numbers are. -/
def cz (l : List UInt8) : Option Int := match Lib.atoiAll l with
  | .ok v => if Lib.itoa v = l then some v else none
  | _ => none
theorem cz_some {l : List UInt8} {v : Int} (h : cz l = some v) : Lib.atoiAll l = .ok v ∧ Lib.itoa v = l := by
  unfold cz at h
  cases hq : Lib.atoiAll l with
  | ok x =>
    rw [hq] at h
    simp only at h
    split at h
    · next e => cases h; exact ⟨rfl, e⟩
    · cases h
  | _ => rw [hq] at h; cases h
theorem cz_none {l : List UInt8} (h : cz l = none) : (∀ v, Lib.atoiAll l ≠ .ok v) ∨ ∃ v, Lib.atoiAll l = .ok v ∧ Lib.itoa v ≠ l := by
  unfold cz at h
  cases hq : Lib.atoiAll l with
  | ok x =>
    rw [hq] at h
    simp only at h
    split at h
    · cases h
    · next e => exact .inr ⟨x, rfl, e⟩
  | _ => exact .inl fun v hv => by cases hv

set_option maxHeartbeats 1000000 in
theorem rf_some (l : List UInt8) (hl : l.length ≤ 100) (v : Int) (h : cz l = some v) (aE : Addr) (w : World) (hL : Libs w aE) :
    Calls Tryd.prog 49 #[.string ⟨l.toArray⟩] w fun e w' => e = .returned (.tuple #[.int .i64 v, .nilIface]) ∧ Keeps noBlk w w' := by
  obtain ⟨h1, h2⟩ := cz_some h
  have hb := Lib.atoiAll_bounds h1
  have HA := Lib.hid (fun W => atoi_ok ⟨l.toArray⟩ (by simp [ByteArray.size]; omega) v h1 W)
  have HI := Lib.hid (fun W hW => (show Calls Tryd.prog 26 #[.int .i64 v] W (fun e w' => e = .returned (.string ⟨l.toArray⟩) ∧ Keeps noBlk W w') from by have h9 := itoa_any v hb aE W hW; rw [h2] at h9; exact h9))
  have HL := Lib.hid hL
  clear h h1 h2 hL
  go_enter Tryd.func49, Tryd.ntmps49
  go_wp2_with fail
  refine (HA.out _).mono ?_
  rintro e w1 ⟨rfl, hk1⟩
  have HK1 := Lib.hid hk1
  clear hk1
  go_wp2_with fail
  refine (HI.out _ (HL.out.keeps HK1.out)).mono ?_
  rintro e w2 ⟨rfl, hk2⟩
  have HK2 := Lib.hid (HK1.out.trans hk2)
  clear hk2
  go_wp2
  go_ret2
  exact ⟨rfl, HK2.out⟩

set_option maxHeartbeats 1000000 in
theorem rf_none (l : List UInt8) (hl : l.length ≤ 100) (h : cz l = none) (aE : Addr) (w : World) (hL : Libs w aE) :
    Calls Tryd.prog 49 #[.string ⟨l.toArray⟩] w fun e w' => e = .returned (.tuple #[.int .i64 0, .iface 133 (.pointer (some aE))]) ∧ Keeps noBlk w w' := by
  have HL := Lib.hid hL
  rcases cz_none h with h1 | ⟨v, h1, h2⟩
  · have HA := Lib.hid (atoi_bad ⟨l.toArray⟩ (by simp [ByteArray.size]; omega) h1 aE w hL)
    clear h h1 hL
    go_enter Tryd.func49, Tryd.ntmps49
    go_wp2_with fail
    refine HA.out.mono ?_
    rintro e w1 ⟨n, N, rfl, hk1⟩
    have hc := (HL.out.keeps hk1).2.2.2.2.1
    have HK1 := Lib.hid hk1
    clear hk1
    go_wp2
    go_quiet (fail)
    go_wp2
    go_ret2
    exact ⟨rfl, HK1.out.drewN _⟩
  · have hb := Lib.atoiAll_bounds h1
    have HA := Lib.hid (fun W => atoi_ok ⟨l.toArray⟩ (by simp [ByteArray.size]; omega) v h1 W)
    have HI := Lib.hid (fun W hW => itoa_any v hb aE W hW)
    have q1 : (Lib.itoa v == l) = false := by simpa using h2
    have q2 : (Lib.itoa v != l) = true := by simpa using h2
    clear h h1 h2 hL
    generalize Lib.itoa v = x at HI q1 q2
    go_enter Tryd.func49, Tryd.ntmps49
    go_wp2_with fail
    refine (HA.out _).mono ?_
    rintro e w1 ⟨rfl, hk1⟩
    have HK1 := Lib.hid hk1
    clear hk1
    go_wp2_with fail
    refine (HI.out _ (HL.out.keeps HK1.out)).mono ?_
    rintro e w2 ⟨rfl, hk2⟩
    have hK := HK1.out.trans hk2
    have hc := (HL.out.keeps hK).2.2.2.2.1
    have HK2 := Lib.hid hK
    clear hk2 hK
    go_wp2
    go_quiet (fail)
    go_wp2
    go_ret2
    exact ⟨rfl, HK2.out.drewN _⟩
end Go.Proofs.YtjbllfnfnkghgaaDoor
