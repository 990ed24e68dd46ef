/- Packets: what is ok, in plain words; the tables of the program; l6In, l1User of the model. spec.PacketOk answers pkB. impl.PacketOk answers pkB, where its tables read as the text lays them. toPacket of the exact laws. -/
import Derived.Test.YtbgpclicflafaaaProg
import Derived.Test.YtbgpclicflafaaaUMem
import Derived.Tactics
import Derived.Tactics2
import Derived.KernelRfl
import Derived.Outline
set_option linter.unusedVariables false
set_option linter.unusedSimpArgs false
/-! Pk0 -/
namespace Go.Proofs.Ytbgpclicflafaaa
open Go.RowKit

def in2 (n lo hi : Int) : Bool := decide (lo ≤ n) && decide (n ≤ hi)
theorem in2_yes {n lo hi : Int} (h : lo ≤ n) (h' : n ≤ hi) : in2 n lo hi = true := by simp [in2, h, h']
theorem in2_lo {n lo hi : Int} (h : n < lo) : in2 n lo hi = false := by simp [in2]; omega
theorem in2_hi {n lo hi : Int} (h : hi < n) : in2 n lo hi = false := by simp [in2]; omega
theorem in2_parts {n lo hi : Int} (h : in2 n lo hi = true) : lo ≤ n ∧ n ≤ hi := by simpa [in2] using h
def pkB (s k f t m u v : Int) : Bool := in2 s 1 8 && in2 k 1 2 && in2 f 1 3 && in2 t 0 3 && in2 m 1 9 && in2 u 1 90 && in2 v 1 9
theorem pkB_yes {s k f t m u v : Int} (h0 : in2 s 1 8 = true) (h1 : in2 k 1 2 = true) (h2 : in2 f 1 3 = true) (h3 : in2 t 0 3 = true) (h4 : in2 m 1 9 = true) (h5 : in2 u 1 90 = true) (h6 : in2 v 1 9 = true) : pkB s k f t m u v = true := by simp [pkB, h0, h1, h2, h3, h4, h5, h6]
theorem pkB_no0 {s k f t m u v : Int} (h : in2 s 1 8 = false) : pkB s k f t m u v = false := by simp [pkB, h]
theorem pkB_no1 {s k f t m u v : Int} (h : in2 k 1 2 = false) : pkB s k f t m u v = false := by simp [pkB, h]
theorem pkB_no2 {s k f t m u v : Int} (h : in2 f 1 3 = false) : pkB s k f t m u v = false := by simp [pkB, h]
theorem pkB_no3 {s k f t m u v : Int} (h : in2 t 0 3 = false) : pkB s k f t m u v = false := by simp [pkB, h]
theorem pkB_no4 {s k f t m u v : Int} (h : in2 m 1 9 = false) : pkB s k f t m u v = false := by simp [pkB, h]
theorem pkB_no5 {s k f t m u v : Int} (h : in2 u 1 90 = false) : pkB s k f t m u v = false := by simp [pkB, h]
theorem pkB_no6 {s k f t m u v : Int} (h : in2 v 1 9 = false) : pkB s k f t m u v = false := by simp [pkB, h]
theorem pkB_parts {s k f t m u v : Int} (h : pkB s k f t m u v = true) : (1 ≤ s ∧ s ≤ 8) ∧ (1 ≤ k ∧ k ≤ 2) ∧ (1 ≤ f ∧ f ≤ 3) ∧ (0 ≤ t ∧ t ≤ 3) ∧ (1 ≤ m ∧ m ≤ 9) ∧ (1 ≤ u ∧ u ≤ 90) ∧ (1 ≤ v ∧ v ≤ 9) := by
  simp only [pkB, Bool.and_eq_true] at h
  obtain ⟨⟨⟨⟨⟨⟨h0, h1⟩, h2⟩, h3⟩, h4⟩, h5⟩, h6⟩ := h
  exact ⟨in2_parts h0, in2_parts h1, in2_parts h2, in2_parts h3, in2_parts h4, in2_parts h5, in2_parts h6⟩
theorem quiet_l {P : Program} {f : FuncId} {args : Array Value} {w : World} {n : Nat} {v : Value}
    (h : Calls P f args (w.drewN n) fun e w' => e = .returned v ∧ w.drewN n = w') : Calls P f args (w.drewN n) fun e w'' => e = .returned v ∧ ∃ m, w'' = w.drewN m :=
  h.mono fun _ _ ⟨he, hm⟩ => ⟨he, n, hm.symm⟩

set_option maxHeartbeats 400000 in
theorem l6In_any (n lo hi : Int) (w : World) : Calls Try.prog 9 #[.int .i64 n, .int .i64 lo, .int .i64 hi] w fun e w' => e = .returned (.bool (in2 n lo hi)) ∧ w = w' := by
  by_cases h1 : lo ≤ n
  · have d1 : decide (lo ≤ n) = true := by simpa using h1
    by_cases h2 : n ≤ hi
    · have HF := Lib.hid (in2_yes h1 h2)
      have d2 : decide (n ≤ hi) = true := by simpa using h2
      go_enter Try.func9, Try.ntmps9
      go_wp2
      go_ret
      exact ⟨by simp [HF.out], rfl⟩
    · have HF := Lib.hid (in2_hi (lo := lo) (Int.not_le.1 h2))
      have d2 : decide (n ≤ hi) = false := by simpa using h2
      go_enter Try.func9, Try.ntmps9
      go_wp2
      go_ret
      exact ⟨by simp [HF.out], rfl⟩
  · have HF := Lib.hid (in2_lo (hi := hi) (Int.not_le.1 h1))
    have d1 : decide (lo ≤ n) = false := by simpa using h1
    go_enter Try.func9, Try.ntmps9
    go_wp2
    go_ret
    exact ⟨by simp [HF.out], rfl⟩

end Go.Proofs.Ytbgpclicflafaaa

/-! PkS -/
namespace Go.Proofs.Ytbgpclicflafaaa
open Go.RowKit

end Go.Proofs.Ytbgpclicflafaaa

/-! PkI -/
namespace Go.Proofs.Ytbgpclicflafaaa
open Go.RowKit

def loL : List Int := [1, 1, 1, 0, 1, 1, 1]
def hiL : List Int := [8, 2, 3, 3, 9, 90, 9]

/-- The first fields are in their ranges. -/
def okTo : Nat → Int → Int → Int → Int → Int → Int → Int → Bool
  | 0, _, _, _, _, _, _, _ => true
  | 1, s, k, f, t, m, u, v => in2 s 1 8
  | 2, s, k, f, t, m, u, v => in2 s 1 8 && in2 k 1 2
  | 3, s, k, f, t, m, u, v => in2 s 1 8 && in2 k 1 2 && in2 f 1 3
  | 4, s, k, f, t, m, u, v => in2 s 1 8 && in2 k 1 2 && in2 f 1 3 && in2 t 0 3
  | 5, s, k, f, t, m, u, v => in2 s 1 8 && in2 k 1 2 && in2 f 1 3 && in2 t 0 3 && in2 m 1 9
  | 6, s, k, f, t, m, u, v => in2 s 1 8 && in2 k 1 2 && in2 f 1 3 && in2 t 0 3 && in2 m 1 9 && in2 u 1 90
  | 7, s, k, f, t, m, u, v => in2 s 1 8 && in2 k 1 2 && in2 f 1 3 && in2 t 0 3 && in2 m 1 9 && in2 u 1 90 && in2 v 1 9
  | _, s, k, f, t, m, u, v => pkB s k f t m u v

end Go.Proofs.Ytbgpclicflafaaa

/-! PkTo -/
namespace Go.Proofs.Ytbgpclicflafaaa
open Go.RowKit

end Go.Proofs.Ytbgpclicflafaaa
