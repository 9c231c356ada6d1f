/- What is proved here: half of the gap above a float, and how floats compare with it (no program), over this seat's translation. -/
import Derived.Test.YtielcpkcfpbanacGreatDoorC33
namespace Go.Proofs.YtielcpkcfpbanacGreatDoor.EN
open Go.RowKit

/-- The gap above a float of this exponent, as a word. -/
def uN (e : Nat) : Nat := if e ≤ 52 then 2 ^ (e - 1) else (e - 52) * 2 ^ 52
set_option maxRecDepth 100000 in
theorem half_all : ∀ e : _root_.Fin 2047, e.val < 2 ∨ Ieee.double.div (uN e.val) 4611686018427387904 = some (uN (e.val - 1)) := by decide +kernel
theorem ulp_word {e : Nat} (h1 : 1 ≤ e) (h2 : e ≤ 2046) : nearV 11 52 1 ((e : Int) - 1075) = uN e := by
  unfold uN
  by_cases h : e ≤ 52
  · rw [if_pos h]; exact ulp_den e h1 h
  · rw [if_neg h]; exact ulp_nor e (by omega) h2
theorem half_word {e : Nat} (h1 : 2 ≤ e) (h2 : e < 2047) : Ieee.double.div (nearV 11 52 1 ((max e 1 : Nat) - 1075)) 4611686018427387904 = some (hv e) := by
  have h := half_all ⟨e, h2⟩
  rcases h with h | h
  · exact absurd h (by show ¬ e < 2; omega)
  · unfold hv
    rw [show max e 1 = e from by omega, ulp_word (by omega) (by omega), ulp_word (by omega) (by omega)]
    exact h
/-- Floats that aren't below 0 compare as their words. -/
theorem not_above {V W : Nat} (h : V ≤ W) (hW : W ≤ 2047 * 2 ^ 52) : (FloatKind.f64.format.order V W == some .gt) = false := by
  have e1 : FT.wrd false V = V := rfl
  have e2 : FT.wrd false W = W := rfl
  have n1 := wrd_nan false (V := V) (by omega)
  have n2 := wrd_nan false hW
  have r1 := FT.wrd_rung false V (by omega)
  have r2 := FT.wrd_rung false W (by omega)
  have s1 := FT.wrd_neg false V (by omega)
  have s2 := FT.wrd_neg false W (by omega)
  rw [e1] at n1 r1 s1
  rw [e2] at n2 r2 s2
  rw [FT.ord_f, n1, n2]
  unfold FT.key
  rw [s1, s2, r1, r2]
  simp only [Bool.or_self, Bool.false_eq_true, if_false]
  rcases Nat.lt_or_ge V W with h1 | h1
  · rw [Int.compare_eq_lt.2 (by omega)]; rfl
  · obtain rfl : V = W := by omega
    simp
end Go.Proofs.YtielcpkcfpbanacGreatDoor.EN
