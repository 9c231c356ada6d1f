/- What is proved here: the lesser of two floats that are not below 0 (no program). -/
import Derived.Test.YtahfkkkfpcdjaabGreatDoorC33
import GoSem.Extern.MathDim
namespace Go.Proofs.YtahfkkkfpcdjaabGreatDoor.EN
open Go.ChangeShapes Go.WideShapes Go.ChangeAt Go.RowKit

theorem pos_word {x : Nat} (hx : x ≤ 2047 * 2 ^ 52) : FT.rung x = x ∧ FT.neg x = false ∧ FT.nan x = false := by
  have h1 := FT.wrd_rung false x (by omega)
  have h2 := FT.wrd_neg false x (by omega)
  have h3 := wrd_nan false hx
  rw [show FT.wrd false x = x from rfl] at h1 h2 h3
  exact ⟨h1, h2, h3⟩
theorem pos_read {x : Nat} (hx : x ≤ 2047 * 2 ^ 52) : (FloatKind.f64.decode x == .infinity true) = false ∧ (FloatKind.f64.decode x).isNaN = false ∧ (FloatKind.f64.decode x).neg = false ∧ ((FloatKind.f64.decode x).isZero = true → x = 0) := by
  obtain ⟨h1, h2, h3⟩ := pos_word hx
  by_cases h : x = 2047 * 2 ^ 52
  · have hr : FloatKind.f64.decode x = .infinity (FT.neg x) := FT.read_inf (by rw [h1]; exact h)
    rw [hr, h2]
    exact ⟨rfl, rfl, rfl, fun h => by cases h⟩
  · obtain ⟨m, p, hr, -, -, hz⟩ := FT.read_number (b := x) (by rw [h1]; unfold FT.infR; omega)
    have hr' : FloatKind.f64.decode x = .number (FT.neg x) m p := hr
    rw [hr', h2]
    refine ⟨rfl, rfl, rfl, fun h => ?_⟩
    rw [h1] at hz
    refine hz.1 ?_
    cases m with
    | zero => rfl
    | succ m => exact absurd h (by simp [Ieee.Datum.isZero])
theorem pick_min {x y : Nat} (hx : x ≤ 2047 * 2 ^ 52) (hy : y ≤ 2047 * 2 ^ 52) :
    Extern.MathDim.pick "math.archMin" true .lt #[.float .f64 x, .float .f64 y] = pure (.float .f64 (min x y)) := by
  obtain ⟨a1, a2, a3, a4⟩ := pos_read hx
  obtain ⟨b1, b2, b3, b4⟩ := pos_read hy
  obtain ⟨x1, x2, x3⟩ := pos_word hx
  obtain ⟨y1, y2, y3⟩ := pos_word hy
  have ho : (FloatKind.f64.decode x).order (FloatKind.f64.decode y) = some (compare (x : Int) y) := by
    have h := FT.ord_f x y
    rw [x3, y3] at h
    unfold FT.key at h
    rw [x1, x2, y1, y2] at h
    exact h
  have hc : (some (compare (x : Int) y) == some Ordering.lt) = decide (x < y) := by
    rcases Int.lt_trichotomy (x : Int) y with h1 | h1 | h1
    · rw [Int.compare_eq_lt.2 h1, decide_eq_true (by omega)]; rfl
    · rw [Int.compare_eq_eq.2 h1, decide_eq_false (by omega)]; rfl
    · rw [Int.compare_eq_gt.2 h1, decide_eq_false (by omega)]; rfl
  have e : Extern.MathDim.pick "math.archMin" true .lt #[.float .f64 x, .float .f64 y] = pure (.float .f64 (if FloatKind.f64.decode x == .infinity true || FloatKind.f64.decode y == .infinity true then FloatKind.f64.encode (.infinity true)
      else if (FloatKind.f64.decode x).isNaN || (FloatKind.f64.decode y).isNaN then 0x7FF8000000000001
      else if (FloatKind.f64.decode x).isZero && (FloatKind.f64.decode y).isZero then (if (FloatKind.f64.decode x).neg == true then x else y)
      else if (FloatKind.f64.decode x).order (FloatKind.f64.decode y) == some .lt then x else y)) := rfl
  rw [e]
  clear e
  simp only [a1, a2, a3, b1, b2, Bool.or_self, Bool.false_eq_true, if_false, ho, hc, decide_eq_true_eq]
  congr 2
  split
  · rename_i h
    simp only [Bool.and_eq_true] at h
    rw [a4 h.1, b4 h.2]
    rfl
  · split <;> omega
end Go.Proofs.YtahfkkkfpcdjaabGreatDoor.EN
