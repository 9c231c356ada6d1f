/- What is proved here: plain facts on the lowest bit of a number and on the table by which zeros are counted (no program). -/
import Derived.Test.YthbjdmadbakchaaDoorF
namespace Go.Proofs.YthbjdmadbakchaaDoor.FT

theorem odd_part : ∀ x : Nat, x ≠ 0 → ∃ j k, x = (2 * j + 1) * 2 ^ k := by
  intro x
  induction x using Nat.strongRecOn with
  | ind x ih =>
    intro h
    rcases Nat.mod_two_eq_zero_or_one x with h2 | h2
    · obtain ⟨j, k, e⟩ := ih (x / 2) (by omega) (by omega)
      refine ⟨j, k + 1, ?_⟩
      rw [Nat.pow_succ, ← Nat.mul_assoc, ← e]
      omega
    · exact ⟨x / 2, 0, by simp; omega⟩

theorem tz_lt {j k : Nat} (h : (2 * j + 1) * 2 ^ k < 2 ^ 64) : k < 64 := by
  rcases Nat.lt_or_ge k 64 with h1 | h1
  · exact h1
  · have h2 : 2 ^ 64 ≤ 2 ^ k := Nat.pow_le_pow_right (by omega) h1
    have h3 : 1 * 2 ^ k ≤ (2 * j + 1) * 2 ^ k := Nat.mul_le_mul_right _ (by omega)
    omega

theorem low_bit (j k : Nat) (h : (2 * j + 1) * 2 ^ k < 2 ^ 64) :
    (2 * j + 1) * 2 ^ k &&& (2 ^ 64 - (2 * j + 1) * 2 ^ k) = 2 ^ k := by
  have hk := tz_lt h
  have hp : 0 < 2 ^ k := Nat.two_pow_pos k
  have e : (2 * j + 1) * 2 ^ k = (2 * j * 2 ^ k + (2 ^ k - 1)) + 1 := by rw [Nat.add_mul]; omega
  apply Nat.eq_of_testBit_eq
  intro i
  rw [Nat.testBit_and]
  have e2 : 2 ^ 64 - (2 * j + 1) * 2 ^ k = 2 ^ 64 - (2 * j * 2 ^ k + (2 ^ k - 1) + 1) := by rw [← e]
  rw [e2, Nat.testBit_two_pow_sub_succ (by omega), Nat.testBit_mul_two_pow, Nat.testBit_two_pow]
  by_cases hi : i < k
  · have h1 : ¬ k ≤ i := by omega
    have h2 : ¬ k = i := by omega
    simp [h1, h2]
  · have h1 : k ≤ i := by omega
    have e3 : 2 * j * 2 ^ k + (2 ^ k - 1) = 2 ^ k * (2 * j) + (2 ^ k - 1) := by rw [Nat.mul_comm]
    rw [e3, Nat.testBit_two_pow_mul_add _ (by omega), if_neg hi]
    by_cases h2 : k = i
    · subst h2
      have : (2 * j + 1).testBit 0 = true := by simp [Nat.testBit_zero]
      have h3 : (2 * j).testBit 0 = false := by simp [Nat.testBit_zero]
      simp [this, h3, hk]
    · obtain ⟨d, hd⟩ : ∃ d, i - k = d + 1 := ⟨i - k - 1, by omega⟩
      rw [hd]
      have e4 : (2 * j + 1).testBit (d + 1) = j.testBit d := by rw [Nat.testBit_succ]; congr 1; omega
      have e5 : (2 * j).testBit (d + 1) = j.testBit d := by rw [Nat.testBit_succ]; congr 1; omega
      rw [e4, e5]
      cases j.testBit d <;> simp [h2]

def tab : List Nat := [0, 1, 56, 2, 57, 49, 28, 3, 61, 58, 42, 50, 38, 29, 17, 4, 62, 47, 59, 36, 45, 43, 51, 22, 53, 39, 33, 30, 24, 18, 12, 5, 63, 55, 48, 27, 60, 41, 37, 16, 46, 35, 44, 21, 52, 32, 23, 11, 54, 26, 40, 15, 34, 20, 31, 10, 25, 14, 19, 9, 13, 8, 7, 6]
def ix (k : Nat) : Nat := 2 ^ k * 285870213051353865 % 2 ^ 64 / 2 ^ 58
theorem tab_all : ∀ k : Fin 64, ix k.val < 64 ∧ tab.getD (ix k.val) 0 = k.val := by decide +kernel
theorem ix_lt {k : Nat} (h : k < 64) : ix k < 64 := (tab_all ⟨k, h⟩).1
theorem tab_ix {k : Nat} (h : k < 64) : tab.getD (ix k) 0 = k := (tab_all ⟨k, h⟩).2

/-- The walk's own term for the place in the table. -/
theorem place (x j k : Nat) (e : x = (2 * j + 1) * 2 ^ k) (h : x < 2 ^ 64) :
    IntKind.u64.wrap (bits BinOp.and IntKind.u64 (x : Int) (IntKind.u64.wrap (-(x : Int))) * 285870213051353865) / 288230376151711744 = (ix k : Int) := by
  have hx0 : x ≠ 0 := by
    rw [e]
    exact Nat.mul_ne_zero (by omega) (by have := Nat.two_pow_pos k; omega)
  have w1 : IntKind.u64.wrap (-(x : Int)) = ((2 ^ 64 - x : Nat) : Int) := by
    rw [IntKind.wrap_u64]
    omega
  rw [w1, u64_and_nat x _ h (by omega)]
  have w2 : x &&& (2 ^ 64 - x) = 2 ^ k := by rw [e] at h ⊢; exact low_bit j k h
  rw [w2, IntKind.wrap_u64]
  unfold ix
  generalize 2 ^ k = q
  omega

end Go.Proofs.YthbjdmadbakchaaDoor.FT
