/- What is proved here: plain facts on the tests of package math on words (no program). -/
import Derived.Test.YthbjdmadbakchaaDoorF
namespace Go.Proofs.YthbjdmadbakchaaDoor.FT

theorem ord_f (a b : Nat) : FloatKind.f64.format.order a b = if nan a || nan b then none else some (compare (key a) (key b)) := order_eq a b

theorem neq_self (b : Nat) : (FloatKind.f64.format.order b b != some .eq) = nan b := by
  rw [ord_f]
  cases h : nan b <;> simp

theorem eq_self (b : Nat) : (FloatKind.f64.format.order b b == some .eq) = !nan b := by
  rw [ord_f]
  cases h : nan b <;> simp

theorem neg_cases (b : Nat) (h : b < 2 ^ 64) : (neg b = true ∧ b = rung b + 2 ^ 63) ∨ (neg b = false ∧ b = rung b) := by
  unfold neg rung
  rcases Nat.lt_or_ge b (2 ^ 63) with h1 | h1
  · right
    have : b / 2 ^ 63 = 0 := by omega
    rw [this]
    exact ⟨rfl, by omega⟩
  · left
    have : b / 2 ^ 63 = 1 := by omega
    rw [this]
    exact ⟨rfl, by omega⟩

theorem rung_lt (b : Nat) : rung b < 2 ^ 63 := Nat.mod_lt _ (by omega)
theorem rung_rung (b : Nat) : rung (rung b) = rung b := by unfold rung; omega
theorem neg_rung (b : Nat) : neg (rung b) = false := by unfold neg rung; have : b % 2 ^ 63 / 2 ^ 63 = 0 := by omega
                                                        rw [this]; rfl
theorem nan_rung (b : Nat) : nan (rung b) = nan b := by unfold nan; rw [rung_rung]
theorem key_rung (b : Nat) : key (rung b) = rung b := by unfold key; rw [neg_rung, rung_rung]; rfl

theorem cmp_lt {a b : Int} (h : a < b) : compare a b = .lt := Int.compare_eq_lt.2 h
theorem cmp_gt {a b : Int} (h : b < a) : compare a b = .gt := Int.compare_eq_gt.2 h

theorem rung_small {c : Nat} (h : c < 2 ^ 63) : rung c = c := by unfold rung; omega
theorem neg_small {c : Nat} (h : c < 2 ^ 63) : neg c = false := by
  unfold neg
  have : c / 2 ^ 63 = 0 := by omega
  rw [this]; rfl
theorem key_small {c : Nat} (h : c < 2 ^ 63) : key c = c := by unfold key; rw [neg_small h, rung_small h]; rfl

theorem gt_const (b c : Nat) (hc : c < infR) : (FloatKind.f64.format.order (rung b) c == some .gt) = decide (c < rung b ∧ rung b ≤ infR) := by
  have hc' : c < 2 ^ 63 := by unfold infR at hc; omega
  rw [ord_f, nan_rung, key_rung, key_small hc']
  have hn : nan c = false := by unfold nan; rw [rung_small hc']; simp; omega
  rw [hn]
  unfold nan
  by_cases h1 : infR < rung b
  · have h2 : ¬ rung b ≤ infR := by omega
    simp [h1, h2]
  · by_cases h2 : c < rung b
    · have := cmp_gt (a := (rung b : Int)) (b := (c : Int)) (by omega)
      have h3 : rung b ≤ infR := by omega
      simp [h1, h2, this, h3]
    · have : compare (rung b : Int) (c : Int) ≠ .gt := fun h => h2 (by have := Int.compare_eq_gt.1 h; omega)
      simp [h1, h2, this]

/-- |b| against the greatest finite float. -/
theorem gt_max (b : Nat) : (FloatKind.f64.format.order (rung b) 9218868437227405311 == some .gt) = decide (rung b = infR) := by
  rw [gt_const b _ (by unfold infR; omega)]
  congr 1
  unfold infR
  apply propext
  omega

/-- |b| against a finite float that isn't below 0. -/
theorem lt_const (b c : Nat) (hc : c < infR) : (FloatKind.f64.format.order (rung b) c == some .lt) = decide (rung b < c) := by
  have hc' : c < 2 ^ 63 := by unfold infR at hc; omega
  rw [ord_f, nan_rung, key_rung, key_small hc']
  have hn : nan c = false := by unfold nan; rw [rung_small hc']; simp; omega
  rw [hn]
  unfold nan
  by_cases h1 : infR < rung b
  · have h2 : ¬ rung b < c := by omega
    simp [h1, h2]
  · by_cases h2 : rung b < c
    · have := cmp_lt (a := (rung b : Int)) (b := (c : Int)) (by omega)
      simp [h1, h2, this]
    · have : compare (rung b : Int) (c : Int) ≠ .lt := fun h => h2 (by have := Int.compare_eq_lt.1 h; omega)
      simp [h1, h2, this]

theorem eq_zero (b : Nat) : (FloatKind.f64.format.order b 0 == some .eq) = decide (rung b = 0) := by
  rw [ord_f]
  have hn : nan 0 = false := by decide
  have hk : key 0 = 0 := by decide
  rw [hn, hk]
  unfold nan key
  by_cases h1 : infR < rung b
  · have h2 : ¬ rung b = 0 := by omega
    simp [h1, h2]
  · have e : ∀ z : Int, (compare z 0 = .eq ↔ z = 0) := fun z => Int.compare_eq_eq
    by_cases h2 : rung b = 0
    · rw [h2]; cases neg b <;> simp
    · have : ¬ (if neg b = true then -(rung b : Int) else (rung b : Int)) = 0 := by split <;> omega
      simp [h1, h2, this]

theorem andnot_sign (b : Nat) (h : b < 2 ^ 64) : bits BinOp.andNot IntKind.u64 (b : Int) 9223372036854775808 = ((rung b : Nat) : Int) := by
  rw [show (9223372036854775808 : Int) = ((2 ^ 63 : Nat) : Int) from rfl, u64_andNot_nat b _ (by omega) (by omega)]
  have e : (18446744073709551615 - 2 ^ 63 : Nat) = 2 ^ 63 - 1 := rfl
  rw [e, Nat.and_two_pow_sub_one_eq_mod]
  rfl

theorem and_sign (b : Nat) (h : b < 2 ^ 64) : bits BinOp.and IntKind.u64 (b : Int) 9223372036854775808 = ((if neg b then 2 ^ 63 else 0 : Nat) : Int) := by
  rw [show (9223372036854775808 : Int) = ((2 ^ 63 : Nat) : Int) from rfl, u64_and_nat b _ (by omega) (by omega), nat_bit]
  unfold neg
  have h2 : b / 2 ^ 63 % 2 = 0 ∨ b / 2 ^ 63 % 2 = 1 := by omega
  rcases h2 with h2 | h2 <;> rw [h2] <;> rfl

end Go.Proofs.YthbjdmadbakchaaDoor.FT
