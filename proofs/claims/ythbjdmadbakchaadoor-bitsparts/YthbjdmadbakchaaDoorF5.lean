/- What is proved here: plain facts on products of words by powers of two (no program). -/
import Derived.Test.YthbjdmadbakchaaDoorF4
namespace Go.Proofs.YthbjdmadbakchaaDoor.FT

/-- The word of a sign and a rung. -/
def wrd (s : Bool) (r : Nat) : Nat := if s then r + 2 ^ 63 else r
theorem word_eq (s : Bool) (r : Nat) : Ieee.double.word s r = wrd s r := by
  unfold Ieee.Format.word wrd
  rw [signWeight_eq]
  cases s <;> simp [Nat.add_comm]
theorem wrd_rung (s : Bool) (r : Nat) (h : r < 2 ^ 63) : rung (wrd s r) = r := by unfold rung wrd; split <;> omega
theorem wrd_neg (s : Bool) (r : Nat) (h : r < 2 ^ 63) : neg (wrd s r) = s := by
  unfold neg wrd
  cases s
  · have : r / 2 ^ 63 = 0 := by omega
    simp [this]
  · have : (r + 2 ^ 63) / 2 ^ 63 = 1 := by omega
    simp [this]
theorem wrd_lt (s : Bool) (r : Nat) (h : r < 2 ^ 63) : wrd s r < 2 ^ 64 := by unfold wrd; split <;> omega

/-- A word's exponent and fraction, by its rung. -/
theorem rung_fields (b : Nat) : rung b = b / 2 ^ 52 % 2 ^ 11 * 2 ^ 52 + b % 2 ^ 52 := by unfold rung; omega
theorem fields_wrd (s : Bool) (e f : Nat) (he : e < 2048) (hf : f < 2 ^ 52) : wrd s (e * 2 ^ 52 + f) / 2 ^ 52 % 2 ^ 11 = e ∧ wrd s (e * 2 ^ 52 + f) % 2 ^ 52 = f := by
  unfold wrd; split <;> omega

theorem read_nor (s : Bool) (e f : Nat) (h1 : 1 ≤ e) (h2 : e < 2047) (hf : f < 2 ^ 52) :
    Ieee.double.read (wrd s (e * 2 ^ 52 + f)) = .number s (2 ^ 52 + f) ((e : Int) - 1075) := by
  have hr := wrd_rung s (e * 2 ^ 52 + f) (by omega)
  have hn := wrd_neg s (e * 2 ^ 52 + f) (by omega)
  generalize wrd s (e * 2 ^ 52 + f) = b at *
  unfold Ieee.Format.read
  rw [signWeight_eq, binade_eq, leastPlace_eq, infRung_eq]
  show (if rung b < 2 ^ 52 then _ else if rung b < 2047 * 2 ^ 52 then Ieee.Datum.number (neg b) (2 ^ 52 + rung b % 2 ^ 52) (-1074 + ((rung b / 2 ^ 52 - 1 : Nat) : Int)) else _) = _
  rw [if_neg (by omega), if_pos (by omega), hn, hr]
  congr 1
  · omega
  · omega

theorem read_sub (s : Bool) (f : Nat) (hf : f < 2 ^ 52) : Ieee.double.read (wrd s f) = .number s f (-1074) := by
  have hr := wrd_rung s f (by omega)
  have hn := wrd_neg s f (by omega)
  generalize wrd s f = b at *
  unfold Ieee.Format.read
  rw [signWeight_eq, binade_eq, leastPlace_eq, infRung_eq]
  show (if rung b < 2 ^ 52 then Ieee.Datum.number (neg b) (rung b) (-1074) else _) = _
  rw [if_pos (by omega), hn, hr]

theorem c52 : (4841369599423283200 : Nat) = wrd false (1075 * 2 ^ 52 + 0) := by unfold wrd; rw [if_neg (by simp)]
theorem c53 : (4845873199050653696 : Nat) = wrd false (1076 * 2 ^ 52 + 0) := by unfold wrd; rw [if_neg (by simp)]

theorem v_nor' (e f : Nat) (h1 : 1 ≤ e) (hf : f < 2 ^ 52) : v (e * 2 ^ 52 + f) = (2 ^ 52 + f) * 2 ^ (e - 1) := by
  rw [v_nor (by omega)]
  congr 2
  · omega
  · congr 1
    omega

/-- A subnormal number times 2 to the power of 52. -/
theorem mul52 (s : Bool) (f n t : Nat) (hf : f < 2 ^ 52) (h0 : f ≠ 0) (hn : n ≤ 52) (ht : t < 2 ^ 52) (e : f * 2 ^ n = 2 ^ 52 + t) :
    floatBits .mul .f64 (wrd s f) 4841369599423283200 = some (wrd s ((53 - n) * 2 ^ 52 + t)) := by
  show Ieee.double.mul (wrd s f) 4841369599423283200 = _
  unfold Ieee.Format.mul
  rw [c52, read_sub s f hf, read_nor false 1075 0 (by omega) (by omega) (by omega)]
  have hx : (s ^^ false) = s := by cases s <;> rfl
  simp only [Ieee.Datum.product, Option.map_some, Ieee.Format.write, hx]
  rw [nearest_exact s _ _ ((53 - n) * 2 ^ 52 + t) (by unfold infR; omega) (Nat.mul_ne_zero h0 (by omega)) ?_, word_eq]
  have e1 : ((-1074 : Int) + (((1075 : Nat) : Int) - 1075) + 1074).toNat = 0 := by decide
  have e2 : (-1074 - ((-1074 : Int) + (((1075 : Nat) : Int) - 1075))).toNat = 0 := by decide
  rw [e1, e2, v_nor' _ _ (by omega) ht, ← e, Nat.pow_zero, Nat.mul_one, Nat.mul_one, Nat.mul_assoc, ← Nat.pow_add, Nat.add_zero, show n + (53 - n - 1) = 52 from by omega]

/-- What Frexp gives, times 2 to the power of 53. -/
theorem mul53 (s : Bool) (t : Nat) (ht : t < 2 ^ 52) :
    floatBits .mul .f64 (wrd s (1022 * 2 ^ 52 + t)) 4845873199050653696 = some (wrd s (1075 * 2 ^ 52 + t)) := by
  show Ieee.double.mul (wrd s (1022 * 2 ^ 52 + t)) 4845873199050653696 = _
  unfold Ieee.Format.mul
  rw [c53, read_nor s 1022 t (by omega) (by omega) ht, read_nor false 1076 0 (by omega) (by omega) (by omega)]
  have hx : (s ^^ false) = s := by cases s <;> rfl
  simp only [Ieee.Datum.product, Option.map_some, Ieee.Format.write, hx]
  rw [nearest_exact s _ _ (1075 * 2 ^ 52 + t) (by unfold infR; omega) (Nat.mul_ne_zero (by omega) (by omega)) ?_, word_eq]
  obtain ⟨a, e1, ha⟩ : ∃ a : Nat, (((1022 : Nat) : Int) - 1075 + (((1076 : Nat) : Int) - 1075) + 1074).toNat = a ∧ 1075 - 1 = 52 + a := ⟨1022, by decide, rfl⟩
  have e2 : (-1074 - (((1022 : Nat) : Int) - 1075 + (((1076 : Nat) : Int) - 1075))).toNat = 0 := by decide
  rw [e1, e2, v_nor' _ _ (by omega) ht, Nat.pow_zero, Nat.mul_one, ha, Nat.pow_add, Nat.mul_assoc, Nat.add_zero]

theorem toInt53 (s : Bool) (t : Nat) (ht : t < 2 ^ 52) :
    floatToIntVal .f64 (wrd s (1075 * 2 ^ 52 + t)) .i64 = some (if s then -((2 ^ 52 + t : Nat) : Int) else ((2 ^ 52 + t : Nat) : Int)) := by
  unfold floatToIntVal
  show (match (Ieee.double.read (wrd s (1075 * 2 ^ 52 + t))).toInt .zero with
    | some n => if IntKind.min .i64 ≤ n ∧ n ≤ IntKind.max .i64 then some n else none
    | none => none) = _
  rw [read_nor s 1075 t (by omega) (by omega) ht]
  have hc : Ieee.Toward.zero.cut s (2 ^ 52 + t) 0 = 2 ^ 52 + t := by
    unfold Ieee.Toward.cut
    simp
  have hti : (Ieee.Datum.number s (2 ^ 52 + t) (((1075 : Nat) : Int) - 1075)).toInt .zero = some (Ieee.signed s (2 ^ 52 + t) 0) := by
    have e1 : (((1075 : Nat) : Int) - 1075).toNat = 0 := by decide
    have e2 : (-(((1075 : Nat) : Int) - 1075)).toNat = 0 := by decide
    unfold Ieee.Datum.toInt Ieee.Datum.integral
    simp only [e1, e2, Nat.shiftLeft_zero, hc]
  rw [hti]
  have hs : Ieee.signed s (2 ^ 52 + t) 0 = (if s then -((2 ^ 52 + t : Nat) : Int) else ((2 ^ 52 + t : Nat) : Int)) := by
    unfold Ieee.signed
    simp only [Nat.shiftLeft_zero]
  simp only [hs]
  rw [if_pos]
  rw [show IntKind.min .i64 = -9223372036854775808 from by decide, show IntKind.max .i64 = 9223372036854775807 from by decide]
  split <;> omega

theorem wrd_or (s : Bool) (r : Nat) (hr : r < 2 ^ 63) : wrd s r = (if s then 2 ^ 63 else 0) ||| r := by
  unfold wrd
  cases s
  · simp
  · simp only [if_true]; rw [nat_join 63 (2 ^ 63) r (by omega) hr]; omega

theorem exp_field (s : Bool) (e t : Nat) (he : e < 2048) (ht : t < 2 ^ 52) :
    bits BinOp.and IntKind.u64 ((wrd s (e * 2 ^ 52 + t) : Int) / 4503599627370496) 2047 = (e : Int) := by
  have hw := wrd_lt s (e * 2 ^ 52 + t) (by omega)
  have hf := (fields_wrd s e t he ht).1
  rw [show ((wrd s (e * 2 ^ 52 + t) : Int) / 4503599627370496) = ((wrd s (e * 2 ^ 52 + t) / 2 ^ 52 : Nat) : Int) from by omega]
  have := and_mask (wrd s (e * 2 ^ 52 + t) / 2 ^ 52) 11 (by omega) (by omega)
  rw [hf] at this
  exact this

theorem clear_exp (s : Bool) (e t : Nat) (he : e < 2048) (ht : t < 2 ^ 52) :
    bits BinOp.andNot IntKind.u64 (wrd s (e * 2 ^ 52 + t) : Int) 9218868437227405312 = (wrd s t : Int) := by
  have hw := wrd_lt s (e * 2 ^ 52 + t) (by omega)
  have hf := (fields_wrd s e t he ht).2
  have hn := wrd_neg s (e * 2 ^ 52 + t) (by omega)
  rw [show (9218868437227405312 : Int) = ((2047 * 2 ^ 52 : Nat) : Int) from by omega, u64_andNot_nat _ _ (by omega) (by omega)]
  have hc : (18446744073709551615 - 2047 * 2 ^ 52 : Nat) = 2 ^ 63 ||| (2 ^ 52 - 1) := by
    rw [nat_join 63 (2 ^ 63) (2 ^ 52 - 1) (by omega) (by omega)]
  rw [hc, Nat.and_or_distrib_left, nat_bit, Nat.and_two_pow_sub_one_eq_mod, hf, wrd_or s t (by omega)]
  unfold neg at hn
  cases s
  · have : wrd false (e * 2 ^ 52 + t) / 2 ^ 63 % 2 = 0 := by simp at hn; omega
    rw [this]
    simp
  · have : wrd true (e * 2 ^ 52 + t) / 2 ^ 63 % 2 = 1 := by simpa using hn
    rw [this]
    simp

theorem set_exp (s : Bool) (t : Nat) (ht : t < 2 ^ 52) :
    bits BinOp.or IntKind.u64 (wrd s t : Int) 4602678819172646912 = (wrd s (1022 * 2 ^ 52 + t) : Int) := by
  have hw := wrd_lt s t (by omega)
  rw [show (4602678819172646912 : Int) = ((1022 * 2 ^ 52 : Nat) : Int) from by omega, u64_or_nat _ _ (by omega) (by omega), wrd_or s t (by omega), wrd_or s _ (by omega),
    ← nat_join 52 (1022 * 2 ^ 52) t (by omega) ht, Nat.or_assoc, Nat.or_comm t]

end Go.Proofs.YthbjdmadbakchaaDoor.FT
