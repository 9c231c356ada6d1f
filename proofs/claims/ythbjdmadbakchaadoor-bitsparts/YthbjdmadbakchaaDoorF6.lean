/- What is proved here: plain facts on products by which Ldexp is made (no program). -/
import Derived.Test.YthbjdmadbakchaaDoorF5
namespace Go.Proofs.YthbjdmadbakchaaDoor.FT

theorem c1 : (4607182418800017408 : Nat) = wrd false (1023 * 2 ^ 52 + 0) := by unfold wrd; rw [if_neg (by simp)]
theorem cm53 : (4368491638549381120 : Nat) = wrd false (970 * 2 ^ 52 + 0) := by unfold wrd; rw [if_neg (by simp)]

theorem mul_one (s : Bool) (e t : Nat) (h1 : 1 ≤ e) (h2 : e < 2047) (ht : t < 2 ^ 52) :
    floatBits .mul .f64 4607182418800017408 (wrd s (e * 2 ^ 52 + t)) = some (wrd s (e * 2 ^ 52 + t)) := by
  show Ieee.double.mul 4607182418800017408 (wrd s (e * 2 ^ 52 + t)) = _
  unfold Ieee.Format.mul
  rw [c1, read_nor s e t h1 h2 ht, read_nor false 1023 0 (by omega) (by omega) (by omega)]
  have hx : (false ^^ s) = s := by cases s <;> rfl
  simp only [Ieee.Datum.product, Option.map_some, Ieee.Format.write, hx]
  rw [nearest_exact s _ _ (e * 2 ^ 52 + t) (by unfold infR; omega) (Nat.mul_ne_zero (by omega) (by omega)) ?_, word_eq]
  rw [v_nor' _ _ h1 ht, Nat.add_zero]
  by_cases h : 53 ≤ e
  · obtain ⟨a, ha⟩ : ∃ a, e = a + 53 := ⟨e - 53, by omega⟩
    subst ha
    have e1 : ((((1023 : Nat) : Int) - 1075) + (((a + 53 : Nat) : Int) - 1075) + 1074).toNat = a := by omega
    have e2 : (-1074 - ((((1023 : Nat) : Int) - 1075) + (((a + 53 : Nat) : Int) - 1075))).toNat = 0 := by omega
    rw [e1, e2, Nat.pow_zero, Nat.mul_one, Nat.mul_comm (2 ^ 52), Nat.mul_assoc, ← Nat.pow_add]
    congr 2
    omega
  · obtain ⟨a, ha⟩ : ∃ a, 53 = e + a := ⟨53 - e, by omega⟩
    have e1 : ((((1023 : Nat) : Int) - 1075) + ((e : Int) - 1075) + 1074).toNat = 0 := by omega
    have e2 : (-1074 - ((((1023 : Nat) : Int) - 1075) + ((e : Int) - 1075))).toNat = a := by omega
    rw [e1, e2, Nat.pow_zero, Nat.mul_one, Nat.mul_comm (2 ^ 52), Nat.mul_assoc, ← Nat.pow_add, show e - 1 + a = 52 from by omega]

theorem mul_den (s : Bool) (e t r : Nat) (h1 : 1 ≤ e) (h2 : e ≤ 53) (ht : t < 2 ^ 52) (hr : r < 2 ^ 52) (h : 2 ^ 52 + t = r * 2 ^ (54 - e)) :
    floatBits .mul .f64 4368491638549381120 (wrd s (e * 2 ^ 52 + t)) = some (wrd s r) := by
  show Ieee.double.mul 4368491638549381120 (wrd s (e * 2 ^ 52 + t)) = _
  unfold Ieee.Format.mul
  rw [cm53, read_nor s e t h1 (by omega) ht, read_nor false 970 0 (by omega) (by omega) (by omega)]
  have hx : (false ^^ s) = s := by cases s <;> rfl
  simp only [Ieee.Datum.product, Option.map_some, Ieee.Format.write, hx]
  rw [nearest_exact s _ _ r (by unfold infR; omega) (Nat.mul_ne_zero (by omega) (by omega)) ?_, word_eq]
  have e1 : ((((970 : Nat) : Int) - 1075) + ((e : Int) - 1075) + 1074).toNat = 0 := by omega
  have e2 : (-1074 - ((((970 : Nat) : Int) - 1075) + ((e : Int) - 1075))).toNat = 54 - e + 52 := by omega
  rw [e1, e2, v_sub hr, Nat.pow_zero, Nat.mul_one, h, Nat.pow_add, Nat.add_zero, Nat.mul_comm (2 ^ 52), Nat.mul_assoc]

theorem exp_field_i64 (s : Bool) (e t : Nat) (he : e < 2048) (ht : t < 2 ^ 52) :
    bits BinOp.and IntKind.i64 ((wrd s (e * 2 ^ 52 + t) : Int) / 4503599627370496) 2047 = (e : Int) := by
  have hw := wrd_lt s (e * 2 ^ 52 + t) (by omega)
  have hf := (fields_wrd s e t he ht).1
  rw [show ((wrd s (e * 2 ^ 52 + t) : Int) / 4503599627370496) = ((wrd s (e * 2 ^ 52 + t) / 2 ^ 52 : Nat) : Int) from by omega]
  have := and_mask_i64 (wrd s (e * 2 ^ 52 + t) / 2 ^ 52) 11 (by omega) (by omega)
  rw [hf] at this
  exact this

theorem put_exp (s : Bool) (e t : Nat) (he : e < 2047) (ht : t < 2 ^ 52) :
    bits BinOp.or IntKind.u64 (wrd s t : Int) ((e : Int) * 4503599627370496) = (wrd s (e * 2 ^ 52 + t) : Int) := by
  have hw := wrd_lt s t (by omega)
  rw [show ((e : Int) * 4503599627370496) = ((e * 2 ^ 52 : Nat) : Int) from by omega, u64_or_nat _ _ (by omega) (by omega), wrd_or s t (by omega), wrd_or s _ (by omega),
    ← nat_join 52 (e * 2 ^ 52) t (by simp) ht, Nat.or_assoc, Nat.or_comm t]

theorem lt_zero (b : Nat) (hn : nan b = false) : (FloatKind.f64.format.order b 0 == some .lt) = (neg b && decide (rung b ≠ 0)) := by
  rw [ord_f, hn, show nan 0 = false from by decide, show key 0 = 0 from by decide]
  simp only [Bool.or_self, Bool.false_eq_true, if_false, some_beq]
  unfold key
  cases neg b
  · have := cmp_ne_lt (a := (rung b : Int)) (b := 0) (by omega)
    simp [this]
  · by_cases h : rung b = 0
    · simp [h]
    · have := cmp_lt (a := -(rung b : Int)) (b := 0) (by omega)
      simp [h, this]

end Go.Proofs.YthbjdmadbakchaaDoor.FT
