/- What is proved here: contracts of the reference's odd parts and units, and of Ulp; what 'nearest' gives against the exact rounding, over this seat's translation. -/
import Derived.Test.YthbjdmadbakchaaDoorB10
namespace Go.Proofs.YthbjdmadbakchaaDoor
open Go.ChangeShapes Go.WideShapes Go.ChangeAt Go.RowKit
attribute [local go_sem] frombits_r tobits_r unary_negf

/-- The shift that makes a significand full. -/
theorem full_shift (mag : Nat) (h0 : mag ≠ 0) (h : mag < 2 ^ 53) : ∃ sh t, sh ≤ 52 ∧ t < 2 ^ 52 ∧ mag * 2 ^ sh = 2 ^ 52 + t ∧ (2 ^ 52 ≤ mag → sh = 0) ∧ sh = 52 - mag.log2 := by
  have h1 := Nat.log2_self_le h0
  have h2 := Nat.lt_log2_self (n := mag)
  have h3 : mag.log2 < 53 := (Nat.log2_lt h0).2 h
  refine ⟨52 - mag.log2, mag * 2 ^ (52 - mag.log2) - 2 ^ 52, by omega, ?_, ?_, ?_, rfl⟩
  · have : mag * 2 ^ (52 - mag.log2) < 2 ^ (mag.log2 + 1) * 2 ^ (52 - mag.log2) := Nat.mul_lt_mul_of_pos_right h2 (Nat.two_pow_pos _)
    rw [← Nat.pow_add, show mag.log2 + 1 + (52 - mag.log2) = 53 from by omega] at this
    omega
  · have : 2 ^ mag.log2 * 2 ^ (52 - mag.log2) ≤ mag * 2 ^ (52 - mag.log2) := Nat.mul_le_mul_right _ h1
    rw [← Nat.pow_add, show mag.log2 + (52 - mag.log2) = 52 from by omega] at this
    omega
  · intro hm
    have : 2 ^ 52 < 2 ^ (mag.log2 + 1) := by omega
    have := (Nat.pow_lt_pow_iff_right (by omega : 1 < 2)).1 this
    omega

theorem odd_c (b ex fr mag j k : Nat) (w : World) (hb : b < 2 ^ 64) (he : b / 2 ^ 52 % 2 ^ 11 = ex) (hf : b % 2 ^ 52 = fr) (h1 : ex < 2047)
    (hm : (if ex = 0 then fr else 2 ^ 52 + fr) = mag) (hj : mag = (2 * j + 1) * 2 ^ k) :
    Calls Tryd.prog 15 #[.float .f64 b] w fun r w' => r = .returned (.tuple #[.int .i64 (if FT.neg b then -(2 * j + 1) else 2 * j + 1), .int .i64 ((max ex 1 : Nat) - 1075 + k)]) ∧ G w w' := by
  have hrf := FT.rung_fields b
  rw [he, hf] at hrf
  have hfr : fr < 2 ^ 52 := by omega
  have hmag : mag < 2 ^ 53 := by rw [← hm]; split <;> omega
  have h0 : mag ≠ 0 := by rw [hj]; exact Nat.mul_ne_zero (by omega) (by have := Nat.two_pow_pos k; omega)
  have hk : k < 64 := FT.tz_lt (j := j) (by omega)
  obtain ⟨sh, t, hs1, ht, hsh, hs2, -⟩ := full_shift mag h0 hmag
  have hs2' : ex ≠ 0 → sh = 0 := by intro hz; apply hs2; rw [← hm, if_neg hz]; omega
  have hF := fun w => frexp_c b ex fr mag sh t w hb he hf h1 hm h0 ht hsh hs1 hs2'
  have hr0 : FT.rung b ≠ 0 := by
    intro hz
    rw [hz] at hrf
    have : ex = 0 := by omega
    rw [if_pos this] at hm
    omega
  have e1 := FT.eq_zero b
  rw [decide_eq_false hr0] at e1
  have hN : (2 ^ 52 + t : Nat) = (2 * j + 1) * 2 ^ (k + sh) := by rw [← hsh, hj, Nat.pow_add, Nat.mul_assoc]
  have hcast : ((2 ^ 52 + t : Nat) : Int) = (2 * (j : Int) + 1) * 2 ^ (k + sh) := by
    rw [hN, Int.natCast_mul, ← FT.ipow]
    rfl
  have hb2 : ((2 ^ 52 + t : Nat) : Int) ≤ 9007199254740992 := by omega
  have hb3 : 0 ≤ ((2 ^ 52 + t : Nat) : Int) := by omega
  have hmx : max ex 1 ≤ 2046 := by omega
  have hmul := fun w => run_float_arith (P := Tryd.prog) w .mul 22 .f64 _ _ _ (FT.mul53 (FT.neg b) t ht)
  have hcv := fun w => run_convert_float_int (P := Tryd.prog) w 22 3 .f64 .i64 _ _ (by rw [Tryd.underlying22]; rfl) Tryd.underlying3 (FT.toInt53 (FT.neg b) t ht)
  cases hs : FT.neg b
  · rw [hs] at hF hmul hcv
    have := odd_core b _ _ j (k + sh) _ ((max ex 1 : Nat) - 1075 + k) 1 ((2 ^ 52 + t : Nat) : Int) w e1 (by omega) (by omega) (Or.inl rfl) (by omega) (by omega) (by rw [hcast, Int.one_mul]) (by omega) hb2 hF hmul hcv
    rw [Int.one_mul] at this
    exact this
  · rw [hs] at hF hmul hcv
    have := odd_core b _ _ j (k + sh) _ ((max ex 1 : Nat) - 1075 + k) (-1) (-((2 ^ 52 + t : Nat) : Int)) w e1 (by omega) (by omega) (Or.inr rfl) (by omega) (by omega) (by rw [hcast, Int.neg_one_mul]) (by omega) (by omega) hF hmul hcv
    rw [Int.neg_one_mul] at this
    exact this

end Go.Proofs.YthbjdmadbakchaaDoor
