/- What is proved here: contracts of package bits, Whole and shift, over this seat's translation. -/
import Derived.Test.YthbjdmadbakchaaDoorB3
namespace Go.Proofs.YthbjdmadbakchaaDoor
open Go.ChangeShapes Go.WideShapes Go.ChangeAt Go.RowKit
attribute [local go_sem] frombits_r tobits_r

theorem ret_i3 {a a' b b' c : Int} (h1 : a = a') (h2 : b = b') : Ending.returned (.tuple #[.int .i64 a, .int .i64 b, .int .i64 c]) = .returned (.tuple #[.int .i64 a', .int .i64 b', .int .i64 c]) := by rw [h1, h2]

set_option maxRecDepth 100000 in
theorem whole_nan_c (b fr : Nat) (w : World) (h0 : b < 2 ^ 64) (he : b / 2 ^ 52 % 2 ^ 11 = 2047) (hf : b % 2 ^ 52 = fr) :
    Calls Tryd.prog 13 #[.float .f64 b] w fun e w' => e = .returned (.tuple #[.int .i64 0, .int .i64 0, .int .i64 4]) ∧ G w w' := by
  have K : Hid _ := fun w => split_c b 2047 fr w h0 he hf
  clear he hf
  go_enter Tryd.func13, Tryd.ntmps13
  go_wp2_with (first | (go_at_call 7; refine (K.out _).mono ?_; rintro e wn ⟨rfl, hbn⟩) | (go_at_call 29; refine (double_c _).mono ?_; rintro e wn ⟨rfl, hbn⟩) | (go_at_call 30; refine (greatest_c 11 52 _ (by omega)).mono ?_; rintro e wn ⟨rfl, hbn⟩))
  go_ret3
  exact ⟨rfl, (by repeat' (first | exact G.refl _ | assumption | refine G.alloc ?_ _ | refine G.drew ?_ | refine G.drewN ?_ _ | (refine G.trans ?_ (by assumption))))⟩

set_option maxRecDepth 100000 in
theorem whole_zero_c (b : Nat) (w : World) (h0 : b < 2 ^ 64) (he : b / 2 ^ 52 % 2 ^ 11 = 0) (hf : b % 2 ^ 52 = 0) :
    Calls Tryd.prog 13 #[.float .f64 b] w fun e w' => e = .returned (.tuple #[.int .i64 0, .int .i64 0, .int .i64 0]) ∧ G w w' := by
  have K : Hid _ := fun w => split_c b 0 0 w h0 he hf
  have S : Hid _ := fun w => scaled_c 0 0 11 52 w (by omega) (by omega) (by omega) (by omega) (by omega)
  clear he hf
  go_enter Tryd.func13, Tryd.ntmps13
  go_wp2_with (first | (go_at_call 7; refine (K.out _).mono ?_; rintro e wn ⟨rfl, hbn⟩) | (go_at_call 29; refine (double_c _).mono ?_; rintro e wn ⟨rfl, hbn⟩) | (go_at_call 30; refine (greatest_c 11 52 _ (by omega)).mono ?_; rintro e wn ⟨rfl, hbn⟩) | (go_at_call 36; refine (S.out _).mono ?_; rintro e wn ⟨rfl, hbn⟩))
  go_ret3
  exact ⟨rfl, (by repeat' (first | exact G.refl _ | assumption | refine G.alloc ?_ _ | refine G.drew ?_ | refine G.drewN ?_ _ | (refine G.trans ?_ (by assumption))))⟩

set_option maxRecDepth 100000 in
theorem whole_c (b ex fr mag j k : Nat) (w : World) (ht : Tab w) (h0 : b < 2 ^ 64) (he : b / 2 ^ 52 % 2 ^ 11 = ex) (hf : b % 2 ^ 52 = fr) (h1 : ex < 2047)
    (hm : (if ex = 0 then fr else 2 ^ 52 + fr) = mag) (hj : mag = (2 * j + 1) * 2 ^ k) :
    Calls Tryd.prog 13 #[.float .f64 b] w fun e w' => e = .returned (.tuple #[.int .i64 (if FT.neg b then -(2 * j + 1) else 2 * j + 1), .int .i64 ((max ex 1 : Nat) - 1075 + k), .int .i64 0]) ∧ G w w' := by
  have hfr : fr < 2 ^ 52 := by omega
  have hmag : mag < 2 ^ 53 := by rw [← hm]; split <;> omega
  have hk : k < 64 := FT.tz_lt (j := j) (by omega)
  have hpk : 0 < 2 ^ k := Nat.two_pow_pos k
  have hj2 : 2 * j + 1 ≤ mag := by
    have : (2 * j + 1) * 1 ≤ (2 * j + 1) * 2 ^ k := Nat.mul_le_mul_left _ hpk
    omega
  have hdiv : (mag : Int) / 2 ^ k = 2 * (j : Int) + 1 := by
    have : mag / 2 ^ k = 2 * j + 1 := by rw [hj]; exact Nat.mul_div_cancel _ hpk
    rw [FT.ipow, ← Int.natCast_ediv, this]
    omega
  have K : Hid _ := fun w => split_c b ex fr w h0 he hf
  have S : Hid _ := fun w => scaled_c ex fr 11 52 w hfr (by omega) (by omega) (by omega) (by omega)
  rw [hm] at S
  have T : Hid _ := fun w ht => tz_c mag j k w ht (by omega) hj
  have hz : ((mag : Int) == 0) = false := by simp; omega
  have hne : ((ex : Int) == 2047) = false := by simp; omega
  have hme : max ex 1 ≤ 2047 := by omega
  generalize max ex 1 = mx at *
  generalize FT.neg b = n at *
  clear he hf hm hj hpk h0
  cases n
  all_goals
    go_enter Tryd.func13, Tryd.ntmps13
    go_wp2_with fail
    refine (K.out _).mono ?_
    rintro e w1 ⟨rfl, hb1⟩
    have zhb1 := hb1.size
    try simp at zhb1
    have ht1 := ht.G hb1
    go_wp2_with fail
    refine (double_c _).mono ?_
    rintro e w2 ⟨rfl, hb2⟩
    have zhb2 := hb2.size
    try simp at zhb2
    have ht2 := ht1.G hb2
    go_wp2_with fail
    refine (greatest_c 11 52 _ (by omega)).mono ?_
    rintro e w3 ⟨rfl, hb3⟩
    have zhb3 := hb3.size
    try simp at zhb3
    have ht3 := ht2.G hb3
    go_wp2_with fail
    refine (double_c _).mono ?_
    rintro e w4 ⟨rfl, hb4⟩
    have zhb4 := hb4.size
    try simp at zhb4
    have ht4 := ht3.G hb4
    go_wp2_with fail
    refine (S.out _).mono ?_
    rintro e w5 ⟨rfl, hb5⟩
    have zhb5 := hb5.size
    try simp at zhb5
    have ht5 := ht4.G hb5
    clear ht ht1 ht2 ht3 ht4
    go_wp2_with fail
    refine (T.out _ ht5).mono ?_
    rintro e w6 ⟨rfl, hb6⟩
    have zhb6 := hb6.size
    try simp at zhb6
    clear ht5
    go_wp2
    go_ret3
    exact ⟨ret_i3 (by omega) (by omega), (by repeat' (first | exact G.refl _ | assumption | refine G.alloc ?_ _ | refine G.drew ?_ | refine G.drewN ?_ _ | (refine G.trans ?_ (by assumption))))⟩

/-! Rounding by a shift. -/
def rnd (mag d : Nat) : Nat := mag / 2 ^ d + (if 2 ^ (d - 1) < mag % 2 ^ d ∨ (mag % 2 ^ d = 2 ^ (d - 1) ∧ mag / 2 ^ d % 2 = 1) then 1 else 0)

theorem shift_up_c (mag n : Nat) (w : World) (h : mag * 2 ^ n < 2 ^ 64) (hn : n < 64) :
    Calls Tryd.prog 53 #[.int .u64 mag, .int .i64 n] w fun e w' => e = .returned (.int .u64 (mag * 2 ^ n : Nat)) ∧ G w w' := by
  have hw : IntKind.u64.wrap ((mag : Int) * 2 ^ n) = ((mag * 2 ^ n : Nat) : Int) := by
    rw [IntKind.wrap_u64, FT.ipow, ← Int.natCast_mul]
    generalize mag * 2 ^ n = q at *
    omega
  have F1 : Hid _ := hw
  clear hw h
  go_enter Tryd.func53, Tryd.ntmps53
  go_wp2
  go_ret
  exact ⟨ret_int F1.out, G.refl _⟩

theorem shift_far_c (mag : Nat) (n : Int) (w : World) (hn : n < -64) :
    Calls Tryd.prog 53 #[.int .u64 mag, .int .i64 n] w fun e w' => e = .returned (.int .u64 0) ∧ G w w' := by
  go_enter Tryd.func53, Tryd.ntmps53
  go_wp2
  go_ret
  exact ⟨rfl, G.refl _⟩

theorem mask_eq (mag d : Nat) (h1 : 1 ≤ d) (h2 : d ≤ 64) (hm : mag < 2 ^ 64) :
    bits BinOp.and IntKind.u64 (mag : Int) (bits BinOp.or IntKind.u64 (2 ^ (d - 1)) (2 ^ (d - 1) - 1)) = ((mag % 2 ^ d : Nat) : Int) := by
  have hp : 1 ≤ 2 ^ (d - 1) := Nat.two_pow_pos (d - 1)
  have hq : 2 ^ (d - 1) ≤ 2 ^ 63 := pow_le (by omega)
  have hd : 2 ^ d = 2 * 2 ^ (d - 1) := by
    obtain ⟨e, rfl⟩ : ∃ e, d = e + 1 := ⟨d - 1, by omega⟩
    simp [Nat.pow_succ, Nat.mul_comm]
  have e1 : bits BinOp.or IntKind.u64 (2 ^ (d - 1)) (2 ^ (d - 1) - 1) = ((2 ^ d - 1 : Nat) : Int) := by
    rw [FT.ipow, show (((2 ^ (d - 1) : Nat) : Int) - 1) = ((2 ^ (d - 1) - 1 : Nat) : Int) from by omega, u64_or_nat _ _ (by omega) (by omega),
      nat_join (d - 1) (2 ^ (d - 1)) (2 ^ (d - 1) - 1) (by simp) (by omega)]
    congr 1
    omega
  rw [e1, u64_and_nat mag _ (by omega) (by omega), Nat.and_two_pow_sub_one_eq_mod]

theorem shift_down_c (mag d : Nat) (w : World) (hm : mag < 2 ^ 64) (h1 : 1 ≤ d) (h2 : d ≤ 64) :
    Calls Tryd.prog 53 #[.int .u64 mag, .int .i64 (-(d : Int))] w fun e w' => e = .returned (.int .u64 (rnd mag d : Nat)) ∧ G w w' := by
  have hl := mask_eq mag d h1 h2 hm
  have hp := pow_bd (show d - 1 ≤ 63 by omega)
  have hk : (mag : Int) / 2 ^ d = ((mag / 2 ^ d : Nat) : Int) := by simp
  have hkb : mag / 2 ^ d < 2 ^ 63 := by
    have : 2 ^ 1 ≤ 2 ^ d := pow_le h1
    rw [Nat.div_lt_iff_lt_mul (by omega)]
    calc mag < 2 ^ 64 := hm
      _ = 2 ^ 63 * 2 ^ 1 := by rfl
      _ ≤ 2 ^ 63 * 2 ^ d := Nat.mul_le_mul_left _ this
  have hodd : bits BinOp.and IntKind.u64 ((mag / 2 ^ d : Nat) : Int) 1 = ((mag / 2 ^ d % 2 : Nat) : Int) := by
    have := FT.and_mask (mag / 2 ^ d) 1 (by omega) (by omega)
    simpa using this
  have hh : ((2 ^ (d - 1) : Nat) : Int) = 2 ^ (d - 1) := by simp
  unfold rnd
  have hr : mag % 2 ^ d < 2 ^ 64 := by have := Nat.mod_le mag (2 ^ d); omega
  generalize mag % 2 ^ d = lost at *
  generalize mag / 2 ^ d = kept at *
  rw [← hh] at hp
  generalize hH : 2 ^ (d - 1) = half at *
  clear hH
  have hh' := hh.symm
  clear hh
  rw [hh'] at hl
  have hpar : kept % 2 = 0 ∨ kept % 2 = 1 := by omega
  by_cases c1 : half < lost
  · have c1' : (half : Int) < lost := by omega
    rw [if_pos (Or.inl c1)]
    go_enter Tryd.func53, Tryd.ntmps53
    go_wp2
    go_ret
    exact ⟨ret_int (by simp), G.refl _⟩
  · have c1' : ¬ (half : Int) < lost := by omega
    by_cases c2 : lost = half
    · subst c2
      rcases hpar with hpar | hpar <;> rw [hpar] at hodd
      · rw [if_neg (by omega)]
        go_enter Tryd.func53, Tryd.ntmps53
        go_wp2
        go_ret
        exact ⟨ret_int (by simp), G.refl _⟩
      · rw [if_pos (by omega)]
        go_enter Tryd.func53, Tryd.ntmps53
        go_wp2
        go_ret
        exact ⟨ret_int (by simp), G.refl _⟩
    · have c2' : ((lost : Int) == half) = false := by simp; omega
      rw [if_neg (by omega)]
      go_enter Tryd.func53, Tryd.ntmps53
      go_wp2
      go_ret
      exact ⟨ret_int (by simp), G.refl _⟩

end Go.Proofs.YthbjdmadbakchaaDoor
