/- What is proved here: contracts of package bits, Join to Make, over this seat's translation.
What is proved here: contracts of package bits, Whole and shift, over this seat's translation.
What is proved here: contracts of package bits, nearest and Make, over this seat's translation.
What is proved here: contracts of neighbours (package bits, package math, the reference), over this seat's translation.
What is proved here: contracts of neighbours and keys, over this seat's translation.
What is proved here: contracts of Frexp and of the reference's kinds and odd parts, over this seat's translation.
What is proved here: contracts of Ldexp, of the reference's odd parts and units, and of Ulp, over this seat's translation.
What is proved here: contracts of the reference's odd parts and units, and of Ulp; what 'nearest' gives against the exact rounding, over this seat's translation.
What is proved here: what 'nearest' gives against the exact rounding; contracts of Ulp, over this seat's translation.
What is proved here: the float of a number below 2^53, and Ldexp of it, over this seat's translation.
What is proved here: contracts of package bits, small and Pack, over this seat's translation. -/
import Derived.Test.YtkelfdhpekkiaacDoorC2
import Derived.Test.YtkelfdhpekkiaacDoorC1
import Derived.Test.YtkelfdhpekkiaacDoorC10
import Derived.Shelf.Strconv.Itoa0
namespace Go.Proofs.YtkelfdhpekkiaacDoor
open Go.ChangeShapes Go.WideShapes Go.ChangeAt Go.RowKit
attribute [local go_sem] frombits_r tobits_r

/-- The library's table lies where it was laid. -/
def Tab (w : World) : Prop := 1 < w.heap.size ∧ ∀ i, i < 64 → w.cell? ⟨1, i, none⟩ = some (.int .u8 (FT.tab.getD i 0 : Nat))
theorem Tab.G {w w' : World} (h : Tab w) (g : G w w') : Tab w' :=
  ⟨Nat.lt_of_lt_of_le h.1 g.size, fun i hi => g.cell h.1 (h.2 i hi)⟩

theorem tz_core (x k q : Nat) (w : World) (_hx : x < 2 ^ 64) (hz : ((x : Int) == 0) = false) (hi : q < 64) (hk : k < 64) (hc : w.cell? ⟨1, q, none⟩ = some (.int .u8 k))
    (hp : IntKind.u64.wrap (bits BinOp.and IntKind.u64 (x : Int) (IntKind.u64.wrap (-(x : Int))) * 285870213051353865) / 288230376151711744 = (q : Int)) :
    Calls Tryd.prog 82 #[.int .u64 x] w fun e w' => e = .returned (.int .i64 k) ∧ w' = w := by
  go_enter Tryd.func82, Tryd.ntmps82
  go_wp2
  go_ret
  exact ⟨rfl, rfl⟩

theorem tz_c (x j k : Nat) (w : World) (ht : Tab w) (hx : x < 2 ^ 64) (e : x = (2 * j + 1) * 2 ^ k) :
    Calls Tryd.prog 82 #[.int .u64 x] w fun e w' => e = .returned (.int .i64 k) ∧ G w w' := by
  have hk : k < 64 := by rw [e] at hx; exact FT.tz_lt hx
  have hc := ht.2 _ (FT.ix_lt hk)
  rw [FT.tab_ix hk] at hc
  have hz : ((x : Int) == 0) = false := by
    have : x ≠ 0 := by rw [e]; exact Nat.mul_ne_zero (by omega) (by have := Nat.two_pow_pos k; omega)
    simp; omega
  refine (tz_core x k (FT.ix k) w hx hz (FT.ix_lt hk) hk hc (FT.place x j k e hx)).mono ?_
  rintro e w' ⟨rfl, rfl⟩
  exact ⟨rfl, G.refl _⟩

end Go.Proofs.YtkelfdhpekkiaacDoor
namespace Go.Proofs.YtkelfdhpekkiaacDoor
open Go.ChangeShapes Go.WideShapes Go.ChangeAt Go.RowKit
attribute [local go_sem] frombits_r tobits_r

theorem ret_i3 {a a' b b' c : Int} (h1 : a = a') (h2 : b = b') : Ending.returned (.tuple #[.int .i64 a, .int .i64 b, .int .i64 c]) = .returned (.tuple #[.int .i64 a', .int .i64 b', .int .i64 c]) := by rw [h1, h2]

set_option maxRecDepth 100000 in
theorem whole_nan_c (b fr : Nat) (w : World) (h0 : b < 2 ^ 64) (he : b / 2 ^ 52 % 2 ^ 11 = 2047) (hf : b % 2 ^ 52 = fr) :
    Calls Tryd.prog 57 #[.float .f64 b] w fun e w' => e = .returned (.tuple #[.int .i64 0, .int .i64 0, .int .i64 4]) ∧ G w w' := by
  have K : Hid _ := fun w => split_c b 2047 fr w h0 he hf
  clear he hf
  go_enter Tryd.func57, Tryd.ntmps57
  go_wp2_with (first | (go_at_call 78; refine (K.out _).mono ?_; rintro e wn ⟨rfl, hbn⟩) | (go_at_call 80; refine (double_c _).mono ?_; rintro e wn ⟨rfl, hbn⟩) | (go_at_call 79; refine (greatest_c 11 52 _ (by omega)).mono ?_; rintro e wn ⟨rfl, hbn⟩))
  go_ret3
  exact ⟨rfl, (by repeat' (first | exact G.refl _ | assumption | refine G.alloc ?_ _ | refine G.drew ?_ | refine G.drewN ?_ _ | (refine G.trans ?_ (by assumption))))⟩

set_option maxRecDepth 100000 in
theorem whole_zero_c (b : Nat) (w : World) (h0 : b < 2 ^ 64) (he : b / 2 ^ 52 % 2 ^ 11 = 0) (hf : b % 2 ^ 52 = 0) :
    Calls Tryd.prog 57 #[.float .f64 b] w fun e w' => e = .returned (.tuple #[.int .i64 0, .int .i64 0, .int .i64 0]) ∧ G w w' := by
  have K : Hid _ := fun w => split_c b 0 0 w h0 he hf
  have S : Hid _ := fun w => scaled_c 0 0 11 52 w (by omega) (by omega) (by omega) (by omega) (by omega)
  clear he hf
  go_enter Tryd.func57, Tryd.ntmps57
  go_wp2_with (first | (go_at_call 78; refine (K.out _).mono ?_; rintro e wn ⟨rfl, hbn⟩) | (go_at_call 80; refine (double_c _).mono ?_; rintro e wn ⟨rfl, hbn⟩) | (go_at_call 79; refine (greatest_c 11 52 _ (by omega)).mono ?_; rintro e wn ⟨rfl, hbn⟩) | (go_at_call 81; refine (S.out _).mono ?_; rintro e wn ⟨rfl, hbn⟩))
  go_ret3
  exact ⟨rfl, (by repeat' (first | exact G.refl _ | assumption | refine G.alloc ?_ _ | refine G.drew ?_ | refine G.drewN ?_ _ | (refine G.trans ?_ (by assumption))))⟩

set_option maxRecDepth 100000 in
theorem whole_c (b ex fr mag j k : Nat) (w : World) (ht : Tab w) (h0 : b < 2 ^ 64) (he : b / 2 ^ 52 % 2 ^ 11 = ex) (hf : b % 2 ^ 52 = fr) (h1 : ex < 2047)
    (hm : (if ex = 0 then fr else 2 ^ 52 + fr) = mag) (hj : mag = (2 * j + 1) * 2 ^ k) :
    Calls Tryd.prog 57 #[.float .f64 b] w fun e w' => e = .returned (.tuple #[.int .i64 (if FT.neg b then -(2 * j + 1) else 2 * j + 1), .int .i64 ((max ex 1 : Nat) - 1075 + k), .int .i64 0]) ∧ G w w' := by
  have hfr : fr < 2 ^ 52 := by omega
  have hmag : mag < 2 ^ 53 := by rw [← hm]; split <;> omega
  have hk : k < 64 := FT.tz_lt (j := j) (by omega)
  have hpk : 0 < 2 ^ k := Nat.two_pow_pos k
  have hj2 : 2 * j + 1 ≤ mag := by
    have : (2 * j + 1) * 1 ≤ (2 * j + 1) * 2 ^ k := Nat.mul_le_mul_left _ hpk
    omega
  have hdiv : (mag : Int) / 2 ^ k = 2 * (j : Int) + 1 := by
    have : mag / 2 ^ k = 2 * j + 1 := by rw [hj]; exact Nat.mul_div_cancel _ hpk
    rw [FT.ipow, ← Int.natCast_ediv, this]
    omega
  have K : Hid _ := fun w => split_c b ex fr w h0 he hf
  have S : Hid _ := fun w => scaled_c ex fr 11 52 w hfr (by omega) (by omega) (by omega) (by omega)
  rw [hm] at S
  have T : Hid _ := fun w ht => tz_c mag j k w ht (by omega) hj
  have hz : ((mag : Int) == 0) = false := by simp; omega
  have hne : ((ex : Int) == 2047) = false := by simp; omega
  have hme : max ex 1 ≤ 2047 := by omega
  generalize max ex 1 = mx at *
  generalize FT.neg b = n at *
  clear he hf hm hj hpk h0
  cases n
  all_goals
    go_enter Tryd.func57, Tryd.ntmps57
    go_wp2_with fail
    refine (K.out _).mono ?_
    rintro e w1 ⟨rfl, hb1⟩
    have zhb1 := hb1.size
    try simp at zhb1
    have ht1 := ht.G hb1
    go_wp2_with fail
    refine (double_c _).mono ?_
    rintro e w2 ⟨rfl, hb2⟩
    have zhb2 := hb2.size
    try simp at zhb2
    have ht2 := ht1.G hb2
    go_wp2_with fail
    refine (greatest_c 11 52 _ (by omega)).mono ?_
    rintro e w3 ⟨rfl, hb3⟩
    have zhb3 := hb3.size
    try simp at zhb3
    have ht3 := ht2.G hb3
    go_wp2_with fail
    refine (double_c _).mono ?_
    rintro e w4 ⟨rfl, hb4⟩
    have zhb4 := hb4.size
    try simp at zhb4
    have ht4 := ht3.G hb4
    go_wp2_with fail
    refine (S.out _).mono ?_
    rintro e w5 ⟨rfl, hb5⟩
    have zhb5 := hb5.size
    try simp at zhb5
    have ht5 := ht4.G hb5
    clear ht ht1 ht2 ht3 ht4
    go_wp2_with fail
    refine (T.out _ ht5).mono ?_
    rintro e w6 ⟨rfl, hb6⟩
    have zhb6 := hb6.size
    try simp at zhb6
    clear ht5
    go_wp2
    go_ret3
    exact ⟨ret_i3 (by omega) (by omega), (by repeat' (first | exact G.refl _ | assumption | refine G.alloc ?_ _ | refine G.drew ?_ | refine G.drewN ?_ _ | (refine G.trans ?_ (by assumption))))⟩

/-! Rounding by a shift. -/
def rnd (mag d : Nat) : Nat := mag / 2 ^ d + (if 2 ^ (d - 1) < mag % 2 ^ d ∨ (mag % 2 ^ d = 2 ^ (d - 1) ∧ mag / 2 ^ d % 2 = 1) then 1 else 0)

theorem mask_eq (mag d : Nat) (h1 : 1 ≤ d) (h2 : d ≤ 64) (hm : mag < 2 ^ 64) :
    bits BinOp.and IntKind.u64 (mag : Int) (bits BinOp.or IntKind.u64 (2 ^ (d - 1)) (2 ^ (d - 1) - 1)) = ((mag % 2 ^ d : Nat) : Int) := by
  have hp : 1 ≤ 2 ^ (d - 1) := Nat.two_pow_pos (d - 1)
  have hq : 2 ^ (d - 1) ≤ 2 ^ 63 := pow_le (by omega)
  have hd : 2 ^ d = 2 * 2 ^ (d - 1) := by
    obtain ⟨e, rfl⟩ : ∃ e, d = e + 1 := ⟨d - 1, by omega⟩
    simp [Nat.pow_succ, Nat.mul_comm]
  have e1 : bits BinOp.or IntKind.u64 (2 ^ (d - 1)) (2 ^ (d - 1) - 1) = ((2 ^ d - 1 : Nat) : Int) := by
    rw [FT.ipow, show (((2 ^ (d - 1) : Nat) : Int) - 1) = ((2 ^ (d - 1) - 1 : Nat) : Int) from by omega, u64_or_nat _ _ (by omega) (by omega),
      nat_join (d - 1) (2 ^ (d - 1)) (2 ^ (d - 1) - 1) (by simp) (by omega)]
    congr 1
    omega
  rw [e1, u64_and_nat mag _ (by omega) (by omega), Nat.and_two_pow_sub_one_eq_mod]

end Go.Proofs.YtkelfdhpekkiaacDoor
namespace Go.Proofs.YtkelfdhpekkiaacDoor
open Go.ChangeShapes Go.WideShapes Go.ChangeAt Go.RowKit
attribute [local go_sem] frombits_r tobits_r

def shV (mag : Nat) (n : Int) : Nat := if 0 ≤ n then mag * 2 ^ n.toNat else if n < -64 then 0 else rnd mag (-n).toNat

theorem bitLen_bd (x : Nat) (h : x < 2 ^ 64) : Lib.bitLen x ≤ 64 := Lib.bitLen_le x 64 (by omega) h
theorem bitLen_log {x : Nat} (h0 : x ≠ 0) (h : x < 2 ^ 64) : Lib.bitLen x = x.log2 + 1 := by
  have h1 := Nat.log2_self_le h0
  have h2 := Nat.lt_log2_self (n := x)
  rw [Lib.bitLen_shift x.log2 x h1 h]
  have h3 : x / 2 ^ x.log2 = 1 := by
    have hp := Nat.two_pow_pos x.log2
    have a : x / 2 ^ x.log2 < 2 := by rw [Nat.div_lt_iff_lt_mul hp]; rw [Nat.pow_succ] at h2; omega
    have b : 1 ≤ x / 2 ^ x.log2 := by rw [Nat.le_div_iff_mul_le hp]; omega
    omega
  rw [h3]
  rfl

/-- What 'nearest' gives. -/
def nearV (E F mag : Nat) (e : Int) : Nat :=
  if mag = 0 then 0
  else if 2 ^ (E - 1) - 1 < e + mag.log2 then (2 ^ E - 1) * 2 ^ F
  else (max (e + mag.log2) (2 - 2 ^ (E - 1)) - (2 - 2 ^ (E - 1))).toNat * 2 ^ F + shV mag (e - (max (e + mag.log2) (2 - 2 ^ (E - 1)) - F))

theorem rnd_le (mag d : Nat) (hm : mag < 2 ^ 64) (hd : 1 ≤ d) : rnd mag d ≤ 2 ^ 63 := by
  have hkb : mag / 2 ^ d < 2 ^ 63 := by
    have : 2 ^ 1 ≤ 2 ^ d := pow_le hd
    rw [Nat.div_lt_iff_lt_mul (by omega)]
    calc mag < 2 ^ 64 := hm
      _ = 2 ^ 63 * 2 ^ 1 := by rfl
      _ ≤ 2 ^ 63 * 2 ^ d := Nat.mul_le_mul_left _ this
  unfold rnd
  split <;> omega

theorem shV_le (mag : Nat) (n : Int) (hm : mag < 2 ^ 64) (h : 0 ≤ n → mag * 2 ^ n.toNat < 2 ^ 63) : shV mag n ≤ 2 ^ 63 := by
  unfold shV
  split
  · rename_i h0; have := h h0; omega
  · split
    · omega
    · exact rnd_le _ _ hm (by omega)

theorem shV_le2 (mag F : Nat) (n : Int) (h : n + mag.log2 ≤ F) : shV mag n ≤ 2 ^ (F + 1) := by
  have hpow := Nat.lt_log2_self (n := mag)
  have h1 : 1 ≤ 2 ^ (F + 1) := Nat.two_pow_pos _
  unfold shV
  split
  · rename_i hn
    have hp := Nat.two_pow_pos n.toNat
    have : mag * 2 ^ n.toNat < 2 ^ (mag.log2 + 1) * 2 ^ n.toNat := Nat.mul_lt_mul_of_pos_right hpow hp
    have e : 2 ^ (mag.log2 + 1) * 2 ^ n.toNat = 2 ^ (mag.log2 + 1 + n.toNat) := by rw [← Nat.pow_add]
    have l : 2 ^ (mag.log2 + 1 + n.toNat) ≤ 2 ^ (F + 1) := pow_le (by omega)
    omega
  · split
    · omega
    · generalize hd : (-n).toNat = d
      have hp := Nat.two_pow_pos d
      have hq : mag / 2 ^ d < 2 ^ (F + 1) := by
        rw [Nat.div_lt_iff_lt_mul hp, ← Nat.pow_add]
        have l : 2 ^ (mag.log2 + 1) ≤ 2 ^ (F + 1 + d) := pow_le (by omega)
        omega
      unfold rnd
      split <;> omega

set_option maxRecDepth 100000 in
theorem nearV_le (mag : Nat) (e : Int) : nearV 11 52 mag e ≤ 2047 * 2 ^ 52 := by
  unfold nearV
  split
  · omega
  · split
    · omega
    · rename_i h1
      simp only [show (2 : Int) ^ (11 - 1) = 1024 from rfl] at h1 ⊢
      generalize hp : max (e + (mag.log2 : Int)) (2 - 1024) = place
      have hs := shV_le2 mag 52 (e - (place - (52 : Nat))) (by omega)
      have hmul : (place - (2 - 1024)).toNat * 2 ^ 52 ≤ 2045 * 2 ^ 52 := Nat.mul_le_mul_right _ (by omega)
      have h3 : (2 : Nat) ^ (52 + 1) = 2 * 2 ^ 52 := rfl
      rw [h3] at hs
      have key : ∀ hi lo : Nat, hi ≤ 2045 * 2 ^ 52 → lo ≤ 2 * 2 ^ 52 → hi + lo ≤ 2047 * 2 ^ 52 := by intro hi lo a b; omega
      exact key _ _ hmul hs

theorem signedW_lt (s : Bool) (r : Nat) (h : r ≤ 2047 * 2 ^ 52) : (if s then r + 2 ^ 63 else r) < 2 ^ 64 := by
  split <;> omega

def clamp (e : Int) : Int := max (-5000) (min 5000 e)

end Go.Proofs.YtkelfdhpekkiaacDoor
namespace Go.Proofs.YtkelfdhpekkiaacDoor
open Go.ChangeShapes Go.WideShapes Go.ChangeAt Go.RowKit
attribute [local go_sem] frombits_r tobits_r

theorem nan_c (w : World) : Calls Tryd.prog 40 #[] w fun e w' => e = .returned (.float .f64 FT.qnan) ∧ G w w' := by
  go_enter Tryd.func40, Tryd.ntmps40
  go_wp2
  go_ret
  exact ⟨ret_float rfl, G.refl _⟩

def upV (b : Nat) : Nat :=
  if FT.nan b then FT.qnan else if b = FT.infR then b else if FT.rung b = 0 then 1 else if FT.neg b then b - 1 else b + 1
def downV (b : Nat) : Nat :=
  if FT.nan b then FT.qnan else if b = FT.ninf then b else if FT.rung b = 0 then 1 + 2 ^ 63 else if FT.neg b then b + 1 else b - 1

set_option maxRecDepth 100000 in
theorem nextafter_up_c (b : Nat) (w : World) (h : b < 2 ^ 64) :
    Calls Tryd.prog 59 #[.float .f64 b, .float .f64 FT.infR] w fun e w' => e = .returned (.float .f64 (upV b)) ∧ G w w' := by
  have K1 : Hid _ := fun w => isnan_c b w
  have K2 : Hid _ := fun w => isnan_c FT.infR w
  rw [FT.nan_inf] at K2
  have K3 : Hid _ := fun w => copysign_c 1 FT.infR w (by omega) (by decide)
  rw [FT.rung_small (by omega), FT.neg_small (by decide)] at K3
  have hi : FT.infR = 9218868437227405312 := rfl
  have hlt := FT.rung_lt b
  unfold upV
  by_cases hn : FT.nan b = true
  · rw [if_pos hn]
    rw [hn] at K1
    clear K2 K3 hi
    generalize FT.infR = i at *
    go_enter Tryd.func59, Tryd.ntmps59
    go_wp2_with fail
    refine (K1.out _).mono ?_
    rintro e w1 ⟨rfl, hb1⟩
    have zhb1 := hb1.size
    try simp at zhb1
    go_wp2_with fail
    refine (nan_c _).mono ?_
    rintro e w2 ⟨rfl, hb2⟩
    have zhb2 := hb2.size
    try simp at zhb2
    go_wp2
    go_ret
    exact ⟨rfl, (by repeat' (first | exact G.refl _ | assumption | refine G.alloc ?_ _ | refine G.drew ?_ | refine G.drewN ?_ _ | (refine G.trans ?_ (by assumption))))⟩
  have hn' : FT.nan b = false := by simpa using hn
  rw [if_neg hn]
  rw [hn'] at K1
  have e1 := FT.eq_inf b hn'
  have e2 := FT.eq_zero b
  have e3 := FT.gt_zero b hn'
  have e4 := FT.gt_inf b hn'
  have hr := FT.nan_false hn'
  have hc := FT.neg_cases b h
  have hbi : b = FT.infR ↔ (FT.neg b = false ∧ FT.rung b = FT.infR) := by
    rcases hc with ⟨h1, h2⟩ | ⟨h1, h2⟩ <;> rw [h1] <;> unfold FT.infR at * <;> simp <;> omega
  clear hn hn' hi
  by_cases hb : b = FT.infR
  · rw [if_pos hb]
    obtain ⟨h1, h2⟩ := hbi.1 hb
    rw [h1, h2] at e1
    simp at e1
    clear e2 e3 e4 hr hc hbi h1 h2 hb K3
    generalize FT.infR = i at *
    go_enter Tryd.func59, Tryd.ntmps59
    go_wp2_with fail
    refine (K1.out _).mono ?_
    rintro e w1 ⟨rfl, hb1⟩
    have zhb1 := hb1.size
    try simp at zhb1
    go_wp2_with fail
    refine (K2.out _).mono ?_
    rintro e w2 ⟨rfl, hb2⟩
    have zhb2 := hb2.size
    try simp at zhb2
    go_wp2
    go_ret
    exact ⟨rfl, (by repeat' (first | exact G.refl _ | assumption | refine G.alloc ?_ _ | refine G.drew ?_ | refine G.drewN ?_ _ | (refine G.trans ?_ (by assumption))))⟩
  rw [if_neg hb]
  have hq : (!FT.neg b && decide (FT.rung b = FT.infR)) = false := by
    rw [Bool.eq_false_iff]
    intro h'
    simp only [Bool.and_eq_true, Bool.not_eq_true', decide_eq_true_eq] at h'
    exact hb (hbi.2 h')
  have e1' : (FloatKind.f64.format.order b FT.infR == some .eq) = false := by rw [e1, hq]
  have e4' : (FloatKind.f64.format.order FT.infR b == some .gt) = true := by rw [e4, hq]; rfl
  clear hq
  clear e1 e4 hbi hb
  by_cases h0 : FT.rung b = 0
  · rw [if_pos h0]
    rw [h0] at e2
    simp at e2
    clear e3 e4' hr hc
    generalize FT.infR = i at *
    go_enter Tryd.func59, Tryd.ntmps59
    go_wp2_with fail
    refine (K1.out _).mono ?_
    rintro e w1 ⟨rfl, hb1⟩
    have zhb1 := hb1.size
    try simp at zhb1
    go_wp2_with fail
    refine (K2.out _).mono ?_
    rintro e w2 ⟨rfl, hb2⟩
    have zhb2 := hb2.size
    try simp at zhb2
    go_wp2_with fail
    refine (K3.out _).mono ?_
    rintro e w3 ⟨rfl, hb3⟩
    have zhb3 := hb3.size
    try simp at zhb3
    go_wp2
    go_ret
    exact ⟨rfl, (by repeat' (first | exact G.refl _ | assumption | refine G.alloc ?_ _ | refine G.drew ?_ | refine G.drewN ?_ _ | (refine G.trans ?_ (by assumption))))⟩
  rw [if_neg h0]
  rw [decide_eq_false h0] at e2
  rw [decide_eq_true h0] at e3
  have hb64 : 1 ≤ b ∧ b ≤ 18446744073709551614 := by
    rcases hc with ⟨h1, h2⟩ | ⟨h1, h2⟩ <;> unfold FT.infR at * <;> omega
  have hbi : 1 ≤ (b : Int) ∧ (b : Int) ≤ 18446744073709551614 := by omega
  clear hr hc h0 K3
  generalize FT.infR = i at *
  cases hneg : FT.neg b
  · rw [hneg] at e3
    have e3' : (FloatKind.f64.format.order b 0 == some .gt) = true := e3
    clear hneg e3
    go_enter Tryd.func59, Tryd.ntmps59
    go_wp2_with fail
    refine (K1.out _).mono ?_
    rintro e w1 ⟨rfl, hb1⟩
    have zhb1 := hb1.size
    try simp at zhb1
    go_wp2_with fail
    refine (K2.out _).mono ?_
    rintro e w2 ⟨rfl, hb2⟩
    have zhb2 := hb2.size
    try simp at zhb2
    go_wp2
    go_ret
    exact ⟨ret_float (by simp), (by repeat' (first | exact G.refl _ | assumption | refine G.alloc ?_ _ | refine G.drew ?_ | refine G.drewN ?_ _ | (refine G.trans ?_ (by assumption))))⟩
  · rw [hneg] at e3
    have e3' : (FloatKind.f64.format.order b 0 == some .gt) = false := e3
    clear hneg e3
    go_enter Tryd.func59, Tryd.ntmps59
    go_wp2_with fail
    refine (K1.out _).mono ?_
    rintro e w1 ⟨rfl, hb1⟩
    have zhb1 := hb1.size
    try simp at zhb1
    go_wp2_with fail
    refine (K2.out _).mono ?_
    rintro e w2 ⟨rfl, hb2⟩
    have zhb2 := hb2.size
    try simp at zhb2
    go_wp2
    go_ret
    exact ⟨ret_float (by simp), (by repeat' (first | exact G.refl _ | assumption | refine G.alloc ?_ _ | refine G.drew ?_ | refine G.drewN ?_ _ | (refine G.trans ?_ (by assumption))))⟩

set_option maxRecDepth 100000 in
theorem nextafter_down_c (b : Nat) (w : World) (h : b < 2 ^ 64) :
    Calls Tryd.prog 59 #[.float .f64 b, .float .f64 FT.ninf] w fun e w' => e = .returned (.float .f64 (downV b)) ∧ G w w' := by
  have K1 : Hid _ := fun w => isnan_c b w
  have K2 : Hid _ := fun w => isnan_c FT.ninf w
  rw [FT.nan_ninf] at K2
  have K3 : Hid _ := fun w => copysign_c 1 FT.ninf w (by omega) (by decide)
  rw [FT.rung_small (by omega), FT.neg_ninf] at K3
  have hlt := FT.rung_lt b
  unfold downV
  by_cases hn : FT.nan b = true
  · rw [if_pos hn]
    rw [hn] at K1
    clear K2 K3
    generalize FT.ninf = i at *
    go_enter Tryd.func59, Tryd.ntmps59
    go_wp2_with fail
    refine (K1.out _).mono ?_
    rintro e w1 ⟨rfl, hb1⟩
    have zhb1 := hb1.size
    try simp at zhb1
    go_wp2_with fail
    refine (nan_c _).mono ?_
    rintro e w2 ⟨rfl, hb2⟩
    have zhb2 := hb2.size
    try simp at zhb2
    go_wp2
    go_ret
    exact ⟨rfl, (by repeat' (first | exact G.refl _ | assumption | refine G.alloc ?_ _ | refine G.drew ?_ | refine G.drewN ?_ _ | (refine G.trans ?_ (by assumption))))⟩
  have hn' : FT.nan b = false := by simpa using hn
  rw [if_neg hn]
  rw [hn'] at K1
  have e1 := FT.eq_ninf b hn'
  have e2 := FT.eq_zero b
  have e3 := FT.gt_zero b hn'
  have e4 := FT.gt_ninf b hn'
  have hr := FT.nan_false hn'
  have hc := FT.neg_cases b h
  have hbi : b = FT.ninf ↔ (FT.neg b = true ∧ FT.rung b = FT.infR) := by
    rcases hc with ⟨h1, h2⟩ | ⟨h1, h2⟩ <;> rw [h1] <;> unfold FT.ninf FT.infR at * <;> simp <;> omega
  clear hn hn'
  by_cases hb : b = FT.ninf
  · rw [if_pos hb]
    obtain ⟨h1, h2⟩ := hbi.1 hb
    rw [h1, h2] at e1
    simp at e1
    clear e2 e3 e4 hr hc hbi h1 h2 hb K3
    generalize FT.ninf = i at *
    go_enter Tryd.func59, Tryd.ntmps59
    go_wp2_with fail
    refine (K1.out _).mono ?_
    rintro e w1 ⟨rfl, hb1⟩
    have zhb1 := hb1.size
    try simp at zhb1
    go_wp2_with fail
    refine (K2.out _).mono ?_
    rintro e w2 ⟨rfl, hb2⟩
    have zhb2 := hb2.size
    try simp at zhb2
    go_wp2
    go_ret
    exact ⟨rfl, (by repeat' (first | exact G.refl _ | assumption | refine G.alloc ?_ _ | refine G.drew ?_ | refine G.drewN ?_ _ | (refine G.trans ?_ (by assumption))))⟩
  rw [if_neg hb]
  have hq : (FT.neg b && decide (FT.rung b = FT.infR)) = false := by
    rw [Bool.eq_false_iff]
    intro h'
    simp only [Bool.and_eq_true, decide_eq_true_eq] at h'
    exact hb (hbi.2 h')
  have e1' : (FloatKind.f64.format.order b FT.ninf == some .eq) = false := by rw [e1, hq]
  have e4' : (FloatKind.f64.format.order FT.ninf b == some .gt) = false := e4
  clear hq
  clear e1 e4 hbi hb
  by_cases h0 : FT.rung b = 0
  · rw [if_pos h0]
    rw [h0] at e2
    simp at e2
    clear e3 e4' hr hc
    generalize FT.ninf = i at *
    go_enter Tryd.func59, Tryd.ntmps59
    go_wp2_with fail
    refine (K1.out _).mono ?_
    rintro e w1 ⟨rfl, hb1⟩
    have zhb1 := hb1.size
    try simp at zhb1
    go_wp2_with fail
    refine (K2.out _).mono ?_
    rintro e w2 ⟨rfl, hb2⟩
    have zhb2 := hb2.size
    try simp at zhb2
    go_wp2_with fail
    refine (K3.out _).mono ?_
    rintro e w3 ⟨rfl, hb3⟩
    have zhb3 := hb3.size
    try simp at zhb3
    go_wp2
    go_ret
    exact ⟨rfl, (by repeat' (first | exact G.refl _ | assumption | refine G.alloc ?_ _ | refine G.drew ?_ | refine G.drewN ?_ _ | (refine G.trans ?_ (by assumption))))⟩
  rw [if_neg h0]
  rw [decide_eq_false h0] at e2
  rw [decide_eq_true h0] at e3
  have hb64 : 1 ≤ b ∧ b ≤ 18446744073709551614 := by
    rcases hc with ⟨h1, h2⟩ | ⟨h1, h2⟩ <;> unfold FT.infR at * <;> omega
  have hbi : 1 ≤ (b : Int) ∧ (b : Int) ≤ 18446744073709551614 := by omega
  clear hr hc h0 K3
  generalize FT.ninf = i at *
  cases hneg : FT.neg b
  · rw [hneg] at e3
    have e3' : (FloatKind.f64.format.order b 0 == some .gt) = true := e3
    clear hneg e3
    go_enter Tryd.func59, Tryd.ntmps59
    go_wp2_with fail
    refine (K1.out _).mono ?_
    rintro e w1 ⟨rfl, hb1⟩
    have zhb1 := hb1.size
    try simp at zhb1
    go_wp2_with fail
    refine (K2.out _).mono ?_
    rintro e w2 ⟨rfl, hb2⟩
    have zhb2 := hb2.size
    try simp at zhb2
    go_wp2
    go_ret
    exact ⟨ret_float (by simp), (by repeat' (first | exact G.refl _ | assumption | refine G.alloc ?_ _ | refine G.drew ?_ | refine G.drewN ?_ _ | (refine G.trans ?_ (by assumption))))⟩
  · rw [hneg] at e3
    have e3' : (FloatKind.f64.format.order b 0 == some .gt) = false := e3
    clear hneg e3
    go_enter Tryd.func59, Tryd.ntmps59
    go_wp2_with fail
    refine (K1.out _).mono ?_
    rintro e w1 ⟨rfl, hb1⟩
    have zhb1 := hb1.size
    try simp at zhb1
    go_wp2_with fail
    refine (K2.out _).mono ?_
    rintro e w2 ⟨rfl, hb2⟩
    have zhb2 := hb2.size
    try simp at zhb2
    go_wp2
    go_ret
    exact ⟨ret_float (by simp), (by repeat' (first | exact G.refl _ | assumption | refine G.alloc ?_ _ | refine G.drew ?_ | refine G.drewN ?_ _ | (refine G.trans ?_ (by assumption))))⟩

end Go.Proofs.YtkelfdhpekkiaacDoor
namespace Go.Proofs.YtkelfdhpekkiaacDoor
open Go.ChangeShapes Go.WideShapes Go.ChangeAt Go.RowKit
attribute [local go_sem] frombits_r tobits_r

theorem unary_negf (k : FloatKind) (b : Nat) : Op.unary .neg (.float k b) = pure (.float k (Op.negFloat k b)) := rfl
attribute [local go_sem] unary_negf

theorem isinf1_c (b : Nat) (w : World) (h : b < 2 ^ 64) :
    Calls Tryd.prog 25 #[.float .f64 b, .int .i64 1] w fun e w' => e = .returned (.bool (decide (b = FT.infR))) ∧ G w w' := by
  have hg : (FloatKind.f64.format.order b 9218868437227405311 == some .gt) = decide (b = FT.infR) := by
    rcases FT.neg_cases b h with ⟨h1, h2⟩ | ⟨h1, h2⟩
    · have hne : ¬ b = FT.infR := by unfold FT.infR; omega
      have e : (9218868437227405311 : Nat) = FT.infR - 1 := by unfold FT.infR; omega
      rw [decide_eq_false hne, FT.ord_f, e, FT.key_small (c := FT.infR - 1) (by unfold FT.infR; omega)]
      cases FT.nan b
      · have hn : FT.nan (FT.infR - 1) = false := by unfold FT.nan; rw [FT.rung_small (by unfold FT.infR; omega)]; simp
        rw [hn]
        unfold FT.key
        rw [h1]
        have := FT.cmp_ne_gt (a := -(FT.rung b : Int)) (b := ((FT.infR - 1 : Nat) : Int)) (by omega)
        simp [this]
      · simp
    · have := FT.gt_max b
      rw [← h2] at this
      exact this
  go_enter Tryd.func25, Tryd.ntmps25
  go_wp2
  go_ret
  exact ⟨rfl, G.refl _⟩

def nextV (b : Nat) : Nat :=
  if FT.nan b then b else if b = FT.infR then b else if FT.rung b = 0 then 1 else if FT.neg b then b - 1 else b + 1

def negV (b : Nat) : Nat := if FT.neg b then b - 2 ^ 63 else b + 2 ^ 63
theorem negFloat_eq (b : Nat) (h : b < 2 ^ 64) : Op.negFloat .f64 b = negV b := by
  unfold negV
  show b ^^^ 2 ^ 63 = _
  rcases FT.neg_cases b h with ⟨h1, h2⟩ | ⟨h1, h2⟩
  · rw [if_pos h1]
    have hr := FT.rung_lt b
    generalize FT.rung b = r at *
    subst h2
    have e : r + 2 ^ 63 = 2 ^ 63 ||| r := by rw [nat_join 63 (2 ^ 63) r (by omega) hr]; omega
    apply Nat.eq_of_testBit_eq
    intro i
    rw [e, Nat.testBit_xor, Nat.testBit_or, Nat.testBit_two_pow]
    have e2 : (2 ^ 63 ||| r) - 2 ^ 63 = r := by rw [← e]; omega
    rw [e2]
    by_cases hi : 63 = i
    · subst hi
      rw [Nat.testBit_lt_two_pow hr]
      rfl
    · simp [hi]
  · rw [if_neg (by rw [h1]; simp)]
    have hr := FT.rung_lt b
    rw [← h2] at hr
    have e : b + 2 ^ 63 = 2 ^ 63 ||| b := by rw [nat_join 63 (2 ^ 63) b (by omega) hr]; omega
    apply Nat.eq_of_testBit_eq
    intro i
    rw [e, Nat.testBit_xor, Nat.testBit_or, Nat.testBit_two_pow]
    by_cases hi : 63 = i
    · subst hi
      rw [Nat.testBit_lt_two_pow hr]
      rfl
    · simp [hi]
theorem negV_lt (b : Nat) (h : b < 2 ^ 64) : negV b < 2 ^ 64 := by
  unfold negV
  rcases FT.neg_cases b h with ⟨h1, h2⟩ | ⟨h1, h2⟩
  · rw [if_pos h1]; omega
  · have hr := FT.rung_lt b
    rw [if_neg (by rw [h1]; simp)]; omega
theorem nextV_lt (b : Nat) (h : b < 2 ^ 64) : nextV b < 2 ^ 64 := by
  unfold nextV
  split
  · exact h
  · rename_i hn
    have hn' : FT.nan b = false := by simpa using hn
    have hr := FT.nan_false hn'
    split
    · exact h
    · split
      · omega
      · rename_i h0
        rcases FT.neg_cases b h with ⟨h1, h2⟩ | ⟨h1, h2⟩
        · rw [if_pos h1]; omega
        · unfold FT.infR at *
          rw [if_neg (by rw [h1]; simp)]; omega

def keyV (b : Nat) : Int := if FT.nan b then 9223372036854775807 else if FT.neg b then -1 - (FT.rung b : Int) else FT.rung b

end Go.Proofs.YtkelfdhpekkiaacDoor
namespace Go.Proofs.YtkelfdhpekkiaacDoor
open Go.ChangeShapes Go.WideShapes Go.ChangeAt Go.RowKit
attribute [local go_sem] frombits_r tobits_r unary_negf

def kindR (b : Nat) : Int := if FT.nan b then 1 else if FT.rung b = FT.infR then 2 else if FT.rung b = 0 then 3 else if FT.rung b < 2 ^ 52 then 4 else 5

theorem normalize_nor_c (b : Nat) (w : World) (h : b < 2 ^ 64) (hr : 2 ^ 52 ≤ FT.rung b) :
    Calls Tryd.prog 97 #[.float .f64 b] w fun e w' => e = .returned (.tuple #[.float .f64 b, .int .i64 0]) ∧ G w w' := by
  have K3 : Hid _ := fun w => abs_c b w h
  have e2 := FT.lt_const b 4503599627370496 (by decide)
  rw [decide_eq_false (by omega)] at e2
  generalize FT.rung b = r at *
  clear hr h
  go_enter Tryd.func97, Tryd.ntmps97
  go_wp2_with (first | (go_at_call 27; refine (K3.out _).mono ?_; rintro e wn ⟨rfl, hbn⟩))
  go_ret2
  exact ⟨rfl, (by repeat' (first | exact G.refl _ | assumption | refine G.alloc ?_ _ | refine G.drew ?_ | refine G.drewN ?_ _ | (refine G.trans ?_ (by assumption))))⟩

theorem normalize_sub_c (s : Bool) (f n t : Nat) (w : World) (hf : f < 2 ^ 52) (h0 : f ≠ 0) (hn : n ≤ 52) (ht : t < 2 ^ 52) (e : f * 2 ^ n = 2 ^ 52 + t) :
    Calls Tryd.prog 97 #[.float .f64 (FT.wrd s f)] w fun e w' => e = .returned (.tuple #[.float .f64 (FT.wrd s ((53 - n) * 2 ^ 52 + t)), .int .i64 (-52)]) ∧ G w w' := by
  have K3 : Hid _ := fun w => abs_c (FT.wrd s f) w (FT.wrd_lt s f (by omega))
  have e2 := FT.lt_const (FT.wrd s f) 4503599627370496 (by decide)
  rw [FT.wrd_rung s f (by omega)] at e2 K3
  rw [decide_eq_true (by omega)] at e2
  have hm := fun (w : World) => run_float_arith (P := Tryd.prog) w .mul 22 .f64 _ _ _ (FT.mul52 s f n t hf h0 hn ht e)
  generalize FT.wrd s ((53 - n) * 2 ^ 52 + t) = y at *
  generalize FT.wrd s f = b at *
  clear hf h0 hn ht e
  go_enter Tryd.func97, Tryd.ntmps97
  go_wp2_with (first | (go_at_call 27; refine (K3.out _).mono ?_; rintro e wn ⟨rfl, hbn⟩))
  go_ret2
  exact ⟨rfl, (by repeat' (first | exact G.refl _ | assumption | refine G.alloc ?_ _ | refine G.drew ?_ | refine G.drewN ?_ _ | (refine G.trans ?_ (by assumption))))⟩

theorem ret_ii {a a' b b' : Int} (h1 : a = a') (h2 : b = b') : Ending.returned (.tuple #[.int .i64 a, .int .i64 b]) = .returned (.tuple #[.int .i64 a', .int .i64 b']) := by rw [h1, h2]
theorem ret_fi {a a' : Nat} {b b' : Int} (h1 : a = a') (h2 : b = b') : Ending.returned (.tuple #[.float .f64 a, .int .i64 b]) = .returned (.tuple #[.float .f64 a', .int .i64 b']) := by rw [h1, h2]

theorem half_even (s q : Int) (d : Nat) : (s * (q * 2 ^ (d + 1))).tmod 2 = 0 ∧ (s * (q * 2 ^ (d + 1))).tdiv 2 = s * (q * 2 ^ d) := by
  have e : s * (q * 2 ^ (d + 1)) = (s * (q * 2 ^ d)) * 2 := by rw [Int.pow_succ, ← Int.mul_assoc, ← Int.mul_assoc, ← Int.mul_assoc]
  rw [e]
  exact ⟨Int.mul_tmod_left _ _, Int.mul_tdiv_cancel _ (by decide)⟩

theorem odd_no (s : Int) (j : Nat) (hs : s = 1 ∨ s = -1) : ((s * ((2 * j + 1) * 2 ^ 0)).tmod 2 == 0) = false := by
  have e : s * ((2 * (j : Int) + 1) * 2 ^ 0) = s * (2 * j + 1) := by simp
  rw [e]
  rw [beq_eq_false_iff_ne]
  intro h
  have h2 := Int.dvd_of_tmod_eq_zero h
  rcases hs with rfl | rfl <;> omega

end Go.Proofs.YtkelfdhpekkiaacDoor
namespace Go.Proofs.YtkelfdhpekkiaacDoor
open Go.ChangeShapes Go.WideShapes Go.ChangeAt Go.RowKit
attribute [local go_sem] frombits_r tobits_r unary_negf

set_option maxRecDepth 100000 in
theorem ldexp_mid_core (b e u z r : Nat) (n : Int) (w : World) (he : e < 2048) (hn1 : -6000 ≤ n) (hn2 : n ≤ 6000)
    (hb : b < 2 ^ 64) (hfin : FT.rung b < FT.infR) (hnor : 2 ^ 52 ≤ FT.rung b)
    (hx1 : -1022 ≤ n + ((e : Int) - 1023)) (hx2 : n + ((e : Int) - 1023) ≤ 1023)
    (L1 : bits BinOp.and IntKind.i64 ((b : Int) / 4503599627370496) 2047 = (e : Int))
    (L2 : bits BinOp.andNot IntKind.u64 (b : Int) 9218868437227405312 = (u : Int))
    (L3 : bits BinOp.or IntKind.u64 (u : Int) ((n + ((e : Int) - 1023) + 1023) * 4503599627370496) = (z : Int))
    (hmul : ∀ w : World, (binOp .mul 22 (.float .f64 4607182418800017408) (.float .f64 z)).run Tryd.prog w = .ok (.float .f64 r) w) :
    Calls Tryd.prog 89 #[.float .f64 b, .int .i64 n] w fun o w' => o = .returned (.float .f64 r) ∧ G w w' := by
  have K1 : Hid _ := fun w => isnan_c b w
  have K2 : Hid _ := fun w => isinf_c b w hb
  have K3 : Hid _ := fun w => normalize_nor_c b w hb hnor
  have hnan : FT.nan b = false := by unfold FT.nan; simp; omega
  rw [hnan] at K1
  rw [decide_eq_false (by omega)] at K2
  have e1 := FT.eq_zero b
  rw [decide_eq_false (by omega)] at e1
  have hw : wrap64 ((b : Int) / 4503599627370496) = (b : Int) / 4503599627370496 := IntWalk.wrap64_in _ (by omega)
  clear hfin hnan hb hnor
  go_enter Tryd.func89, Tryd.ntmps89
  go_wp2_with fail
  refine (K2.out _).mono ?_
  rintro e w1 ⟨rfl, hb1⟩
  have zhb1 := hb1.size
  try simp at zhb1
  go_wp2_with fail
  refine (K1.out _).mono ?_
  rintro e w2 ⟨rfl, hb2⟩
  have zhb2 := hb2.size
  try simp at zhb2
  go_wp2_with fail
  refine (K3.out _).mono ?_
  rintro e w3 ⟨rfl, hb3⟩
  have zhb3 := hb3.size
  try simp at zhb3
  go_wp2
  go_ret
  exact ⟨rfl, (by repeat' (first | exact G.refl _ | assumption | refine G.alloc ?_ _ | refine G.drew ?_ | refine G.drewN ?_ _ | (refine G.trans ?_ (by assumption))))⟩

set_option maxRecDepth 100000 in
theorem ldexp_den_core (b e u z r : Nat) (n : Int) (w : World) (he : e < 2048) (hn1 : -6000 ≤ n) (hn2 : n ≤ 6000)
    (hb : b < 2 ^ 64) (hfin : FT.rung b < FT.infR) (hnor : 2 ^ 52 ≤ FT.rung b)
    (hx1 : -1075 ≤ n + ((e : Int) - 1023)) (hx2 : n + ((e : Int) - 1023) < -1022)
    (L1 : bits BinOp.and IntKind.i64 ((b : Int) / 4503599627370496) 2047 = (e : Int))
    (L2 : bits BinOp.andNot IntKind.u64 (b : Int) 9218868437227405312 = (u : Int))
    (L3 : bits BinOp.or IntKind.u64 (u : Int) ((n + ((e : Int) - 1023) + 53 + 1023) * 4503599627370496) = (z : Int))
    (hmul : ∀ w : World, (binOp .mul 22 (.float .f64 4368491638549381120) (.float .f64 z)).run Tryd.prog w = .ok (.float .f64 r) w) :
    Calls Tryd.prog 89 #[.float .f64 b, .int .i64 n] w fun o w' => o = .returned (.float .f64 r) ∧ G w w' := by
  have K1 : Hid _ := fun w => isnan_c b w
  have K2 : Hid _ := fun w => isinf_c b w hb
  have K3 : Hid _ := fun w => normalize_nor_c b w hb hnor
  have hnan : FT.nan b = false := by unfold FT.nan; simp; omega
  rw [hnan] at K1
  rw [decide_eq_false (by omega)] at K2
  have e1 := FT.eq_zero b
  rw [decide_eq_false (by omega)] at e1
  have hw : wrap64 ((b : Int) / 4503599627370496) = (b : Int) / 4503599627370496 := IntWalk.wrap64_in _ (by omega)
  clear hfin hnan hb hnor
  go_enter Tryd.func89, Tryd.ntmps89
  go_wp2_with fail
  refine (K2.out _).mono ?_
  rintro e w1 ⟨rfl, hb1⟩
  have zhb1 := hb1.size
  try simp at zhb1
  go_wp2_with fail
  refine (K1.out _).mono ?_
  rintro e w2 ⟨rfl, hb2⟩
  have zhb2 := hb2.size
  try simp at zhb2
  go_wp2_with fail
  refine (K3.out _).mono ?_
  rintro e w3 ⟨rfl, hb3⟩
  have zhb3 := hb3.size
  try simp at zhb3
  go_wp2
  go_ret
  exact ⟨rfl, (by repeat' (first | exact G.refl _ | assumption | refine G.alloc ?_ _ | refine G.drew ?_ | refine G.drewN ?_ _ | (refine G.trans ?_ (by assumption))))⟩

set_option maxRecDepth 100000 in
theorem ldexp_big_core (b e : Nat) (n : Int) (w : World) (he : e < 2048) (hn1 : -6000 ≤ n) (hn2 : n ≤ 6000)
    (hb : b < 2 ^ 64) (hfin : FT.rung b < FT.infR) (hnor : 2 ^ 52 ≤ FT.rung b)
    (hx1 : 1023 < n + ((e : Int) - 1023))
    (L1 : bits BinOp.and IntKind.i64 ((b : Int) / 4503599627370496) 2047 = (e : Int)) :
    Calls Tryd.prog 89 #[.float .f64 b, .int .i64 n] w fun o w' => o = .returned (.float .f64 (FT.wrd (FT.neg b) FT.infR)) ∧ G w w' := by
  have K1 : Hid _ := fun w => isnan_c b w
  have K2 : Hid _ := fun w => isinf_c b w hb
  have K3 : Hid _ := fun w => normalize_nor_c b w hb hnor
  have hnan : FT.nan b = false := by unfold FT.nan; simp; omega
  rw [hnan] at K1
  rw [decide_eq_false (by omega)] at K2
  have e1 := FT.eq_zero b
  rw [decide_eq_false (by omega)] at e1
  have e2 := FT.lt_zero b hnan
  rw [decide_eq_true (by omega), Bool.and_true] at e2
  have hw : wrap64 ((b : Int) / 4503599627370496) = (b : Int) / 4503599627370496 := IntWalk.wrap64_in _ (by omega)
  clear hfin hnan hb hnor
  cases hs : FT.neg b
  · rw [hs] at e2
    have hv : FT.wrd false FT.infR = FT.infR := rfl
    rw [hv]
    clear hs hv
    go_enter Tryd.func89, Tryd.ntmps89
    go_wp2_with fail
    refine (K2.out _).mono ?_
    rintro e w1 ⟨rfl, hb1⟩
    have zhb1 := hb1.size
    try simp at zhb1
    go_wp2_with fail
    refine (K1.out _).mono ?_
    rintro e w2 ⟨rfl, hb2⟩
    have zhb2 := hb2.size
    try simp at zhb2
    go_wp2_with fail
    refine (K3.out _).mono ?_
    rintro e w3 ⟨rfl, hb3⟩
    have zhb3 := hb3.size
    try simp at zhb3
    go_wp2_with fail
    refine (inf_c 1 _ (by omega)).mono ?_
    rintro e w4 ⟨rfl, hb4⟩
    have zhb4 := hb4.size
    try simp at zhb4
    go_wp2
    go_ret
    exact ⟨rfl, (by repeat' (first | exact G.refl _ | assumption | refine G.alloc ?_ _ | refine G.drew ?_ | refine G.drewN ?_ _ | (refine G.trans ?_ (by assumption))))⟩
  · rw [hs] at e2
    have hv : FT.wrd true FT.infR = FT.infR + 2 ^ 63 := rfl
    rw [hv]
    clear hs hv
    go_enter Tryd.func89, Tryd.ntmps89
    go_wp2_with fail
    refine (K2.out _).mono ?_
    rintro e w1 ⟨rfl, hb1⟩
    have zhb1 := hb1.size
    try simp at zhb1
    go_wp2_with fail
    refine (K1.out _).mono ?_
    rintro e w2 ⟨rfl, hb2⟩
    have zhb2 := hb2.size
    try simp at zhb2
    go_wp2_with fail
    refine (K3.out _).mono ?_
    rintro e w3 ⟨rfl, hb3⟩
    have zhb3 := hb3.size
    try simp at zhb3
    go_wp2_with fail
    refine (inf_neg_c (-1) _ (by omega)).mono ?_
    rintro e w4 ⟨rfl, hb4⟩
    have zhb4 := hb4.size
    try simp at zhb4
    go_wp2
    go_ret
    exact ⟨rfl, (by repeat' (first | exact G.refl _ | assumption | refine G.alloc ?_ _ | refine G.drew ?_ | refine G.drewN ?_ _ | (refine G.trans ?_ (by assumption))))⟩

theorem wrd_nor_bd (s : Bool) (e t : Nat) (h1 : 1 ≤ e) (h2 : e < 2047) (ht : t < 2 ^ 52) :
    FT.wrd s (e * 2 ^ 52 + t) < 2 ^ 64 ∧ FT.rung (FT.wrd s (e * 2 ^ 52 + t)) < FT.infR ∧ 2 ^ 52 ≤ FT.rung (FT.wrd s (e * 2 ^ 52 + t)) := by
  rw [FT.wrd_rung s _ (by omega)]
  exact ⟨FT.wrd_lt s _ (by omega), by unfold FT.infR; omega, by omega⟩

theorem ldexp_of_core (f n : Value) (w : World) (R : Value)
    (h : ∀ w, Calls Tryd.prog 89 #[f, n] w fun o w' => o = .returned R ∧ G w w') :
    Calls Tryd.prog 63 #[f, n] w fun o w' => o = .returned R ∧ G w w' := by
  have K : Hid _ := h
  clear h
  go_enter Tryd.func63, Tryd.ntmps63
  go_wp2_with (first | (go_at_call 89; refine (K.out _).mono ?_; rintro e wn ⟨rfl, hbn⟩))
  go_ret
  exact ⟨rfl, (by repeat' (first | exact G.refl _ | assumption | refine G.alloc ?_ _ | refine G.drew ?_ | refine G.drewN ?_ _ | (refine G.trans ?_ (by assumption))))⟩

/-- Ldexp of a normal number: within the normal range. -/
theorem ldexp_mid_c (s : Bool) (e t : Nat) (n : Int) (w : World) (h1 : 1 ≤ e) (h2 : e < 2047) (ht : t < 2 ^ 52) (hn1 : -6000 ≤ n) (hn2 : n ≤ 6000)
    (hx1 : 1 ≤ n + e) (hx2 : n + e ≤ 2046) :
    Calls Tryd.prog 63 #[.float .f64 (FT.wrd s (e * 2 ^ 52 + t)), .int .i64 n] w fun o w' => o = .returned (.float .f64 (FT.wrd s ((n + e).toNat * 2 ^ 52 + t))) ∧ G w w' := by
  obtain ⟨b1, b2, b3⟩ := wrd_nor_bd s e t h1 h2 ht
  refine ldexp_of_core _ _ w _ (fun w => ?_)
  have l3 := FT.put_exp s (n + e).toNat t (by omega) ht
  rw [show (((n + (e : Int)).toNat : Nat) : Int) = n + ((e : Int) - 1023) + 1023 from by omega] at l3
  exact ldexp_mid_core _ e (FT.wrd s t) _ _ n w (by omega) hn1 hn2 b1 b2 b3 (by omega) (by omega) (FT.exp_field_i64 s e t (by omega) ht) (FT.clear_exp s e t (by omega) ht) l3
    (fun w => run_float_arith w .mul 22 .f64 _ _ _ (FT.mul_one s (n + e).toNat t (by omega) (by omega) ht))

/-- Ldexp of a normal number: below the normal range, exactly. -/
theorem ldexp_den_c (s : Bool) (e t r d : Nat) (n : Int) (w : World) (h1 : 1 ≤ e) (h2 : e < 2047) (ht : t < 2 ^ 52) (hn1 : -6000 ≤ n) (hn2 : n ≤ 6000)
    (hd1 : 1 ≤ d) (hd2 : d ≤ 53) (hd : (d : Int) = 1 - (n + e)) (hr : r < 2 ^ 52) (h : 2 ^ 52 + t = r * 2 ^ d) :
    Calls Tryd.prog 63 #[.float .f64 (FT.wrd s (e * 2 ^ 52 + t)), .int .i64 n] w fun o w' => o = .returned (.float .f64 (FT.wrd s r)) ∧ G w w' := by
  obtain ⟨b1, b2, b3⟩ := wrd_nor_bd s e t h1 h2 ht
  refine ldexp_of_core _ _ w _ (fun w => ?_)
  have l3 := FT.put_exp s (54 - d) t (by omega) ht
  rw [show (((54 - d : Nat) : Nat) : Int) = n + ((e : Int) - 1023) + 53 + 1023 from by omega] at l3
  have hm := FT.mul_den s (54 - d) t r (by omega) (by omega) ht hr (by rw [show 54 - (54 - d) = d from by omega]; exact h)
  exact ldexp_den_core _ e (FT.wrd s t) _ _ n w (by omega) hn1 hn2 b1 b2 b3 (by omega) (by omega) (FT.exp_field_i64 s e t (by omega) ht) (FT.clear_exp s e t (by omega) ht) l3
    (fun w => run_float_arith w .mul 22 .f64 _ _ _ hm)

/-- Ldexp of a normal number: beyond the greatest. -/
theorem ldexp_big_c (s : Bool) (e t : Nat) (n : Int) (w : World) (h1 : 1 ≤ e) (h2 : e < 2047) (ht : t < 2 ^ 52) (hn1 : -6000 ≤ n) (hn2 : n ≤ 6000)
    (hx : 2046 < n + e) :
    Calls Tryd.prog 63 #[.float .f64 (FT.wrd s (e * 2 ^ 52 + t)), .int .i64 n] w fun o w' => o = .returned (.float .f64 (FT.wrd s FT.infR)) ∧ G w w' := by
  obtain ⟨b1, b2, b3⟩ := wrd_nor_bd s e t h1 h2 ht
  refine ldexp_of_core _ _ w _ (fun w => ?_)
  have := ldexp_big_core _ e n w (by omega) hn1 hn2 b1 b2 b3 (by omega) (FT.exp_field_i64 s e t (by omega) ht)
  rw [FT.wrd_neg s _ (by omega)] at this
  exact this

end Go.Proofs.YtkelfdhpekkiaacDoor
namespace Go.Proofs.YtkelfdhpekkiaacDoor
open Go.ChangeShapes Go.WideShapes Go.ChangeAt Go.RowKit
attribute [local go_sem] frombits_r tobits_r unary_negf

/-- The shift that makes a significand full. -/
theorem full_shift (mag : Nat) (h0 : mag ≠ 0) (h : mag < 2 ^ 53) : ∃ sh t, sh ≤ 52 ∧ t < 2 ^ 52 ∧ mag * 2 ^ sh = 2 ^ 52 + t ∧ (2 ^ 52 ≤ mag → sh = 0) ∧ sh = 52 - mag.log2 := by
  have h1 := Nat.log2_self_le h0
  have h2 := Nat.lt_log2_self (n := mag)
  have h3 : mag.log2 < 53 := (Nat.log2_lt h0).2 h
  refine ⟨52 - mag.log2, mag * 2 ^ (52 - mag.log2) - 2 ^ 52, by omega, ?_, ?_, ?_, rfl⟩
  · have : mag * 2 ^ (52 - mag.log2) < 2 ^ (mag.log2 + 1) * 2 ^ (52 - mag.log2) := Nat.mul_lt_mul_of_pos_right h2 (Nat.two_pow_pos _)
    rw [← Nat.pow_add, show mag.log2 + 1 + (52 - mag.log2) = 53 from by omega] at this
    omega
  · have : 2 ^ mag.log2 * 2 ^ (52 - mag.log2) ≤ mag * 2 ^ (52 - mag.log2) := Nat.mul_le_mul_right _ h1
    rw [← Nat.pow_add, show mag.log2 + (52 - mag.log2) = 52 from by omega] at this
    omega
  · intro hm
    have : 2 ^ 52 < 2 ^ (mag.log2 + 1) := by omega
    have := (Nat.pow_lt_pow_iff_right (by omega : 1 < 2)).1 this
    omega

end Go.Proofs.YtkelfdhpekkiaacDoor
namespace Go.Proofs.YtkelfdhpekkiaacDoor
open Go.ChangeShapes Go.WideShapes Go.ChangeAt Go.RowKit
attribute [local go_sem] frombits_r tobits_r unary_negf

theorem rnd_cut (s : Bool) (mag d : Nat) (h0 : mag ≠ 0) (hd : 1 ≤ d) : Ieee.Toward.even.cut s mag d = rnd mag d := by
  have h1 := Nat.log2_self_le h0
  have h2 := Nat.lt_log2_self (n := mag)
  have hdd : 2 ^ d = 2 * 2 ^ (d - 1) := by
    obtain ⟨e, rfl⟩ : ∃ e, d = e + 1 := ⟨d - 1, by omega⟩
    simp [Nat.pow_succ, Nat.mul_comm]
  unfold Ieee.Toward.cut rnd
  by_cases h : d ≤ mag.log2 + 2
  · have hm : min d (mag.log2 + 2) = d := by omega
    simp only [hm, Nat.shiftLeft_eq, Nat.one_mul]
    congr 1
    generalize mag % 2 ^ d = rest
    generalize mag / 2 ^ d % 2 = par
    rw [hdd]
    generalize 2 ^ (d - 1) = half
    by_cases c1 : half < rest
    · have c2 : 2 * half < 2 * rest := by omega
      simp [c1]
    · have c2 : ¬ 2 * half < 2 * rest := by omega
      by_cases c3 : rest = half
      · subst c3
        by_cases c4 : par = 1 <;> simp [c4]
      · have c4 : ¬ 2 * half = 2 * rest := by omega
        simp [c1, c3, c4]
  · have hm : min d (mag.log2 + 2) = mag.log2 + 2 := by omega
    have hp : 2 ^ (mag.log2 + 2) = 2 * 2 ^ (mag.log2 + 1) := by rw [Nat.pow_succ 2 (mag.log2 + 1), Nat.mul_comm]
    have hq : 2 ^ (mag.log2 + 2) ≤ 2 ^ (d - 1) := pow_le (by omega)
    have hr : 2 ^ (d - 1) ≤ 2 ^ d := pow_le (by omega)
    simp only [hm, Nat.shiftLeft_eq, Nat.one_mul]
    rw [Nat.div_eq_of_lt (show mag < 2 ^ (mag.log2 + 2) by omega), Nat.mod_eq_of_lt (show mag < 2 ^ (mag.log2 + 2) by omega),
      Nat.div_eq_of_lt (show mag < 2 ^ d by omega), Nat.mod_eq_of_lt (show mag < 2 ^ d by omega)]
    rw [if_neg (by omega)]
    have c1 : ¬ 2 ^ (mag.log2 + 2) < 2 * mag := by omega
    have c2 : ¬ 2 ^ (mag.log2 + 2) = 2 * mag := by omega
    simp [c1]

theorem shV_cut (s : Bool) (mag : Nat) (n : Int) (h0 : mag ≠ 0) (hm : mag < 2 ^ 64) : shV mag n = Ieee.Toward.even.cut s (mag <<< n.toNat) (-n).toNat := by
  unfold shV
  by_cases hn : 0 ≤ n
  · rw [if_pos hn, show (-n).toNat = 0 from by omega, FT.cut_zero, Nat.shiftLeft_eq]
  · rw [if_neg hn, show n.toNat = 0 from by omega, Nat.shiftLeft_zero, rnd_cut s mag _ h0 (by omega)]
    split
    · have : 2 ^ 64 ≤ 2 ^ ((-n).toNat - 1) := pow_le (by omega)
      have h2 : 2 ^ ((-n).toNat - 1) ≤ 2 ^ (-n).toNat := pow_le (by omega)
      unfold rnd
      rw [Nat.div_eq_of_lt (by omega), Nat.mod_eq_of_lt (by omega), if_neg (by omega)]
    · rfl

theorem nearV_ieee (s : Bool) (mag : Nat) (e : Int) (h0 : mag ≠ 0) (hm : mag < 2 ^ 64) :
    Ieee.double.nearest s mag e = FT.wrd s (nearV 11 52 mag e) := by
  have hle := nearV_le mag e
  have h1 := Nat.log2_self_le h0
  unfold Ieee.Format.nearest
  rw [if_neg h0, FT.leastPlace_eq, FT.infRung_eq, FT.binade_eq, FT.word_eq]
  congr 1
  show min ((max (e + (mag.log2 : Int) - (52 : Nat)) (-1074) - -1074).toNat * 2 ^ 52 + Ieee.Toward.even.cut s (mag <<< (e - max (e + (mag.log2 : Int) - (52 : Nat)) (-1074)).toNat) (max (e + (mag.log2 : Int) - (52 : Nat)) (-1074) - e).toNat) (2047 * 2 ^ 52) = _
  generalize hl : max (e + (mag.log2 : Int) - (52 : Nat)) (-1074) = last
  have hc := shV_cut s mag (e - last) h0 hm
  rw [show (-(e - last)).toNat = (last - e).toNat from by omega] at hc
  rw [← hc]
  unfold nearV at hle ⊢
  rw [if_neg h0] at hle ⊢
  have h2 : (2 : Int) ^ (11 - 1) = 1024 := rfl
  rw [h2] at hle ⊢
  by_cases hbig : (1024 : Int) - 1 < e + mag.log2
  · rw [if_pos hbig]
    have hlast : last = e + mag.log2 - 52 := by omega
    have hk : 2 ^ 52 ≤ shV mag (e - last) := by
      unfold shV
      by_cases hn : 0 ≤ e - last
      · rw [if_pos hn]
        have : 2 ^ mag.log2 * 2 ^ (e - last).toNat ≤ mag * 2 ^ (e - last).toNat := Nat.mul_le_mul_right _ h1
        rw [← Nat.pow_add, show mag.log2 + (e - last).toNat = 52 from by omega] at this
        exact this
      · rw [if_neg hn]
        have hlg : mag.log2 < 64 := (Nat.log2_lt h0).2 hm
        rw [if_neg (by omega)]
        unfold rnd
        have : 2 ^ 52 ≤ mag / 2 ^ (-(e - last)).toNat := by
          rw [Nat.le_div_iff_mul_le (Nat.two_pow_pos _), ← Nat.pow_add, show 52 + (-(e - last)).toNat = mag.log2 from by omega]
          exact h1
        omega
    have hhi : 2046 * 2 ^ 52 ≤ (last - -1074).toNat * 2 ^ 52 := Nat.mul_le_mul_right _ (by omega)
    have key : ∀ hi lo : Nat, 2046 * 2 ^ 52 ≤ hi → 2 ^ 52 ≤ lo → min (hi + lo) (2047 * 2 ^ 52) = (2 ^ 11 - 1) * 2 ^ 52 := by intro hi lo a b; omega
    exact key _ _ hhi hk
  · rw [if_neg hbig] at hle ⊢
    have hp : max (e + (mag.log2 : Int)) (2 - 1024) = last + 52 := by omega
    rw [hp] at hle ⊢
    have e1 : (last + 52 - (2 - 1024)).toNat = (last - -1074).toNat := by omega
    have e2 : e - (last + 52 - (52 : Nat)) = e - last := by omega
    rw [e1, e2] at hle ⊢
    exact Nat.min_eq_left hle

theorem nearV_exact (mag r : Nat) (e : Int) (h0 : mag ≠ 0) (hm : mag < 2 ^ 64) (hr : r < FT.infR)
    (h : mag * 2 ^ (e + 1074).toNat = FT.v r * 2 ^ (-1074 - e).toNat) : nearV 11 52 mag e = r := by
  have h1 := nearV_ieee false mag e h0 hm
  rw [FT.nearest_exact false mag e r hr h0 h, FT.word_eq] at h1
  exact h1.symm

def ulpV (ex : Nat) : Nat := if ex = 2047 then 0 else nearV 11 52 1 ((max ex 1 : Nat) - 1075)

theorem ulp_small (ex : Nat) (h : ex ≤ 1) : nearV 11 52 1 ((max ex 1 : Nat) - 1075) = 1 := by
  rw [show ((max ex 1 : Nat) : Int) - 1075 = -1074 from by omega]
  exact nearV_exact 1 1 (-1074) (by omega) (by omega) (by decide) (by rw [FT.v_sub (by omega)]; rfl)

theorem ulp_den (ex : Nat) (h1 : 1 ≤ ex) (h2 : ex ≤ 52) : nearV 11 52 1 ((ex : Int) - 1075) = 2 ^ (ex - 1) := by
  have hlt : 2 ^ (ex - 1) < 2 ^ 52 := Nat.pow_lt_pow_right (by omega) (by omega)
  refine nearV_exact 1 _ _ (by omega) (by omega) (by unfold FT.infR; omega) ?_
  rw [FT.v_sub hlt, show ((ex : Int) - 1075 + 1074).toNat = ex - 1 from by omega, show (-1074 - ((ex : Int) - 1075)).toNat = 0 from by omega, Nat.pow_zero, Nat.mul_one, Nat.one_mul]

theorem ulp_nor (ex : Nat) (h1 : 53 ≤ ex) (h2 : ex ≤ 2046) : nearV 11 52 1 ((ex : Int) - 1075) = (ex - 52) * 2 ^ 52 := by
  refine nearV_exact 1 _ _ (by omega) (by omega) (by unfold FT.infR; omega) ?_
  have := FT.v_nor' (ex - 52) 0 (by omega) (by omega)
  rw [Nat.add_zero, Nat.add_zero] at this
  rw [this, show ((ex : Int) - 1075 + 1074).toNat = 52 + (ex - 52 - 1) from by omega, show (-1074 - ((ex : Int) - 1075)).toNat = 0 from by omega, Nat.pow_zero, Nat.mul_one, Nat.one_mul, Nat.pow_add]

end Go.Proofs.YtkelfdhpekkiaacDoor
namespace Go.Proofs.YtkelfdhpekkiaacDoor
open Go.ChangeShapes Go.WideShapes Go.ChangeAt Go.RowKit
attribute [local go_sem] frombits_r tobits_r unary_negf

/-- The float of a whole number. -/
def flN (q : Nat) : Nat := nearV 11 52 q 0
theorem floatOf_nat (q : Nat) (hq : q < 2 ^ 64) : floatOfInt .f64 (q : Int) = flN q := by
  have h1 : floatOfInt .f64 (q : Int) = Ieee.double.nearest (decide ((q : Int) < 0)) (q : Int).natAbs 0 := rfl
  rw [h1, Int.natAbs_natCast, decide_eq_false (by omega)]
  by_cases h0 : q = 0
  · subst h0; decide
  · rw [nearV_ieee false q 0 h0 hq]; rfl

theorem nearV_mid (q sh t : Nat) (n : Int) (h0 : q ≠ 0) (hq : q < 2 ^ 53) (hs : q * 2 ^ sh = 2 ^ 52 + t) (hl : sh = 52 - q.log2)
    (h1 : -1022 ≤ n + (q.log2 : Int)) (h2 : n + (q.log2 : Int) ≤ 1023) : nearV 11 52 q n = (n + q.log2 + 1023).toNat * 2 ^ 52 + t := by
  have hlg : q.log2 < 53 := (Nat.log2_lt h0).2 hq
  unfold nearV
  rw [if_neg h0, show (2 : Int) ^ (11 - 1) = 1024 from rfl, if_neg (by omega), show max (n + (q.log2 : Int)) (2 - 1024) = n + q.log2 from by omega,
    show n - (n + (q.log2 : Int) - (52 : Nat)) = (sh : Int) from by omega]
  unfold shV
  rw [if_pos (by omega), Int.toNat_natCast, hs, show (n + (q.log2 : Int) + 1023).toNat = (n + (q.log2 : Int) - (2 - 1024)).toNat + 1 from by omega, Nat.add_mul, Nat.one_mul]
  omega
theorem nearV_den (q : Nat) (n : Int) (h0 : q ≠ 0) (hn : -1074 ≤ n) (h1 : n + (q.log2 : Int) < -1022) : nearV 11 52 q n = q * 2 ^ (n + 1074).toNat := by
  unfold nearV
  rw [if_neg h0, show (2 : Int) ^ (11 - 1) = 1024 from rfl, if_neg (by omega), show max (n + (q.log2 : Int)) (2 - 1024) = -1022 from by omega,
    show n - (-1022 - ((52 : Nat) : Int)) = n + 1074 from by omega]
  unfold shV
  rw [if_pos (by omega), show (-1022 - ((2 : Int) - 1024)).toNat = 0 from rfl, Nat.zero_mul, Nat.zero_add]
theorem nearV_big (q : Nat) (n : Int) (h0 : q ≠ 0) (h1 : 1023 < n + (q.log2 : Int)) : nearV 11 52 q n = FT.infR := by
  unfold nearV
  rw [if_neg h0, show (2 : Int) ^ (11 - 1) = 1024 from rfl, if_pos (by omega)]
  rfl

set_option maxRecDepth 100000 in
theorem ldexp_zero_c (n : Int) (w : World) :
    Calls Tryd.prog 63 #[.float .f64 0, .int .i64 n] w fun o w' => o = .returned (.float .f64 0) ∧ G w w' := by
  refine ldexp_of_core _ _ w _ (fun w => ?_)
  have e1 := FT.eq_zero 0
  rw [decide_eq_true (by rfl)] at e1
  go_enter Tryd.func89, Tryd.ntmps89
  go_wp2
  go_ret
  exact ⟨rfl, (by repeat' (first | exact G.refl _ | assumption | refine G.alloc ?_ _ | refine G.drew ?_ | refine G.drewN ?_ _ | (refine G.trans ?_ (by assumption))))⟩

theorem wrd_false' (x : Nat) : FT.wrd false x = x := rfl

/-- Ldexp of the float of a number below 2^53, and no power below -1074. -/
theorem ldexp_q (q : Nat) (n : Int) (w : World) (hq : q < 2 ^ 53) (hn1 : -1074 ≤ n) (hn2 : n ≤ 6000) :
    Calls Tryd.prog 63 #[.float .f64 (flN q), .int .i64 n] w fun o w' => o = .returned (.float .f64 (nearV 11 52 q n)) ∧ G w w' := by
  by_cases h0 : q = 0
  · subst h0
    have e1 : flN 0 = 0 := by decide
    have e2 : nearV 11 52 0 n = 0 := by unfold nearV; rw [if_pos rfl]
    rw [e1, e2]
    exact ldexp_zero_c n w
  obtain ⟨sh, t, hs1, ht, hsh, -, hl⟩ := full_shift q h0 hq
  have hlg : q.log2 < 53 := (Nat.log2_lt h0).2 hq
  have hF : flN q = FT.wrd false ((q.log2 + 1023) * 2 ^ 52 + t) := by
    unfold flN
    rw [nearV_mid q sh t 0 h0 hq hsh hl (by omega) (by omega), wrd_false', show (0 + (q.log2 : Int) + 1023).toNat = q.log2 + 1023 from by omega]
  rw [hF]
  by_cases c1 : 1023 < n + (q.log2 : Int)
  · rw [nearV_big q n h0 c1]
    have := ldexp_big_c false (q.log2 + 1023) t n w (by omega) (by omega) ht (by omega) hn2 (by omega)
    exact this
  · by_cases c2 : -1022 ≤ n + (q.log2 : Int)
    · rw [nearV_mid q sh t n h0 hq hsh hl c2 (by omega)]
      have := ldexp_mid_c false (q.log2 + 1023) t n w (by omega) (by omega) ht (by omega) hn2 (by omega) (by omega)
      rw [show (n + ((q.log2 + 1023 : Nat) : Int)).toNat = (n + (q.log2 : Int) + 1023).toNat from by omega] at this
      exact this
    · rw [nearV_den q n h0 hn1 (by omega)]
      have hd : ∃ d : Nat, (d : Int) = 1 - (n + ((q.log2 + 1023 : Nat) : Int)) := ⟨(1 - (n + ((q.log2 + 1023 : Nat) : Int))).toNat, by omega⟩
      obtain ⟨d, hd⟩ := hd
      have hr : 2 ^ 52 + t = q * 2 ^ (n + 1074).toNat * 2 ^ d := by
        rw [← hsh, Nat.mul_assoc, ← Nat.pow_add, show (n + 1074).toNat + d = sh from by omega]
      have hr2 : q * 2 ^ (n + 1074).toNat < 2 ^ 52 := by
        have l2 := Nat.lt_log2_self (n := q)
        have : q * 2 ^ (n + 1074).toNat < 2 ^ (q.log2 + 1) * 2 ^ (n + 1074).toNat := Nat.mul_lt_mul_of_pos_right l2 (Nat.two_pow_pos _)
        rw [← Nat.pow_add] at this
        exact Nat.lt_of_lt_of_le this (Nat.pow_le_pow_right (by omega) (by omega))
      exact ldexp_den_c false (q.log2 + 1023) t _ d n w (by omega) (by omega) ht (by omega) hn2 (by omega) (by omega) hd hr2 hr

end Go.Proofs.YtkelfdhpekkiaacDoor
namespace Go.Proofs.YtkelfdhpekkiaacDoor
open Go.ChangeShapes Go.WideShapes Go.ChangeAt Go.RowKit
attribute [local go_sem] frombits_r tobits_r

/-- A format that Pack and Unpack take. -/
def okForm (E F : Int) : Bool := decide (2 ≤ E) && (decide (E ≤ 8) && (decide (1 ≤ F) && decide (F ≤ 23)))
theorem okForm_iff {E F : Int} : okForm E F = true ↔ 2 ≤ E ∧ E ≤ 8 ∧ 1 ≤ F ∧ F ≤ 23 := by unfold okForm; simp

theorem nearV_le' (E F mag : Nat) (e : Int) (hE : 2 ≤ E) : nearV E F mag e ≤ (2 ^ E - 1) * 2 ^ F := by
  have hEp : (2 : Nat) ^ E = 2 * 2 ^ (E - 1) := by
    obtain ⟨d, rfl⟩ : ∃ d, E = d + 1 := ⟨E - 1, by omega⟩
    simp [Nat.pow_succ, Nat.mul_comm]
  have hM : 2 ≤ 2 ^ (E - 1) := by
    have : 2 ^ 1 ≤ 2 ^ (E - 1) := pow_le (by omega)
    omega
  have hMi : (2 : Int) ^ (E - 1) = ((2 ^ (E - 1) : Nat) : Int) := FT.ipow _
  unfold nearV
  split
  · exact Nat.zero_le _
  · split
    · exact Nat.le_refl _
    · rename_i h1
      rw [hMi] at h1 ⊢
      rw [hEp]
      generalize 2 ^ (E - 1) = M at *
      generalize hp : max (e + (mag.log2 : Int)) (2 - (M : Int)) = place
      have hs := shV_le2 mag F (e - (place - (F : Nat))) (by omega)
      have hmul : (place - (2 - (M : Int))).toNat * 2 ^ F ≤ (2 * M - 3) * 2 ^ F := Nat.mul_le_mul_right _ (by omega)
      have h3 : (2 : Nat) ^ (F + 1) = 2 * 2 ^ F := by rw [Nat.pow_succ, Nat.mul_comm]
      rw [h3] at hs
      have h4 : (2 * M - 1) * 2 ^ F = (2 * M - 3) * 2 ^ F + 2 * 2 ^ F := by rw [← Nat.add_mul]; congr 1; omega
      omega

theorem or_pow {y k : Nat} (h : y < 2 ^ k) (hk : k ≤ 63) : bits BinOp.or IntKind.u64 (y : Int) (2 ^ k) = ((y + 2 ^ k : Nat) : Int) := by
  have h2 : (2 : Nat) ^ k < 2 ^ 64 := Nat.pow_lt_pow_right (by omega) (by omega)
  rw [FT.ipow, u64_or_nat _ _ (by omega) (by omega), Nat.or_comm]
  have := Nat.two_pow_add_eq_or_of_lt h 1
  rw [Nat.mul_one] at this
  rw [← this, Nat.add_comm]

theorem ret_ui {a b : Int} {c : Int} (h : a = b) : Ending.returned (.tuple #[.int .u64 a, .int .i64 c]) = .returned (.tuple #[.int .u64 b, .int .i64 c]) := by rw [h]

end Go.Proofs.YtkelfdhpekkiaacDoor
