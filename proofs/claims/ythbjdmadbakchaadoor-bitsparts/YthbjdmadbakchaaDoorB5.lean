/- What is proved here: contracts of package bits, nearest and Make, over this seat's translation. -/
import Derived.Test.YthbjdmadbakchaaDoorB4
namespace Go.Proofs.YthbjdmadbakchaaDoor
open Go.ChangeShapes Go.WideShapes Go.ChangeAt Go.RowKit
attribute [local go_sem] frombits_r tobits_r

def shV (mag : Nat) (n : Int) : Nat := if 0 ≤ n then mag * 2 ^ n.toNat else if n < -64 then 0 else rnd mag (-n).toNat

theorem shift_c (mag : Nat) (n : Int) (w : World) (hm : mag < 2 ^ 64) (h : 0 ≤ n → n < 64 ∧ mag * 2 ^ n.toNat < 2 ^ 64) :
    Calls Tryd.prog 53 #[.int .u64 mag, .int .i64 n] w fun e w' => e = .returned (.int .u64 (shV mag n : Nat)) ∧ G w w' := by
  unfold shV
  by_cases h0 : 0 ≤ n
  · obtain ⟨k, rfl⟩ := Int.eq_ofNat_of_zero_le h0
    obtain ⟨h1, h2⟩ := h h0
    rw [if_pos h0]
    rw [Int.toNat_natCast] at h2 ⊢
    exact shift_up_c mag k w h2 (by omega)
  · rw [if_neg h0]
    by_cases h1 : n < -64
    · rw [if_pos h1]
      exact shift_far_c mag n w h1
    · rw [if_neg h1]
      have := shift_down_c mag (-n).toNat w hm (by omega) (by omega)
      rw [show (-(((-n).toNat : Nat) : Int)) = n from by omega] at this
      exact this

theorem bitLen_bd (x : Nat) (h : x < 2 ^ 64) : Lib.bitLen x ≤ 64 := Lib.bitLen_le x 64 (by omega) h
theorem bitLen_log {x : Nat} (h0 : x ≠ 0) (h : x < 2 ^ 64) : Lib.bitLen x = x.log2 + 1 := by
  have h1 := Nat.log2_self_le h0
  have h2 := Nat.lt_log2_self (n := x)
  rw [Lib.bitLen_shift x.log2 x h1 h]
  have h3 : x / 2 ^ x.log2 = 1 := by
    have hp := Nat.two_pow_pos x.log2
    have a : x / 2 ^ x.log2 < 2 := by rw [Nat.div_lt_iff_lt_mul hp]; rw [Nat.pow_succ] at h2; omega
    have b : 1 ≤ x / 2 ^ x.log2 := by rw [Nat.le_div_iff_mul_le hp]; omega
    omega
  rw [h3]
  rfl

/-- What 'nearest' gives. -/
def nearV (E F mag : Nat) (e : Int) : Nat :=
  if mag = 0 then 0
  else if 2 ^ (E - 1) - 1 < e + mag.log2 then (2 ^ E - 1) * 2 ^ F
  else (max (e + mag.log2) (2 - 2 ^ (E - 1)) - (2 - 2 ^ (E - 1))).toNat * 2 ^ F + shV mag (e - (max (e + mag.log2) (2 - 2 ^ (E - 1)) - F))

theorem rnd_le (mag d : Nat) (hm : mag < 2 ^ 64) (hd : 1 ≤ d) : rnd mag d ≤ 2 ^ 63 := by
  have hkb : mag / 2 ^ d < 2 ^ 63 := by
    have : 2 ^ 1 ≤ 2 ^ d := pow_le hd
    rw [Nat.div_lt_iff_lt_mul (by omega)]
    calc mag < 2 ^ 64 := hm
      _ = 2 ^ 63 * 2 ^ 1 := by rfl
      _ ≤ 2 ^ 63 * 2 ^ d := Nat.mul_le_mul_left _ this
  unfold rnd
  split <;> omega

theorem shV_le (mag : Nat) (n : Int) (hm : mag < 2 ^ 64) (h : 0 ≤ n → mag * 2 ^ n.toNat < 2 ^ 63) : shV mag n ≤ 2 ^ 63 := by
  unfold shV
  split
  · rename_i h0; have := h h0; omega
  · split
    · omega
    · exact rnd_le _ _ hm (by omega)

set_option maxRecDepth 100000 in
theorem nearest_c (mag E F : Nat) (e : Int) (w : World) (hm : mag < 2 ^ 64) (hE : 2 ≤ E) (hE2 : E ≤ 11) (hF : 1 ≤ F) (hF2 : F ≤ 52) (he1 : -6000 ≤ e) (he2 : e ≤ 6000) :
    Calls Tryd.prog 39 #[.int .u64 mag, .int .i64 e, .agg #[.int .i64 E, .int .i64 F]] w fun r w' => r = .returned (.int .u64 (nearV E F mag e : Nat)) ∧ G w w' := by
  by_cases hz : mag = 0
  · subst hz
    go_enter Tryd.func39, Tryd.ntmps39
    go_wp2
    go_ret
    exact ⟨ret_int (by simp [nearV]), (by repeat' (first | exact G.refl _ | assumption | refine G.alloc ?_ _ | refine G.drew ?_ | refine G.drewN ?_ _ | (refine G.trans ?_ (by assumption))))⟩
  have hl := bitLen_log hz hm
  have hlb := bitLen_bd mag hm
  have hpE := pow_bd (show E - 1 ≤ 10 by omega)
  have hpE' : (2 : Int) ≤ 2 ^ (E - 1) := by
    have : 2 ^ 1 ≤ 2 ^ (E - 1) := pow_le (by omega)
    rw [FT.ipow]; omega
  have hpF := pow_bd hF2
  have hz' : ((mag : Int) == 0) = false := by simp; omega
  have C1 : Hid _ := fun w => len64_c mag w hm
  have C2 : Hid _ := fun w => less_c E F w (by omega) hE2
  have C3 : Hid _ := fun w => infinite_c E F w hE2 hF2
  rw [hl] at C1
  have hlog : mag.log2 < 64 := by omega
  have hpow := Nat.lt_log2_self (n := mag)
  unfold nearV
  rw [if_neg hz]
  -- the shift
  have C4 : Hid _ := fun n w => shift_c mag n w hm
  have hnn : ∀ n : Int, n + mag.log2 ≤ F → 0 ≤ n → n < 64 ∧ mag * 2 ^ n.toNat < 2 ^ 63 := by
    intro n h1 h2
    refine ⟨by omega, ?_⟩
    have hp := Nat.two_pow_pos n.toNat
    calc mag * 2 ^ n.toNat < 2 ^ (mag.log2 + 1) * 2 ^ n.toNat := Nat.mul_lt_mul_of_pos_right hpow hp
      _ = 2 ^ (mag.log2 + 1 + n.toNat) := by rw [← Nat.pow_add]
      _ ≤ 2 ^ 63 := pow_le (by omega)
  have hsh : ∀ n : Int, n + mag.log2 ≤ F → shV mag n ≤ 2 ^ 63 := fun n h => shV_le mag n hm (fun h0 => (hnn n h h0).2)
  have H1 : Hid _ := hnn
  have H2 : Hid _ := hsh
  clear hnn hsh hpow hl hlb
  generalize mag.log2 = lg at *
  have hM : (2 : Int) ^ (E - 1) ≤ 1024 := by omega
  have hpEF : ((2 : Int) ^ E) = 2 * 2 ^ (E - 1) := by
    obtain ⟨d, rfl⟩ : ∃ d, E = d + 1 := ⟨E - 1, by omega⟩
    simp [Int.pow_succ, Int.mul_comm]
  have H3 : Hid _ := hpEF
  clear hpEF
  by_cases hbig : (2 : Int) ^ (E - 1) - 1 < e + lg
  · rw [if_pos hbig]
    have hN : ((2 : Int) ^ E - 1) * 2 ^ F = (((2 ^ E - 1) * 2 ^ F : Nat) : Int) := by
      have := Nat.two_pow_pos E
      rw [Int.natCast_mul, show ((2 ^ E - 1 : Nat) : Int) = ((2 ^ E : Nat) : Int) - 1 from by omega]
      simp
    rw [hN] at C3
    clear hN
    generalize (2 : Int) ^ (E - 1) = M at *
    generalize (2 ^ E - 1) * 2 ^ F = r at *
    clear H1 H2 H3 C4 hpF hpE
    have hbig' : M - 1 < e + (lg + 1) - 1 := by omega
    go_enter Tryd.func39, Tryd.ntmps39
    go_wp2_with fail
    refine (C1.out _).mono ?_
    rintro e w1 ⟨rfl, hb1⟩
    have hc1 := hb1.cell (p := ⟨w.heap.size, 0, none⟩) (v := .int .i64 E) (by first | (simp; done) | (simp; omega) | omega) (by first | assumption | (simp [go_sem]; done) | (simp [*, go_sem]; done))
    have hc2 := hb1.cell (p := ⟨w.heap.size, 1, none⟩) (v := .int .i64 F) (by first | (simp; done) | (simp; omega) | omega) (by first | assumption | (simp [go_sem]; done) | (simp [*, go_sem]; done))
    have zhb1 := hb1.size
    try simp at zhb1
    go_wp2_with fail
    refine (C2.out _).mono ?_
    rintro e w2 ⟨rfl, hb2⟩
    have hc3 := hb2.cell (p := ⟨w.heap.size, 0, none⟩) (v := .int .i64 E) (by first | (simp; done) | (simp; omega) | omega) (by first | assumption | (simp [go_sem]; done) | (simp [*, go_sem]; done))
    have hc4 := hb2.cell (p := ⟨w.heap.size, 1, none⟩) (v := .int .i64 F) (by first | (simp; done) | (simp; omega) | omega) (by first | assumption | (simp [go_sem]; done) | (simp [*, go_sem]; done))
    have zhb2 := hb2.size
    try simp at zhb2
    go_wp2_with fail
    refine (C3.out _).mono ?_
    rintro e w3 ⟨rfl, hb3⟩
    have zhb3 := hb3.size
    try simp at zhb3
    go_wp2
    go_ret
    exact ⟨rfl, (by repeat' (first | exact G.refl _ | assumption | refine G.alloc ?_ _ | refine G.drew ?_ | refine G.drewN ?_ _ | (refine G.trans ?_ (by assumption))))⟩
  · rw [if_neg hbig]
    generalize hMM : (2 : Int) ^ (E - 1) = M at *
    generalize hpl : max (e + (lg : Int)) (2 - M) = place at *
    have hn : (e - (place - F)) + lg ≤ F := by omega
    have hs := H2.out _ hn
    have hS : Hid _ := fun w => C4.out (e - (place - F)) w (fun h0 => ⟨(H1.out _ hn h0).1, by have := (H1.out _ hn h0).2; omega⟩)
    have hmul : ((place - (2 - M)).toNat * 2 ^ F : Nat) ≤ 2046 * 2 ^ 52 := by
      have : 2 ^ F ≤ 2 ^ 52 := pow_le hF2
      exact Nat.mul_le_mul (by omega) this
    have hmi : (place - (2 - M)) * 2 ^ F = (((place - (2 - M)).toNat * 2 ^ F : Nat) : Int) := by
      rw [Int.natCast_mul, ← FT.ipow]
      congr 1
      omega
    have H5 : Hid _ := hmi
    clear hmi
    generalize (place - (2 - M)).toNat * 2 ^ F = hi at *
    generalize shV mag (e - (place - F)) = lo at *
    clear H1 H2 H3 C4 hMM
    have t1 : ¬ M - 1 < e + (lg + 1) - 1 := by omega
    have P : Hid (max (e + ((lg : Int) + 1) - 1) (1 - (M - 1)) = place) := by show max (e + ((lg : Int) + 1) - 1) (1 - (M - 1)) = place; omega
    have b1 : 0 ≤ place - (2 - M) := by omega
    have b2 : place - (2 - M) ≤ 2046 := by omega
    clear hpl hbig
    go_enter Tryd.func39, Tryd.ntmps39
    go_wp2_with fail
    refine (C1.out _).mono ?_
    rintro e w1 ⟨rfl, hb1⟩
    have hc5 := hb1.cell (p := ⟨w.heap.size, 0, none⟩) (v := .int .i64 E) (by first | (simp; done) | (simp; omega) | omega) (by first | assumption | (simp [go_sem]; done) | (simp [*, go_sem]; done))
    have hc6 := hb1.cell (p := ⟨w.heap.size, 1, none⟩) (v := .int .i64 F) (by first | (simp; done) | (simp; omega) | omega) (by first | assumption | (simp [go_sem]; done) | (simp [*, go_sem]; done))
    have zhb1 := hb1.size
    try simp at zhb1
    go_wp2_with fail
    refine (C2.out _).mono ?_
    rintro e w2 ⟨rfl, hb2⟩
    have hc7 := hb2.cell (p := ⟨w.heap.size, 0, none⟩) (v := .int .i64 E) (by first | (simp; done) | (simp; omega) | omega) (by first | assumption | (simp [go_sem]; done) | (simp [*, go_sem]; done))
    have hc8 := hb2.cell (p := ⟨w.heap.size, 1, none⟩) (v := .int .i64 F) (by first | (simp; done) | (simp; omega) | omega) (by first | assumption | (simp [go_sem]; done) | (simp [*, go_sem]; done))
    have zhb2 := hb2.size
    try simp at zhb2
    go_wp2_with fail
    refine (C2.out _).mono ?_
    rintro e w3 ⟨rfl, hb3⟩
    have hc9 := hb3.cell (p := ⟨w.heap.size, 0, none⟩) (v := .int .i64 E) (by first | (simp; done) | (simp; omega) | omega) (by first | assumption | (simp [go_sem]; done) | (simp [*, go_sem]; done))
    have hc10 := hb3.cell (p := ⟨w.heap.size, 1, none⟩) (v := .int .i64 F) (by first | (simp; done) | (simp; omega) | omega) (by first | assumption | (simp [go_sem]; done) | (simp [*, go_sem]; done))
    have zhb3 := hb3.size
    try simp at zhb3
    go_wp2_with fail
    rw [P.out]
    refine (hS.out _).mono ?_
    rintro e w4 ⟨rfl, hb4⟩
    have hc11 := hb4.cell (p := ⟨w.heap.size, 0, none⟩) (v := .int .i64 E) (by first | (simp; done) | (simp; omega) | omega) (by first | assumption | (simp [go_sem]; done) | (simp [*, go_sem]; done))
    have hc12 := hb4.cell (p := ⟨w.heap.size, 1, none⟩) (v := .int .i64 F) (by first | (simp; done) | (simp; omega) | omega) (by first | assumption | (simp [go_sem]; done) | (simp [*, go_sem]; done))
    have zhb4 := hb4.size
    try simp at zhb4
    go_wp2
    go_ret
    exact ⟨ret_int (by rw [show place - (1 - (M - 1)) = place - (2 - M) from by omega, H5.out, IntWalk.u64_in (hi : Int) (by omega), IntWalk.u64_in _ (by omega)]; omega), (by repeat' (first | exact G.refl _ | assumption | refine G.alloc ?_ _ | refine G.drew ?_ | refine G.drewN ?_ _ | (refine G.trans ?_ (by assumption))))⟩

theorem shV_le2 (mag F : Nat) (n : Int) (h : n + mag.log2 ≤ F) : shV mag n ≤ 2 ^ (F + 1) := by
  have hpow := Nat.lt_log2_self (n := mag)
  have h1 : 1 ≤ 2 ^ (F + 1) := Nat.two_pow_pos _
  unfold shV
  split
  · rename_i hn
    have hp := Nat.two_pow_pos n.toNat
    have : mag * 2 ^ n.toNat < 2 ^ (mag.log2 + 1) * 2 ^ n.toNat := Nat.mul_lt_mul_of_pos_right hpow hp
    have e : 2 ^ (mag.log2 + 1) * 2 ^ n.toNat = 2 ^ (mag.log2 + 1 + n.toNat) := by rw [← Nat.pow_add]
    have l : 2 ^ (mag.log2 + 1 + n.toNat) ≤ 2 ^ (F + 1) := pow_le (by omega)
    omega
  · split
    · omega
    · generalize hd : (-n).toNat = d
      have hp := Nat.two_pow_pos d
      have hq : mag / 2 ^ d < 2 ^ (F + 1) := by
        rw [Nat.div_lt_iff_lt_mul hp, ← Nat.pow_add]
        have l : 2 ^ (mag.log2 + 1) ≤ 2 ^ (F + 1 + d) := pow_le (by omega)
        omega
      unfold rnd
      split <;> omega

set_option maxRecDepth 100000 in
theorem nearV_le (mag : Nat) (e : Int) : nearV 11 52 mag e ≤ 2047 * 2 ^ 52 := by
  unfold nearV
  split
  · omega
  · split
    · omega
    · rename_i h1
      simp only [show (2 : Int) ^ (11 - 1) = 1024 from rfl] at h1 ⊢
      generalize hp : max (e + (mag.log2 : Int)) (2 - 1024) = place
      have hs := shV_le2 mag 52 (e - (place - (52 : Nat))) (by omega)
      have hmul : (place - (2 - 1024)).toNat * 2 ^ 52 ≤ 2045 * 2 ^ 52 := Nat.mul_le_mul_right _ (by omega)
      have h3 : (2 : Nat) ^ (52 + 1) = 2 * 2 ^ 52 := rfl
      rw [h3] at hs
      have key : ∀ hi lo : Nat, hi ≤ 2045 * 2 ^ 52 → lo ≤ 2 * 2 ^ 52 → hi + lo ≤ 2047 * 2 ^ 52 := by intro hi lo a b; omega
      exact key _ _ hmul hs

theorem signedW_lt (s : Bool) (r : Nat) (h : r ≤ 2047 * 2 ^ 52) : (if s then r + 2 ^ 63 else r) < 2 ^ 64 := by
  split <;> omega

def clamp (e : Int) : Int := max (-5000) (min 5000 e)

set_option maxRecDepth 100000 in
theorem make_c (m e : Int) (w : World) (hm1 : -9223372036854775808 ≤ m) (hm2 : m ≤ 9223372036854775807) (he1 : -9223372036854775808 ≤ e) (he2 : e ≤ 9223372036854775807) :
    Calls Tryd.prog 17 #[.int .i64 m, .int .i64 e] w fun r w' =>
      r = .returned (.float .f64 (if m < 0 then nearV 11 52 m.natAbs (clamp e) + 2 ^ 63 else nearV 11 52 m.natAbs (clamp e))) ∧ G w w' := by
  have hlt := nearV_le m.natAbs (clamp e)
  have hcl : min (max e (-5000)) 5000 = clamp e := by unfold clamp; omega
  have hc1 : -5000 ≤ clamp e ∧ clamp e ≤ 5000 := by unfold clamp; omega
  have N : Hid _ := fun w => nearest_c m.natAbs 11 52 (clamp e) w (by omega) (by omega) (by omega) (by omega) (by omega) (by omega) (by omega)
  have S : Hid _ := fun s w => signed_c s (nearV 11 52 m.natAbs (clamp e)) w (by omega)
  generalize nearV 11 52 m.natAbs (clamp e) = r at *
  have C : Hid _ := hcl
  clear hcl
  generalize clamp e = c at *
  by_cases hn : m < 0
  · rw [if_pos hn]
    have hab : ((m.natAbs : Nat) : Int) = -m := by omega
    rw [hab] at N
    have hw1 : IntKind.u64.wrap m = m + 18446744073709551616 := by rw [IntKind.wrap_u64]; omega
    have hw2 : IntKind.u64.wrap (-(m + 18446744073709551616)) = -m := by rw [IntKind.wrap_u64]; omega
    have S2 := S.out true
    have S3 : Hid _ := S2
    clear S S2 hab
    go_enter Tryd.func17, Tryd.ntmps17
    go_wp2_with fail
    refine (double_c _).mono ?_
    rintro e w1 ⟨rfl, hb1⟩
    have zhb1 := hb1.size
    try simp at zhb1
    go_wp2_with fail
    rw [C.out]
    refine (N.out _).mono ?_
    rintro e w2 ⟨rfl, hb2⟩
    have zhb2 := hb2.size
    try simp at zhb2
    go_wp2_with fail
    refine (S3.out _).mono ?_
    rintro e w3 ⟨rfl, hb3⟩
    have zhb3 := hb3.size
    try simp at zhb3
    go_wp2
    go_ret
    exact ⟨by simp, (by repeat' (first | exact G.refl _ | assumption | refine G.alloc ?_ _ | refine G.drew ?_ | refine G.drewN ?_ _ | (refine G.trans ?_ (by assumption))))⟩
  · rw [if_neg hn]
    have hab : ((m.natAbs : Nat) : Int) = m := by omega
    rw [hab] at N
    have hn' : 0 ≤ m := by omega
    have S2 := S.out false
    have S3 : Hid _ := S2
    clear S S2 hab
    go_enter Tryd.func17, Tryd.ntmps17
    go_wp2_with fail
    refine (double_c _).mono ?_
    rintro e w1 ⟨rfl, hb1⟩
    have zhb1 := hb1.size
    try simp at zhb1
    go_wp2_with fail
    rw [C.out]
    refine (N.out _).mono ?_
    rintro e w2 ⟨rfl, hb2⟩
    have zhb2 := hb2.size
    try simp at zhb2
    go_wp2_with fail
    refine (S3.out _).mono ?_
    rintro e w3 ⟨rfl, hb3⟩
    have zhb3 := hb3.size
    try simp at zhb3
    go_wp2
    go_ret
    exact ⟨by simp, (by repeat' (first | exact G.refl _ | assumption | refine G.alloc ?_ _ | refine G.drew ?_ | refine G.drewN ?_ _ | (refine G.trans ?_ (by assumption))))⟩

end Go.Proofs.YthbjdmadbakchaaDoor
