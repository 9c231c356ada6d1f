/- What is proved here: the float nearest to a ratio, its arithmetic (no program).
What is proved here: contracts of the reference's ratios: Float64, over this seat's translation.
What is proved here: contracts of the reference's ratios: SetFloat64, over this seat's translation. -/
import Derived.Test.YtielcpkcfpbanacGreatDoorC29
import Derived.Test.YtielcpkcfpbanacGreatDoorC25
import Derived.Test.YtielcpkcfpbanacGreatDoorC8
namespace Go.Proofs.YtielcpkcfpbanacGreatDoor
open Go.RowKit
open BN

theorem roundQ_mul (N D k : Nat) (hk : 0 < k) : roundQ (N * k) (D * k) = roundQ N D := by
  unfold roundQ
  rw [Nat.mul_div_mul_right _ _ hk, Nat.mul_mod_mul_right]
  have e1 : 2 * (N % D * k) = (2 * (N % D)) * k := by rw [Nat.mul_assoc]
  rw [e1]
  congr 1
  have h1 : D * k < 2 * (N % D) * k ↔ D < 2 * (N % D) := Nat.mul_lt_mul_right hk
  have h2 : 2 * (N % D) * k = D * k ↔ 2 * (N % D) = D := Nat.mul_left_inj (by omega)
  simp only [h1, h2]
theorem roundQ_cross {N D N' D' : Nat} (hD : 0 < D) (hD' : 0 < D') (h : N * D' = N' * D) : roundQ N D = roundQ N' D' := by
  rw [← roundQ_mul N D D' hD', h, ← roundQ_mul N' D' D hD, Nat.mul_comm D' D]
theorem roundQ_one (x : Nat) : roundQ x 1 = x := by
  unfold roundQ
  rw [Nat.div_one, Nat.mod_one, if_neg (by omega)]; rfl
theorem rnd_roundQ (mag d : Nat) (hd : 1 ≤ d) : rnd mag d = roundQ mag (2 ^ d) := by
  unfold rnd roundQ
  have e : 2 ^ d = 2 * 2 ^ (d - 1) := by
    obtain ⟨k, rfl⟩ : ∃ k, d = k + 1 := ⟨d - 1, by omega⟩
    simp [Nat.pow_succ, Nat.mul_comm]
  congr 1
  generalize mag % 2 ^ d = r
  generalize mag / 2 ^ d = q
  rw [e]
  generalize 2 ^ (d - 1) = h
  by_cases c1 : h < r
  · rw [if_pos (Or.inl c1), if_pos (Or.inl (by omega))]
  · by_cases c2 : r = h ∧ q % 2 = 1
    · rw [if_pos (Or.inr c2), if_pos (Or.inr ⟨by omega, c2.2⟩)]
    · rw [if_neg (by rintro (h | h); exact c1 h; exact c2 h), if_neg (by rintro (h | h); omega; exact c2 ⟨by omega, h.2⟩)]
theorem shV_round (mag : Nat) (n : Int) (hm : mag < 2 ^ 64) : shV mag n = roundQ (mag * 2 ^ n.toNat) (2 ^ (-n).toNat) := by
  unfold shV
  by_cases hn : 0 ≤ n
  · rw [if_pos hn, show (-n).toNat = 0 from by omega, Nat.pow_zero, roundQ_one]
  · rw [if_neg hn, show n.toNat = 0 from by omega, Nat.pow_zero, Nat.mul_one]
    by_cases h2 : n < -64
    · rw [if_pos h2]
      have h3 : 2 ^ 65 ≤ 2 ^ (-n).toNat := pow_le (by omega)
      generalize 2 ^ (-n).toNat = D at *
      unfold roundQ
      rw [Nat.div_eq_of_lt (by omega), Nat.mod_eq_of_lt (by omega), if_neg (by omega)]
    · rw [if_neg h2]
      exact rnd_roundQ _ _ (by omega)

/-- The power of two at or below A / B. -/
def expo (A B : Nat) : Int := if B * 2 ^ ((blen A : Int) - blen B).toNat ≤ A * 2 ^ (-((blen A : Int) - blen B)).toNat then (blen A : Int) - blen B else (blen A : Int) - blen B - 1
def lastP (A B : Nat) : Int := max (expo A B - 52) (-1074)
/-- The float nearest to A / B (its place among the floats from 0 on). -/
def flV (A B : Nat) : Nat := min ((lastP A B + 1074).toNat * 2 ^ 52 + nearQ A B (lastP A B)) (2047 * 2 ^ 52)

/-- Powers below 0 away: K is great enough. -/
theorem shift_up {X Y : Nat} {p : Int} (K : Nat) (h : -(K : Int) ≤ p) : ∃ c, X * 2 ^ K = X * 2 ^ (-p).toNat * 2 ^ c ∧ Y * 2 ^ ((K : Int) + p).toNat = Y * 2 ^ p.toNat * 2 ^ c := by
  refine ⟨K - (-p).toNat, ?_, ?_⟩
  · rw [Nat.mul_assoc, ← Nat.pow_add, show (-p).toNat + (K - (-p).toNat) = K from by omega]
  · rw [Nat.mul_assoc, ← Nat.pow_add, show p.toNat + (K - (-p).toNat) = ((K : Int) + p).toNat from by omega]
theorem shift_le {X Y : Nat} {p : Int} (K : Nat) (h : -(K : Int) ≤ p) : Y * 2 ^ p.toNat ≤ X * 2 ^ (-p).toNat ↔ Y * 2 ^ ((K : Int) + p).toNat ≤ X * 2 ^ K := by
  obtain ⟨c, h1, h2⟩ := shift_up (X := X) (Y := Y) K h
  rw [h1, h2]
  exact (Nat.mul_le_mul_right_iff (Nat.two_pow_pos c)).symm
theorem shift_lt {X Y : Nat} {p : Int} (K : Nat) (h : -(K : Int) ≤ p) : X * 2 ^ (-p).toNat < Y * 2 ^ p.toNat ↔ X * 2 ^ K < Y * 2 ^ ((K : Int) + p).toNat := by
  obtain ⟨c, h1, h2⟩ := shift_up (X := X) (Y := Y) K h
  rw [h1, h2]
  exact (Nat.mul_lt_mul_right (Nat.two_pow_pos c)).symm
theorem shift_eq {X Y : Nat} {p : Int} (K : Nat) (h : -(K : Int) ≤ p) : X * 2 ^ (-p).toNat = Y * 2 ^ p.toNat ↔ X * 2 ^ K = Y * 2 ^ ((K : Int) + p).toNat := by
  obtain ⟨c, h1, h2⟩ := shift_up (X := X) (Y := Y) K h
  rw [h1, h2]
  exact (Nat.mul_left_inj (Nat.ne_of_gt (Nat.two_pow_pos c))).symm

/-- 2 ^ expo is at or below, ... -/
theorem expo_le {A B : Nat} (hA : A ≠ 0) (hB : B ≠ 0) (K : Nat) (hK : -(K : Int) ≤ expo A B) : B * 2 ^ ((K : Int) + expo A B).toNat ≤ A * 2 ^ K := by
  rw [← shift_le K hK]
  unfold expo
  split
  · assumption
  · obtain ⟨a1, a2, a3⟩ := blen_lo hA
    obtain ⟨b1, b2, b3⟩ := blen_lo hB
    generalize hd : (blen A : Int) - blen B - 1 = d
    calc B * 2 ^ d.toNat ≤ 2 ^ blen B * 2 ^ d.toNat := Nat.mul_le_mul_right _ (by omega)
      _ = 2 ^ (blen B + d.toNat) := by rw [Nat.pow_add]
      _ ≤ 2 ^ (blen A - 1 + (-d).toNat) := Nat.pow_le_pow_right (by omega) (by omega)
      _ = 2 ^ (blen A - 1) * 2 ^ (-d).toNat := by rw [Nat.pow_add]
      _ ≤ A * 2 ^ (-d).toNat := Nat.mul_le_mul_right _ a2
/-- ... and 2 ^ (expo + 1) above. -/
theorem expo_lt {A B : Nat} (hA : A ≠ 0) (hB : B ≠ 0) (K : Nat) (hK : -(K : Int) ≤ expo A B) : A * 2 ^ K < B * 2 ^ ((K : Int) + (expo A B + 1)).toNat := by
  rw [← shift_lt K (by omega)]
  unfold expo
  split
  · obtain ⟨a1, a2, a3⟩ := blen_lo hA
    obtain ⟨b1, b2, b3⟩ := blen_lo hB
    generalize hd : (blen A : Int) - blen B + 1 = d
    calc A * 2 ^ (-d).toNat < 2 ^ blen A * 2 ^ (-d).toNat := Nat.mul_lt_mul_of_pos_right a3 (Nat.two_pow_pos _)
      _ = 2 ^ (blen A + (-d).toNat) := by rw [Nat.pow_add]
      _ ≤ 2 ^ (blen B - 1 + d.toNat) := Nat.pow_le_pow_right (by omega) (by omega)
      _ = 2 ^ (blen B - 1) * 2 ^ d.toNat := by rw [Nat.pow_add]
      _ ≤ B * 2 ^ d.toNat := Nat.mul_le_mul_right _ b2
  · rename_i h
    rw [show (blen A : Int) - blen B - 1 + 1 = (blen A : Int) - blen B from by omega]
    exact Nat.lt_of_not_le h

theorem pow_lt_of {a b : Nat} (h : 2 ^ a < 2 ^ b) : a < b := (Nat.pow_lt_pow_iff_right (by omega : 1 < 2)).1 h
theorem expo_of {A B mag : Nat} {e : Int} (hA : A ≠ 0) (hB : B ≠ 0) (h0 : mag ≠ 0) (h : A * 2 ^ (-e).toNat = mag * B * 2 ^ e.toNat) : expo A B = e + mag.log2 := by
  have l1 := Nat.log2_self_le h0
  have l2 := Nat.lt_log2_self (n := mag)
  obtain ⟨K, hK⟩ : ∃ K : Nat, K = e.natAbs + (expo A B).natAbs + 1 := ⟨_, rfl⟩
  have hE := (shift_eq K (by omega)).1 h
  have h1 := expo_le hA hB K (by omega)
  have h2 := expo_lt hA hB K (by omega)
  rw [hE] at h1 h2
  generalize expo A B = L at *
  have hB' : 0 < B := by omega
  have g1 : B * 2 ^ ((K : Int) + L).toNat < B * 2 ^ (mag.log2 + 1 + ((K : Int) + e).toNat) := by
    refine Nat.lt_of_le_of_lt h1 ?_
    rw [Nat.mul_comm mag B, Nat.mul_assoc, Nat.pow_add]
    exact Nat.mul_lt_mul_of_pos_left (Nat.mul_lt_mul_of_pos_right l2 (Nat.two_pow_pos _)) hB'
  have g2 : B * 2 ^ (mag.log2 + ((K : Int) + e).toNat) < B * 2 ^ ((K : Int) + (L + 1)).toNat := by
    refine Nat.lt_of_le_of_lt ?_ h2
    rw [Nat.mul_comm mag B, Nat.mul_assoc, Nat.pow_add]
    exact Nat.mul_le_mul_left _ (Nat.mul_le_mul_right _ l1)
  have q1 := pow_lt_of (Nat.lt_of_mul_lt_mul_left g1)
  have q2 := pow_lt_of (Nat.lt_of_mul_lt_mul_left g2)
  omega

/-- A / B in units of 2^p is mag * 2^e in units of 2^p. -/
theorem nearQ_of {A B mag : Nat} {e : Int} (p : Int) (hB : B ≠ 0) (h : A * 2 ^ (-e).toNat = mag * B * 2 ^ e.toNat) : nearQ A B p = roundQ (mag * 2 ^ (e - p).toNat) (2 ^ (-(e - p)).toNat) := by
  unfold nearQ upP loP
  refine roundQ_cross (Nat.mul_pos (by omega) (Nat.two_pow_pos _)) (Nat.two_pow_pos _) ?_
  obtain ⟨K, hK⟩ : ∃ K : Nat, K = (-p).toNat + (-(e - p)).toNat + (-e).toNat := ⟨_, rfl⟩
  have hE := (shift_eq K (by omega)).1 h
  have e1 : A * 2 ^ (-p).toNat * 2 ^ (-(e - p)).toNat * 2 ^ (-e).toNat = A * 2 ^ K := by
    rw [Nat.mul_assoc, Nat.mul_assoc, ← Nat.pow_add, ← Nat.pow_add]; congr 2; omega
  have e2 : mag * 2 ^ (e - p).toNat * (B * 2 ^ p.toNat) * 2 ^ (-e).toNat = mag * B * 2 ^ ((K : Int) + e).toNat := by
    rw [show mag * 2 ^ (e - p).toNat * (B * 2 ^ p.toNat) = mag * B * (2 ^ (e - p).toNat * 2 ^ p.toNat) from by ac_rfl, ← Nat.pow_add, Nat.mul_assoc, ← Nat.pow_add]
    congr 2; omega
  exact Nat.eq_of_mul_eq_mul_right (Nat.two_pow_pos (-e).toNat) (by rw [e1, e2, hE])

/-- What 'nearest' of package bits gives is the float nearest to a ratio that is mag * 2^e. -/
theorem fl_near {A B mag : Nat} {e : Int} (hA : A ≠ 0) (hB : B ≠ 0) (h0 : mag ≠ 0) (hm : mag < 2 ^ 64) (h : A * 2 ^ (-e).toNat = mag * B * 2 ^ e.toNat) : nearV 11 52 mag e = flV A B := by
  have hL := expo_of hA hB h0 h
  have hle := nearV_le mag e
  unfold flV
  have hQ := nearQ_of (lastP A B) hB h
  rw [← shV_round mag _ hm] at hQ
  rw [hQ]
  unfold lastP
  rw [hL]
  have hs := nearV_ieee false mag e h0 hm
  unfold Ieee.Format.nearest at hs
  rw [if_neg h0, FT.leastPlace_eq, FT.infRung_eq, FT.binade_eq, FT.word_eq] at hs
  have hl : (max (e + (mag.log2 : Int) - (52 : Nat)) (-1074)) = max (e + (mag.log2 : Int) - 52) (-1074) := rfl
  have hs2 : FT.wrd false (min ((max (e + (mag.log2 : Int) - (52 : Nat)) (-1074) - -1074).toNat * 2 ^ 52 + Ieee.Toward.even.cut false (mag <<< (e - max (e + (mag.log2 : Int) - (52 : Nat)) (-1074)).toNat) (max (e + (mag.log2 : Int) - (52 : Nat)) (-1074) - e).toNat) (2047 * 2 ^ 52)) = FT.wrd false (nearV 11 52 mag e) := hs
  rw [hl] at hs2
  generalize max (e + (mag.log2 : Int) - 52) (-1074) = last at *
  have hc := shV_cut false mag (e - last) h0 hm
  rw [show (-(e - last)).toNat = (last - e).toNat from by omega] at hc
  rw [← hc, show (last - -1074).toNat = (last + 1074).toNat from by omega] at hs2
  have hw : ∀ x : Nat, FT.wrd false x = x := fun x => rfl
  rw [hw, hw] at hs2
  exact hs2.symm

theorem nearV_at {v : Nat} {P : Int} (hv : v < 2 ^ 53) (hP : -1074 ≤ P) (h : P = -1074 ∨ 2 ^ 52 ≤ v) : nearV 11 52 v P = min ((P + 1074).toNat * 2 ^ 52 + v) (2047 * 2 ^ 52) := by
  unfold nearV
  by_cases h0 : v = 0
  · subst h0
    have : P = -1074 := by omega
    subst this
    rfl
  rw [if_neg h0]
  have h2 : (2 : Int) ^ (11 - 1) = 1024 := rfl
  rw [h2]
  have hs0 : shV v 0 = v := by unfold shV; simp
  have l1 := Nat.log2_self_le h0
  have l2 := Nat.lt_log2_self (n := v)
  by_cases hv2 : 2 ^ 52 ≤ v
  · have hlg : v.log2 = 52 := by
      have a : v.log2 < 53 := (Nat.log2_lt h0).2 hv
      have b : ¬ v.log2 < 52 := by rw [Nat.log2_lt h0]; omega
      omega
    rw [hlg]
    by_cases hbig : (1024 : Int) - 1 < P + (52 : Nat)
    · rw [if_pos hbig]
      have : 2046 * 2 ^ 52 ≤ (P + 1074).toNat * 2 ^ 52 := Nat.mul_le_mul_right _ (by omega)
      omega
    · rw [if_neg hbig]
      have hp : max (P + ((52 : Nat) : Int)) (2 - 1024) = P + 52 := by omega
      rw [hp, show P - (P + 52 - (52 : Nat)) = 0 from by omega, hs0, show (P + 52 - (2 - 1024)).toNat = (P + 1074).toNat from by omega]
      have : (P + 1074).toNat * 2 ^ 52 ≤ 2045 * 2 ^ 52 := Nat.mul_le_mul_right _ (by omega)
      omega
  · have hP2 : P = -1074 := by omega
    subst hP2
    have hlg : v.log2 < 52 := (Nat.log2_lt h0).2 (by omega)
    rw [if_neg (by omega)]
    have hp : max (-1074 + (v.log2 : Int)) (2 - 1024) = -1022 := by omega
    rw [hp]
    show 0 * 2 ^ 52 + shV v 0 = min (0 * 2 ^ 52 + v) _
    rw [hs0]
    omega

end Go.Proofs.YtielcpkcfpbanacGreatDoor
namespace Go.Proofs.YtielcpkcfpbanacGreatDoor
open Go.ChangeShapes Go.WideShapes Go.ChangeAt Go.RowKit
open BN
attribute [local go_sem] frombits_r tobits_r unary_negf

end Go.Proofs.YtielcpkcfpbanacGreatDoor
namespace Go.Proofs.YtielcpkcfpbanacGreatDoor
open Go.ChangeShapes Go.WideShapes Go.ChangeAt Go.RowKit
open BN
attribute [local go_sem] frombits_r tobits_r unary_negf


/-- The upper and the lower part of a float, ahead of lowest terms. -/
def frS (s : Bool) (mag : Nat) : Int := if s then -(mag : Int) else mag
def frN (s : Bool) (mag ex : Nat) : Int := frS s mag * 2 ^ (max ex 1 - 1075)
def frD (ex : Nat) : Nat := 2 ^ (1075 - max ex 1)
theorem frD_pos (ex : Nat) : 0 < frD ex := Nat.two_pow_pos _
theorem frN_abs (s : Bool) (mag ex : Nat) : (frN s mag ex).natAbs = mag * 2 ^ (max ex 1 - 1075) := by
  unfold frN frS
  rw [FT.ipow, Int.natAbs_mul, Int.natAbs_natCast]
  congr 1
  split <;> omega
end Go.Proofs.YtielcpkcfpbanacGreatDoor
