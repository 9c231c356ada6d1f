/- What is proved here: the float nearest to a ratio, its arithmetic (no program).
What is proved here: IEEE's nearest word of any number by any power of two is the float nearest to a ratio that it is (no program).
What is proved here: contracts of the reference's ratios: Float64, over this seat's translation.
What is proved here: contracts of the reference: Round to the nearest float, over this seat's translation.
What is proved here: contracts of the reference's ratios: SetFloat64, over this seat's translation.
What is proved here: sums and products of IEEE's data are those of their ratios, and what is written of them is the float nearest to the ratio (no program).
What is proved here: IEEE's sum, product and fused product of finite words, as the float nearest to the ratio (no program).
What is proved here: the float nearest to a ratio, as a number of 53 digits in units of the lowest place (no program).
What is proved here: IEEE's quotient and root, told by their digits (no program).
What is proved here: IEEE's sum, difference, product and fused product of finite words, in units of the lowest place (no program).
What is proved here: what float sums, products, quotients and roots lack is a float, and is told by the fused product or by two differences (no program).
What is proved here: contracts of package eft: the fused product, and float operations that have no answer, over this seat's translation. -/
import Derived.Test.YtkelfdhpekkiaacDoorC21
import Derived.Test.YtkelfdhpekkiaacDoorC17
import Derived.Test.YtkelfdhpekkiaacDoorC11
import Derived.Test.YtkelfdhpekkiaacDoorC9
import Derived.Test.YtkelfdhpekkiaacDoorC2
import Derived.Test.YtkelfdhpekkiaacDoorC12
namespace Go.Proofs.YtkelfdhpekkiaacDoor
open Go.RowKit
open BN

theorem roundQ_mul (N D k : Nat) (hk : 0 < k) : roundQ (N * k) (D * k) = roundQ N D := by
  unfold roundQ
  rw [Nat.mul_div_mul_right _ _ hk, Nat.mul_mod_mul_right]
  have e1 : 2 * (N % D * k) = (2 * (N % D)) * k := by rw [Nat.mul_assoc]
  rw [e1]
  congr 1
  have h1 : D * k < 2 * (N % D) * k ↔ D < 2 * (N % D) := Nat.mul_lt_mul_right hk
  have h2 : 2 * (N % D) * k = D * k ↔ 2 * (N % D) = D := Nat.mul_left_inj (by omega)
  simp only [h1, h2]
theorem roundQ_cross {N D N' D' : Nat} (hD : 0 < D) (hD' : 0 < D') (h : N * D' = N' * D) : roundQ N D = roundQ N' D' := by
  rw [← roundQ_mul N D D' hD', h, ← roundQ_mul N' D' D hD, Nat.mul_comm D' D]
theorem roundQ_ge {N D T : Nat} (hD : 0 < D) (h : T * D ≤ N) : T ≤ roundQ N D := by
  have : T ≤ N / D := (Nat.le_div_iff_mul_le hD).2 h
  unfold roundQ; omega
theorem roundQ_one (x : Nat) : roundQ x 1 = x := by
  unfold roundQ
  rw [Nat.div_one, Nat.mod_one, if_neg (by omega)]; rfl
theorem rnd_roundQ (mag d : Nat) (hd : 1 ≤ d) : rnd mag d = roundQ mag (2 ^ d) := by
  unfold rnd roundQ
  have e : 2 ^ d = 2 * 2 ^ (d - 1) := by
    obtain ⟨k, rfl⟩ : ∃ k, d = k + 1 := ⟨d - 1, by omega⟩
    simp [Nat.pow_succ, Nat.mul_comm]
  congr 1
  generalize mag % 2 ^ d = r
  generalize mag / 2 ^ d = q
  rw [e]
  generalize 2 ^ (d - 1) = h
  by_cases c1 : h < r
  · rw [if_pos (Or.inl c1), if_pos (Or.inl (by omega))]
  · by_cases c2 : r = h ∧ q % 2 = 1
    · rw [if_pos (Or.inr c2), if_pos (Or.inr ⟨by omega, c2.2⟩)]
    · rw [if_neg (by rintro (h | h); exact c1 h; exact c2 h), if_neg (by rintro (h | h); omega; exact c2 ⟨by omega, h.2⟩)]
theorem shV_round (mag : Nat) (n : Int) (hm : mag < 2 ^ 64) : shV mag n = roundQ (mag * 2 ^ n.toNat) (2 ^ (-n).toNat) := by
  unfold shV
  by_cases hn : 0 ≤ n
  · rw [if_pos hn, show (-n).toNat = 0 from by omega, Nat.pow_zero, roundQ_one]
  · rw [if_neg hn, show n.toNat = 0 from by omega, Nat.pow_zero, Nat.mul_one]
    by_cases h2 : n < -64
    · rw [if_pos h2]
      have h3 : 2 ^ 65 ≤ 2 ^ (-n).toNat := pow_le (by omega)
      generalize 2 ^ (-n).toNat = D at *
      unfold roundQ
      rw [Nat.div_eq_of_lt (by omega), Nat.mod_eq_of_lt (by omega), if_neg (by omega)]
    · rw [if_neg h2]
      exact rnd_roundQ _ _ (by omega)

/-- The power of two at or below A / B. -/
def expo (A B : Nat) : Int := if B * 2 ^ ((blen A : Int) - blen B).toNat ≤ A * 2 ^ (-((blen A : Int) - blen B)).toNat then (blen A : Int) - blen B else (blen A : Int) - blen B - 1
def lastP (A B : Nat) : Int := max (expo A B - 52) (-1074)
/-- The float nearest to A / B (its place among the floats from 0 on). -/
def flV (A B : Nat) : Nat := min ((lastP A B + 1074).toNat * 2 ^ 52 + nearQ A B (lastP A B)) (2047 * 2 ^ 52)

/-- Powers below 0 away: K is great enough. -/
theorem shift_up {X Y : Nat} {p : Int} (K : Nat) (h : -(K : Int) ≤ p) : ∃ c, X * 2 ^ K = X * 2 ^ (-p).toNat * 2 ^ c ∧ Y * 2 ^ ((K : Int) + p).toNat = Y * 2 ^ p.toNat * 2 ^ c := by
  refine ⟨K - (-p).toNat, ?_, ?_⟩
  · rw [Nat.mul_assoc, ← Nat.pow_add, show (-p).toNat + (K - (-p).toNat) = K from by omega]
  · rw [Nat.mul_assoc, ← Nat.pow_add, show p.toNat + (K - (-p).toNat) = ((K : Int) + p).toNat from by omega]
theorem shift_le {X Y : Nat} {p : Int} (K : Nat) (h : -(K : Int) ≤ p) : Y * 2 ^ p.toNat ≤ X * 2 ^ (-p).toNat ↔ Y * 2 ^ ((K : Int) + p).toNat ≤ X * 2 ^ K := by
  obtain ⟨c, h1, h2⟩ := shift_up (X := X) (Y := Y) K h
  rw [h1, h2]
  exact (Nat.mul_le_mul_right_iff (Nat.two_pow_pos c)).symm
theorem shift_lt {X Y : Nat} {p : Int} (K : Nat) (h : -(K : Int) ≤ p) : X * 2 ^ (-p).toNat < Y * 2 ^ p.toNat ↔ X * 2 ^ K < Y * 2 ^ ((K : Int) + p).toNat := by
  obtain ⟨c, h1, h2⟩ := shift_up (X := X) (Y := Y) K h
  rw [h1, h2]
  exact (Nat.mul_lt_mul_right (Nat.two_pow_pos c)).symm
theorem shift_eq {X Y : Nat} {p : Int} (K : Nat) (h : -(K : Int) ≤ p) : X * 2 ^ (-p).toNat = Y * 2 ^ p.toNat ↔ X * 2 ^ K = Y * 2 ^ ((K : Int) + p).toNat := by
  obtain ⟨c, h1, h2⟩ := shift_up (X := X) (Y := Y) K h
  rw [h1, h2]
  exact (Nat.mul_left_inj (Nat.ne_of_gt (Nat.two_pow_pos c))).symm

theorem expo_or {A B : Nat} : expo A B = (blen A : Int) - blen B ∨ expo A B = (blen A : Int) - blen B - 1 := by unfold expo; split; exact Or.inl rfl; exact Or.inr rfl
/-- 2 ^ expo is at or below, ... -/
theorem expo_le {A B : Nat} (hA : A ≠ 0) (hB : B ≠ 0) (K : Nat) (hK : -(K : Int) ≤ expo A B) : B * 2 ^ ((K : Int) + expo A B).toNat ≤ A * 2 ^ K := by
  rw [← shift_le K hK]
  unfold expo
  split
  · assumption
  · obtain ⟨a1, a2, a3⟩ := blen_lo hA
    obtain ⟨b1, b2, b3⟩ := blen_lo hB
    generalize hd : (blen A : Int) - blen B - 1 = d
    calc B * 2 ^ d.toNat ≤ 2 ^ blen B * 2 ^ d.toNat := Nat.mul_le_mul_right _ (by omega)
      _ = 2 ^ (blen B + d.toNat) := by rw [Nat.pow_add]
      _ ≤ 2 ^ (blen A - 1 + (-d).toNat) := Nat.pow_le_pow_right (by omega) (by omega)
      _ = 2 ^ (blen A - 1) * 2 ^ (-d).toNat := by rw [Nat.pow_add]
      _ ≤ A * 2 ^ (-d).toNat := Nat.mul_le_mul_right _ a2
/-- ... and 2 ^ (expo + 1) above. -/
theorem expo_lt {A B : Nat} (hA : A ≠ 0) (hB : B ≠ 0) (K : Nat) (hK : -(K : Int) ≤ expo A B) : A * 2 ^ K < B * 2 ^ ((K : Int) + (expo A B + 1)).toNat := by
  rw [← shift_lt K (by omega)]
  unfold expo
  split
  · obtain ⟨a1, a2, a3⟩ := blen_lo hA
    obtain ⟨b1, b2, b3⟩ := blen_lo hB
    generalize hd : (blen A : Int) - blen B + 1 = d
    calc A * 2 ^ (-d).toNat < 2 ^ blen A * 2 ^ (-d).toNat := Nat.mul_lt_mul_of_pos_right a3 (Nat.two_pow_pos _)
      _ = 2 ^ (blen A + (-d).toNat) := by rw [Nat.pow_add]
      _ ≤ 2 ^ (blen B - 1 + d.toNat) := Nat.pow_le_pow_right (by omega) (by omega)
      _ = 2 ^ (blen B - 1) * 2 ^ d.toNat := by rw [Nat.pow_add]
      _ ≤ B * 2 ^ d.toNat := Nat.mul_le_mul_right _ b2
  · rename_i h
    rw [show (blen A : Int) - blen B - 1 + 1 = (blen A : Int) - blen B from by omega]
    exact Nat.lt_of_not_le h

theorem pow_lt_of {a b : Nat} (h : 2 ^ a < 2 ^ b) : a < b := (Nat.pow_lt_pow_iff_right (by omega : 1 < 2)).1 h
theorem expo_of {A B mag : Nat} {e : Int} (hA : A ≠ 0) (hB : B ≠ 0) (h0 : mag ≠ 0) (h : A * 2 ^ (-e).toNat = mag * B * 2 ^ e.toNat) : expo A B = e + mag.log2 := by
  have l1 := Nat.log2_self_le h0
  have l2 := Nat.lt_log2_self (n := mag)
  obtain ⟨K, hK⟩ : ∃ K : Nat, K = e.natAbs + (expo A B).natAbs + 1 := ⟨_, rfl⟩
  have hE := (shift_eq K (by omega)).1 h
  have h1 := expo_le hA hB K (by omega)
  have h2 := expo_lt hA hB K (by omega)
  rw [hE] at h1 h2
  generalize expo A B = L at *
  have hB' : 0 < B := by omega
  have g1 : B * 2 ^ ((K : Int) + L).toNat < B * 2 ^ (mag.log2 + 1 + ((K : Int) + e).toNat) := by
    refine Nat.lt_of_le_of_lt h1 ?_
    rw [Nat.mul_comm mag B, Nat.mul_assoc, Nat.pow_add]
    exact Nat.mul_lt_mul_of_pos_left (Nat.mul_lt_mul_of_pos_right l2 (Nat.two_pow_pos _)) hB'
  have g2 : B * 2 ^ (mag.log2 + ((K : Int) + e).toNat) < B * 2 ^ ((K : Int) + (L + 1)).toNat := by
    refine Nat.lt_of_le_of_lt ?_ h2
    rw [Nat.mul_comm mag B, Nat.mul_assoc, Nat.pow_add]
    exact Nat.mul_le_mul_left _ (Nat.mul_le_mul_right _ l1)
  have q1 := pow_lt_of (Nat.lt_of_mul_lt_mul_left g1)
  have q2 := pow_lt_of (Nat.lt_of_mul_lt_mul_left g2)
  omega

/-- A / B in units of 2^p is mag * 2^e in units of 2^p. -/
theorem nearQ_of {A B mag : Nat} {e : Int} (p : Int) (hB : B ≠ 0) (h : A * 2 ^ (-e).toNat = mag * B * 2 ^ e.toNat) : nearQ A B p = roundQ (mag * 2 ^ (e - p).toNat) (2 ^ (-(e - p)).toNat) := by
  unfold nearQ upP loP
  refine roundQ_cross (Nat.mul_pos (by omega) (Nat.two_pow_pos _)) (Nat.two_pow_pos _) ?_
  obtain ⟨K, hK⟩ : ∃ K : Nat, K = (-p).toNat + (-(e - p)).toNat + (-e).toNat := ⟨_, rfl⟩
  have hE := (shift_eq K (by omega)).1 h
  have e1 : A * 2 ^ (-p).toNat * 2 ^ (-(e - p)).toNat * 2 ^ (-e).toNat = A * 2 ^ K := by
    rw [Nat.mul_assoc, Nat.mul_assoc, ← Nat.pow_add, ← Nat.pow_add]; congr 2; omega
  have e2 : mag * 2 ^ (e - p).toNat * (B * 2 ^ p.toNat) * 2 ^ (-e).toNat = mag * B * 2 ^ ((K : Int) + e).toNat := by
    rw [show mag * 2 ^ (e - p).toNat * (B * 2 ^ p.toNat) = mag * B * (2 ^ (e - p).toNat * 2 ^ p.toNat) from by ac_rfl, ← Nat.pow_add, Nat.mul_assoc, ← Nat.pow_add]
    congr 2; omega
  exact Nat.eq_of_mul_eq_mul_right (Nat.two_pow_pos (-e).toNat) (by rw [e1, e2, hE])

theorem min_top (a : Nat) : min (a + 2046 * 2 ^ 52 + 2 ^ 52) (2047 * 2 ^ 52) = 2047 * 2 ^ 52 := by omega

/-- What 'nearest' of package bits gives is the float nearest to a ratio that is mag * 2^e. -/
theorem fl_near {A B mag : Nat} {e : Int} (hA : A ≠ 0) (hB : B ≠ 0) (h0 : mag ≠ 0) (hm : mag < 2 ^ 64) (h : A * 2 ^ (-e).toNat = mag * B * 2 ^ e.toNat) : nearV 11 52 mag e = flV A B := by
  have hL := expo_of hA hB h0 h
  have hle := nearV_le mag e
  unfold flV
  have hQ := nearQ_of (lastP A B) hB h
  rw [← shV_round mag _ hm] at hQ
  rw [hQ]
  unfold lastP
  rw [hL]
  have hs := nearV_ieee false mag e h0 hm
  unfold Ieee.Format.nearest at hs
  rw [if_neg h0, FT.leastPlace_eq, FT.infRung_eq, FT.binade_eq, FT.word_eq] at hs
  have hl : (max (e + (mag.log2 : Int) - (52 : Nat)) (-1074)) = max (e + (mag.log2 : Int) - 52) (-1074) := rfl
  have hs2 : FT.wrd false (min ((max (e + (mag.log2 : Int) - (52 : Nat)) (-1074) - -1074).toNat * 2 ^ 52 + Ieee.Toward.even.cut false (mag <<< (e - max (e + (mag.log2 : Int) - (52 : Nat)) (-1074)).toNat) (max (e + (mag.log2 : Int) - (52 : Nat)) (-1074) - e).toNat) (2047 * 2 ^ 52)) = FT.wrd false (nearV 11 52 mag e) := hs
  rw [hl] at hs2
  generalize max (e + (mag.log2 : Int) - 52) (-1074) = last at *
  have hc := shV_cut false mag (e - last) h0 hm
  rw [show (-(e - last)).toNat = (last - e).toNat from by omega] at hc
  rw [← hc, show (last - -1074).toNat = (last + 1074).toNat from by omega] at hs2
  have hw : ∀ x : Nat, FT.wrd false x = x := fun x => rfl
  rw [hw, hw] at hs2
  exact hs2.symm

theorem nearV_at {v : Nat} {P : Int} (hv : v < 2 ^ 53) (hP : -1074 ≤ P) (h : P = -1074 ∨ 2 ^ 52 ≤ v) : nearV 11 52 v P = min ((P + 1074).toNat * 2 ^ 52 + v) (2047 * 2 ^ 52) := by
  unfold nearV
  by_cases h0 : v = 0
  · subst h0
    have : P = -1074 := by omega
    subst this
    rfl
  rw [if_neg h0]
  have h2 : (2 : Int) ^ (11 - 1) = 1024 := rfl
  rw [h2]
  have hs0 : shV v 0 = v := by unfold shV; simp
  have l1 := Nat.log2_self_le h0
  have l2 := Nat.lt_log2_self (n := v)
  by_cases hv2 : 2 ^ 52 ≤ v
  · have hlg : v.log2 = 52 := by
      have a : v.log2 < 53 := (Nat.log2_lt h0).2 hv
      have b : ¬ v.log2 < 52 := by rw [Nat.log2_lt h0]; omega
      omega
    rw [hlg]
    by_cases hbig : (1024 : Int) - 1 < P + (52 : Nat)
    · rw [if_pos hbig]
      have : 2046 * 2 ^ 52 ≤ (P + 1074).toNat * 2 ^ 52 := Nat.mul_le_mul_right _ (by omega)
      omega
    · rw [if_neg hbig]
      have hp : max (P + ((52 : Nat) : Int)) (2 - 1024) = P + 52 := by omega
      rw [hp, show P - (P + 52 - (52 : Nat)) = 0 from by omega, hs0, show (P + 52 - (2 - 1024)).toNat = (P + 1074).toNat from by omega]
      have : (P + 1074).toNat * 2 ^ 52 ≤ 2045 * 2 ^ 52 := Nat.mul_le_mul_right _ (by omega)
      omega
  · have hP2 : P = -1074 := by omega
    subst hP2
    have hlg : v.log2 < 52 := (Nat.log2_lt h0).2 (by omega)
    rw [if_neg (by omega)]
    have hp : max (-1074 + (v.log2 : Int)) (2 - 1024) = -1022 := by omega
    rw [hp]
    show 0 * 2 ^ 52 + shV v 0 = min (0 * 2 ^ 52 + v) _
    rw [hs0]
    omega

theorem roundQ_half {N D : Nat} (hD : 0 < D) (hN : 2 ^ 53 * D ≤ N) (h : roundQ N D = 2 ^ 53) : roundQ N (2 * D) = 2 ^ 52 := by
  have hq : 2 ^ 53 ≤ N / D := (Nat.le_div_iff_mul_le hD).2 hN
  have hm := Nat.div_add_mod N D
  have hr := Nat.mod_lt N hD
  unfold roundQ at h
  have hq2 : N / D = 2 ^ 53 := by omega
  rw [hq2] at h hm
  have hle : 2 * (N % D) ≤ D := by
    by_cases c : D < 2 * (N % D)
    · rw [if_pos (Or.inl c)] at h; omega
    · omega
  generalize N % D = r at *
  have hN2 : N = r + 2 * D * 2 ^ 52 := by omega
  unfold roundQ
  rw [hN2, Nat.add_mul_div_left _ _ (by omega), Nat.add_mul_mod_self_left, Nat.div_eq_of_lt (by omega), Nat.mod_eq_of_lt (by omega), if_neg (by omega)]

theorem fin_core (a : Nat) : min ((a + 1) * 2 ^ 52 + 2 ^ 52) (2047 * 2 ^ 52) = min (a * 2 ^ 52 + 2 ^ 53) (2047 * 2 ^ 52) := by omega
theorem near_main {Q v : Nat} {last P : Int} (h1 : Q ≤ 2 ^ 53) (h2 : last = -1074 ∨ 2 ^ 52 ≤ Q) (h3 : -1074 ≤ last)
    (ho : (blen Q ≤ 53 ∧ v = Q ∧ P = last) ∨ (blen Q = 53 + 1 ∧ Q % 2 ^ 53 = 0 ∧ v = Q / 2 ∧ P = last + 1)) :
    v < 2 ^ 53 ∧ -1074 ≤ P ∧ nearV 11 52 v P = min ((last + 1074).toNat * 2 ^ 52 + Q) (2047 * 2 ^ 52) := by
  rcases ho with ⟨c1, rfl, rfl⟩ | ⟨c1, c2, c4, rfl⟩
  · have c3 : v < 2 ^ 53 := blen_le_iff.1 c1
    exact ⟨c3, h3, nearV_at c3 h3 h2⟩
  · have c3 : ¬ Q < 2 ^ 53 := by rw [← blen_le_iff]; omega
    have c5 : Q = 2 ^ 53 := by omega
    have c6 : v = 2 ^ 52 := by omega
    clear c1 c2 c3 c4 h1 h2
    have c7 : v < 2 ^ 53 := by omega
    have c8 : 2 ^ 52 ≤ v := by omega
    refine ⟨c7, by omega, ?_⟩
    rw [nearV_at c7 (by omega) (Or.inr c8), show (last + 1 + 1074).toNat = (last + 1074).toNat + 1 from by omega, c5, c6]
    exact fin_core _

/-- What 'near' of the reference gives, as a float. -/
theorem near_fl {A B v : Nat} {p P : Int} {x : Bool} (hA : A ≠ 0) (hB : B ≠ 0) (hat : NearAt A B 53 (startP A B 53 (-1074)) p) (ho : NearOut A B 53 p v P x) :
    v < 2 ^ 53 ∧ -1074 ≤ P ∧ nearV 11 52 v P = flV A B := by
  have hE := expo_or (A := A) (B := B)
  obtain ⟨K, hK⟩ : ∃ K : Nat, K = (expo A B).natAbs + 2000 := ⟨_, rfl⟩
  have hlo := expo_le hA hB K (by omega)
  have hhi := expo_lt hA hB K (by omega)
  have hS : startP A B 53 (-1074) = max ((blen A : Int) - blen B - 53) (-1074) := by unfold startP; split <;> omega
  have hl : lastP A B = max (expo A B - 52) (-1074) := rfl
  -- sizes of nearQ
  have up : ∀ q : Int, -(K : Int) ≤ q → expo A B - 52 ≤ q → nearQ A B q ≤ 2 ^ 53 := by
    intro q hq hq2
    unfold nearQ
    refine roundQ_le ?_
    unfold upP loP
    rw [← Nat.mul_assoc, shift_lt K hq]
    refine Nat.lt_of_lt_of_le hhi ?_
    rw [Nat.mul_comm (2 ^ 53) B, Nat.mul_assoc, ← Nat.pow_add]
    exact Nat.mul_le_mul_left _ (Nat.pow_le_pow_right (by omega) (by omega))
  have dn : ∀ (q : Int) (t : Nat), -(K : Int) ≤ q → q + t ≤ expo A B → 2 ^ t * loP B q ≤ upP A q := by
    intro q t hq hq2
    unfold upP loP
    rw [← Nat.mul_assoc, shift_le K hq]
    refine Nat.le_trans ?_ hlo
    rw [Nat.mul_comm (2 ^ t) B, Nat.mul_assoc, ← Nat.pow_add]
    exact Nat.mul_le_mul_left _ (Nat.pow_le_pow_right (by omega) (by omega))
  have hlast : -(K : Int) ≤ lastP A B := by omega
  have main : ∀ (v : Nat) (P : Int), NearOut A B 53 (lastP A B) v P x → v < 2 ^ 53 ∧ -1074 ≤ P ∧ nearV 11 52 v P = flV A B := by
    intro v P ho
    have h1 := up (lastP A B) hlast (by omega)
    have h2 : lastP A B = -1074 ∨ 2 ^ 52 ≤ nearQ A B (lastP A B) := by
      by_cases hc : lastP A B = -1074
      · exact Or.inl hc
      · exact Or.inr (roundQ_ge (loP_pos hB) (dn _ 52 hlast (by omega)))
    unfold flV
    have h3 : -1074 ≤ lastP A B := by omega
    exact near_main h1 h2 h3 ho.1
  rcases hat with hp | ⟨hp, hns⟩
  · by_cases hc : startP A B 53 (-1074) = lastP A B
    · rw [hp, hc] at ho
      exact main v P ho
    · -- one below the last place
      have e1 : lastP A B = p + 1 := by omega
      have e2 : p + 53 ≤ expo A B := by omega
      have hd := dn p 53 (by omega) e2
      have hge : 2 ^ 53 ≤ nearQ A B p := roundQ_ge (loP_pos hB) hd
      obtain ⟨(⟨c1, rfl, rfl⟩ | ⟨c1, c2, c6, rfl⟩), c5⟩ := ho
      · have := blen_le_iff.1 c1; omega
      · have c3 : nearQ A B p < 2 ^ 54 := blen_le_iff.1 (by omega)
        have c4 : nearQ A B p = 2 ^ 53 := by omega
        have hh : nearQ A B (p + 1) = 2 ^ 52 := by
          have := roundQ_half (loP_pos hB) hd c4
          rw [← this]
          unfold nearQ
          refine roundQ_cross (loP_pos hB) (by have := loP_pos (p := p) hB; omega) ?_
          unfold upP loP
          by_cases hp0 : 0 ≤ p
          · rw [show (-(p + 1)).toNat = 0 from by omega, show (-p).toNat = 0 from by omega, show (p + 1).toNat = p.toNat + 1 from by omega, Nat.pow_succ]
            ac_rfl
          · rw [show (-p).toNat = (-(p + 1)).toNat + 1 from by omega, show (p + 1).toNat = 0 from by omega, show p.toNat = 0 from by omega, Nat.pow_succ]
            ac_rfl
        have c7 : v = 2 ^ 52 := by omega
        have c8 : 2 ^ 52 ≤ v := by omega
        have c9 : v < 2 ^ 53 := by omega
        refine ⟨c9, by omega, ?_⟩
        unfold flV
        rw [e1, hh, nearV_at c9 (by omega) (Or.inr c8), c7]
  · by_cases hc : startP A B 53 (-1074) = lastP A B
    · exact absurd (stopQ_of_le (by rw [hc]; exact up _ hlast (by omega))) hns
    · rw [show p = lastP A B from by omega] at ho
      exact main v P ho

end Go.Proofs.YtkelfdhpekkiaacDoor
namespace Go.Proofs.YtkelfdhpekkiaacDoor
open Go.RowKit
open BN

theorem cut_round (s : Bool) (mag : Nat) (n : Int) (h0 : mag ≠ 0) : Ieee.Toward.even.cut s (mag <<< n.toNat) (-n).toNat = roundQ (mag * 2 ^ n.toNat) (2 ^ (-n).toNat) := by
  by_cases hn : 0 ≤ n
  · rw [show (-n).toNat = 0 from by omega, FT.cut_zero, Nat.shiftLeft_eq, Nat.pow_zero, roundQ_one]
  · rw [show n.toNat = 0 from by omega, Nat.shiftLeft_zero, rnd_cut s mag _ h0 (by omega), rnd_roundQ mag _ (by omega), Nat.pow_zero, Nat.mul_one]

theorem nearest_fl {A B mag : Nat} {e : Int} (s : Bool) (hA : A ≠ 0) (hB : B ≠ 0) (h0 : mag ≠ 0) (h : A * 2 ^ (-e).toNat = mag * B * 2 ^ e.toNat) : Ieee.double.nearest s mag e = FT.wrd s (flV A B) := by
  have hL := expo_of hA hB h0 h
  have hQ := nearQ_of (lastP A B) hB h
  unfold flV
  rw [hQ]
  unfold lastP
  rw [hL]
  unfold Ieee.Format.nearest
  rw [if_neg h0, FT.leastPlace_eq, FT.infRung_eq, FT.binade_eq, FT.word_eq]
  congr 1
  show min ((max (e + (mag.log2 : Int) - (52 : Nat)) (-1074) - -1074).toNat * 2 ^ 52 + Ieee.Toward.even.cut s (mag <<< (e - max (e + (mag.log2 : Int) - (52 : Nat)) (-1074)).toNat) (max (e + (mag.log2 : Int) - (52 : Nat)) (-1074) - e).toNat) (2047 * 2 ^ 52) = _
  have hl : (max (e + (mag.log2 : Int) - (52 : Nat)) (-1074)) = max (e + (mag.log2 : Int) - 52) (-1074) := rfl
  rw [hl]
  generalize max (e + (mag.log2 : Int) - 52) (-1074) = last at *
  have hc := cut_round s mag (e - last) h0
  rw [show (-(e - last)).toNat = (last - e).toNat from by omega] at hc
  rw [hc, show (last - -1074).toNat = (last + 1074).toNat from by omega, show (-(e - last)).toNat = (last - e).toNat from by omega]

end Go.Proofs.YtkelfdhpekkiaacDoor
namespace Go.Proofs.YtkelfdhpekkiaacDoor
open Go.ChangeShapes Go.WideShapes Go.ChangeAt Go.RowKit
open BN
attribute [local go_sem] frombits_r tobits_r unary_negf

/-- A float is handed back, and a word on whether it is just that. -/
def RetFl (w : World) (r : Nat) (e : Ending) (w' : World) : Prop := ∃ x : Bool, e = .returned (.tuple #[.float .f64 r, .bool x]) ∧ G w w'

theorem float64_zero (w : World) (b : Nat) (sb : Int) (h : RatIs w b 0 sb) :
    Calls Tryd.prog 46 #[.pointer (some ⟨b, 0, none⟩)] w (RetFl w 0) := by
  have HS : Hid _ := signR_c w b 0 sb h
  have he : (0 : Int).sign = 0 := rfl
  rw [he] at HS
  clear h he
  go_enter Tryd.func46, Tryd.ntmps46
  go_wp2_with fail
  refine Calls.mono (P := Tryd.prog) HS.out ?_
  rintro e w2 ⟨rfl, hg2⟩
  go_wp2_with fail
  go_ret2
  exact ⟨_, rfl, hg2⟩

theorem sg_neg {n : Bool} {a : Nat} {s : Int} (h : sg n a = s) (h2 : n = true → a ≠ 0) : n = decide (s < 0) := by
  subst h
  unfold sg
  cases n
  · exact (decide_eq_false (by simp)).symm
  · have := h2 rfl
    exact (decide_eq_true (by simp; omega)).symm
theorem negFloat_wrd (r : Nat) (hr : r < 2 ^ 63) : Op.negFloat .f64 r = FT.wrd true r := by
  rw [negFloat_eq r (by omega)]
  have h1 : FT.neg r = false := by unfold FT.neg; simp; omega
  unfold negV
  rw [if_neg (by rw [h1]; simp)]
  rfl

set_option maxRecDepth 10000 in
set_option maxHeartbeats 4000000 in
theorem float64_c (w : World) (b K : Nat) (sa : Int) (sb : Nat) (hK : K ≤ 10000) (hK1 : 100 ≤ K) (h0 : sa ≠ 0) (hsb : 0 < sb) (ha2 : sa.natAbs < 2 ^ (32 * K)) (hb2 : sb < 2 ^ (32 * K)) (hst : startP sa.natAbs sb 53 (-1074) ≤ 5990)
    (hb : b < w.heap.size) (h : RatIs w b sa (sb : Int)) :
    Calls Tryd.prog 46 #[.pointer (some ⟨b, 0, none⟩)] w (RetFl w (FT.wrd (decide (sa < 0)) (flV sa.natAbs sb))) := by
  have HS : Hid _ := signR_c w b sa sb h
  have ht : ((sa.sign : Int) == 0) = false := by simp; exact h0
  have hR := h
  obtain ⟨⟨n, v, a, ⟨c1, -, -, -⟩, -, h1, h2⟩, -⟩ := h
  have hn := sg_neg h1 h2
  have HR : Hid (RatIs w b sa (sb : Int)) := hR
  have HSB : Hid ((sb : Int) ≠ 0) := by show (sb : Int) ≠ 0; omega
  have HA2 : Hid (sa.natAbs < 2 ^ (32 * K)) := ha2
  have HB2 : Hid (sb < 2 ^ (32 * K)) := hb2
  have HA0 : Hid (sa.natAbs ≠ 0) := by show sa.natAbs ≠ 0; omega
  have HB0 : Hid (sb ≠ 0) := by show sb ≠ 0; omega
  have HST : Hid (startP sa.natAbs sb 53 (-1074) ≤ 5990) := hst
  have HFL : Hid (flV sa.natAbs sb < 2 ^ 63) := by show flV sa.natAbs sb < 2 ^ 63; have := Nat.min_le_right ((lastP sa.natAbs sb + 1074).toNat * 2 ^ 52 + nearQ sa.natAbs sb (lastP sa.natAbs sb)) (2047 * 2 ^ 52); unfold flV; omega
  rw [← hn]
  clear ha2 hb2 hst h1 h2 hR hsb h0
  generalize sa.sign = sg at *
  have HN : Hid _ := hn
  clear hn
  go_enter Tryd.func46, Tryd.ntmps46
  go_wp2_with fail
  refine Calls.mono (P := Tryd.prog) HS.out ?_
  rintro e w2 ⟨rfl, hg2⟩
  clear HS
  as_aux_lemma =>
    go_wp2_with fail
    have hn0 := NI.new hg2 31
    have hGa := hg2.alloc (.cells #[.bool false, .slice none 0 0] 31)
    generalize w2.heap.size = pn at *
    generalize w2.alloc (.cells #[.bool false, .slice none 0 0] 31) = wa at *
    have HL : Hid _ := absI_c wa pn 0 b 0 0 sa K (by omega) HA2.out hn0.2.1 hn0.2.2 (IntIs.G HR.out.1 hb hGa)
    have HN0 : Hid (NI w wa pn 0) := hn0
    clear hn0 hg2
    refine Calls.mono (P := Tryd.prog) HL.out ?_
    intro e w3 hs
    obtain ⟨rfl, hG3, hN3, -, -⟩ := SetTo.step hGa HN0.out hs
    have HN3 : Hid (NI w w3 pn (sa.natAbs : Int)) := hN3
    clear hs hN3 HL HN0 hGa
    go_wp2_with fail
    refine Calls.mono (P := Tryd.prog) (den_c w3 b sa sb HSB.out (HR.out.G hb hG3)) ?_
    rintro e w4 ⟨rfl, hg4⟩
    have hG4 := G.trans hG3 hg4
    have hN4 := HN3.out.G hg4
    have HNR : Hid _ := near_c w4 pn 0 b 2 sa.natAbs sb 53 K (-1074) hK hK1 HA0.out HB0.out HA2.out HB2.out (by omega) (by omega) (by omega) (by omega) hN4.2.1 (G.lt hG4 hb) hN4.2.2 (HR.out.G hb hG4).2
    clear hg4 hN4 HN3 hG3
    go_wp2_with fail
    refine Calls.mono (P := Tryd.prog) HNR.out ?_
    intro e w5 hs
    obtain ⟨q, m, P, p, x, rfl, hg5, hNq, hout, hat⟩ := hs
    have hG5 := G.trans hG4 hg5
    obtain ⟨hm, hP1, hval⟩ := near_fl HA0.out HB0.out hat hout
    have hP2 : P ≤ 6000 := by
      have := HST.out
      obtain ⟨(⟨-, -, h⟩ | ⟨-, -, -, h⟩), -⟩ := hout <;> rcases hat with h' | ⟨h', -⟩ <;> omega
    have HU : Hid _ := uint64I_c w5 q 0 (m : Int) (by rw [Int.natAbs_natCast]; omega) hNq.2.2
    rw [Int.natAbs_natCast] at HU
    have hfl := floatOf_nat m (by omega)
    have HX : Hid _ := fun w => ldexp_q m P w hm hP1 hP2
    rw [hval] at HX
    have HFL2 := HFL.out
    generalize flV sa.natAbs sb = r at *
    have HI : Hid _ := fun w => isinf_c r w (by omega)
    have hng := negFloat_wrd r HFL2
    have hw0 := wrd_false' r
    have c5 : w5.cell? ⟨b, 0, none⟩ = some (.bool n) := G.cell hG5 hb c1
    clear hg5 hNq hout hat hm hP1 hP2 hval HNR hG4 HFL HFL2 HN HST HR HA2 HB2 HA0 HB0 HSB c1
    as_aux_lemma =>
      go_wp2_with fail
      refine Calls.mono (P := Tryd.prog) HU.out ?_
      rintro e w6 ⟨rfl, hg6⟩
      have hG6 := G.trans hG5 hg6
      have hb5 := G.lt hG5 hb
      have c6 : w6.cell? ⟨b, 0, none⟩ = some (.bool n) := G.cell hg6 hb5 c5
      clear c5 HU
      go_wp2_with fail


      refine Calls.mono (P := Tryd.prog) (HX.out _) ?_
      rintro e w7 ⟨rfl, hg7⟩
      have hG7 := G.trans hG6 hg7
      have c7 : w7.cell? ⟨b, 0, none⟩ = some (.bool n) := G.cell hg7 (G.lt hG6 hb) c6
      clear c6 hg6 hG5
      go_wp2_with fail
      refine Calls.mono (P := Tryd.prog) (HI.out _) ?_
      rintro e w8 ⟨rfl, hg8⟩
      have hG8 := G.trans hG7 hg8
      have c8 : w8.cell? ⟨b, 0, none⟩ = some (.bool n) := G.cell hg8 (G.lt hG7 hb) c7
      clear c7 hg8 hg7 hG6 HX HI hfl
      generalize decide (FT.rung r = FT.infR) = inf at *
      have hng2 : Ending.returned (Value.tuple #[.float .f64 (Op.negFloat .f64 r), .bool x]) = .returned (.tuple #[.float .f64 (FT.wrd true r), .bool x]) := by rw [hng]
      have hng3 : Ending.returned (Value.tuple #[.float .f64 (Op.negFloat .f64 r), .bool false]) = .returned (.tuple #[.float .f64 (FT.wrd true r), .bool false]) := by rw [hng]
      clear hng
      cases n
      · rw [hw0]
        cases inf
        · as_aux_lemma =>
            go_wp2_with fail
            go_ret2
            exact ⟨_, rfl, hG8⟩
        · as_aux_lemma =>
            go_wp2_with fail
            go_ret2
            exact ⟨_, rfl, hG8⟩
      · cases inf
        · as_aux_lemma =>
            go_wp2_with fail
            go_ret2
            exact ⟨_, hng2, hG8⟩
        · as_aux_lemma =>
            go_wp2_with fail
            go_ret2
            exact ⟨_, hng3, hG8⟩

end Go.Proofs.YtkelfdhpekkiaacDoor
namespace Go.Proofs.YtkelfdhpekkiaacDoor
open Go.ChangeShapes Go.WideShapes Go.ChangeAt Go.RowKit
open BN
attribute [local go_sem] frombits_r tobits_r unary_negf

set_option maxRecDepth 100000 in
theorem round_zero (w : World) (b : Nat) (sb : Int) (hb : b < w.heap.size) (h : RatIs w b 0 sb) :
    Calls Tryd.prog 43 #[.pointer (some ⟨b, 0, none⟩), .int .i64 1] w fun o w' => o = .returned (.float .f64 0) ∧ G w w' := by
  have HF : Hid _ := float64_zero w b sb h
  have HS : Hid (∀ w1, G w w1 → _) := fun w1 g => signR_c w1 b 0 sb (h.G hb g)
  have he : (0 : Int).sign = 0 := rfl
  rw [he] at HS
  clear h he
  go_enter Tryd.func43, Tryd.ntmps43
  go_wp2_with fail
  refine Calls.mono (P := Tryd.prog) HF.out ?_
  intro e w1 h
  obtain ⟨x, rfl, g1⟩ := h
  go_wp2_with fail
  refine Calls.mono (P := Tryd.prog) (HS.out w1 g1) ?_
  rintro e w2 ⟨rfl, g2⟩
  go_wp2_with fail
  go_ret
  exact ⟨rfl, G.trans g1 g2⟩

theorem sign_one {sa : Int} (h0 : sa ≠ 0) : (sa < 0 ∧ sa.sign = -1) ∨ (¬ sa < 0 ∧ sa.sign = 1) := by
  rcases Int.lt_or_gt_of_ne h0 with h | h
  · exact Or.inl ⟨h, Int.sign_eq_neg_one_of_neg h⟩
  · exact Or.inr ⟨by omega, Int.sign_eq_one_of_pos h⟩
theorem flV_le (A B : Nat) : flV A B ≤ 2047 * 2 ^ 52 := Nat.min_le_right _ _

set_option maxRecDepth 100000 in
theorem round_core (w : World) (b : Nat) (sa sb : Int) (s : Bool) (r : Nat) (hr : r ≤ 2047 * 2 ^ 52) (h0 : sa ≠ 0) (hs : s = decide (sa < 0)) (hb : b < w.heap.size) (h : RatIs w b sa sb)
    (HF : Calls Tryd.prog 46 #[.pointer (some ⟨b, 0, none⟩)] w (RetFl w (FT.wrd s r))) :
    Calls Tryd.prog 43 #[.pointer (some ⟨b, 0, none⟩), .int .i64 1] w fun o w' => o = .returned (.float .f64 (FT.wrd s r)) ∧ G w w' := by
  have HF : Hid _ := HF
  have HS : Hid (∀ w1, G w w1 → _) := fun w1 g => signR_c w1 b sa sb (h.G hb g)
  have ht : ((sa.sign : Int) == 0) = false := by simp; exact h0
  have e1 := FT.eq_zero (FT.wrd s r)
  rw [FT.wrd_rung s r (by omega)] at e1
  have hf : ∃ z, floatOfInt .f64 sa.sign = z ∧ FT.neg z = s ∧ z < 2 ^ 64 := by
    rcases sign_one h0 with ⟨h1, h2⟩ | ⟨h1, h2⟩
    · rw [h2, hs, decide_eq_true h1]; exact ⟨_, rfl, by decide, by decide⟩
    · rw [h2, hs, decide_eq_false h1]; exact ⟨_, rfl, by decide, by decide⟩
  obtain ⟨z, hz, hz1, hz2⟩ := hf
  have HC : Hid _ := fun w => copysign_c 0 z w (by omega) hz2
  rw [hz1] at HC
  have e0 : FT.rung 0 + (if s then 2 ^ 63 else 0) = FT.wrd s 0 := by unfold FT.wrd FT.rung; cases s <;> simp
  rw [e0] at HC
  clear h h0 hs hz1 hz2 e0
  generalize sa.sign = sg at *
  by_cases hr0 : r = 0
  · subst hr0
    rw [decide_eq_true rfl] at e1
    generalize FT.wrd s 0 = R at *
    clear hr hb
    go_enter Tryd.func43, Tryd.ntmps43
    go_wp2_with fail
    refine Calls.mono (P := Tryd.prog) HF.out ?_
    intro e w1 h
    obtain ⟨x, rfl, g1⟩ := h
    go_wp2_with fail
    refine Calls.mono (P := Tryd.prog) (HS.out w1 g1) ?_
    rintro e w2 ⟨rfl, g2⟩
    have g3 := G.trans g1 g2
    go_wp2_with fail
    refine Calls.mono (P := Tryd.prog) (HS.out w2 g3) ?_
    rintro e w3 ⟨rfl, g4⟩
    have g5 := G.trans g3 g4
    clear g1 g2 g3 g4
    go_wp2_with fail
    try simp only [hz]
    refine Calls.mono (P := Tryd.prog) (HC.out _) ?_
    rintro e w4 ⟨rfl, g6⟩
    have g7 := G.trans g5 g6
    clear g5 g6
    go_wp2_with fail
    go_ret
    exact ⟨rfl, g7⟩
  · rw [decide_eq_false hr0] at e1
    generalize FT.wrd s r = R at *
    clear hr hb hr0
    go_enter Tryd.func43, Tryd.ntmps43
    go_wp2_with fail
    refine Calls.mono (P := Tryd.prog) HF.out ?_
    intro e w1 h
    obtain ⟨x, rfl, g1⟩ := h
    go_wp2_with fail
    refine Calls.mono (P := Tryd.prog) (HS.out w1 g1) ?_
    rintro e w2 ⟨rfl, g2⟩
    have g3 := G.trans g1 g2
    clear g1 g2
    go_wp2_with fail
    go_ret
    exact ⟨rfl, g3⟩

end Go.Proofs.YtkelfdhpekkiaacDoor
namespace Go.Proofs.YtkelfdhpekkiaacDoor
open Go.ChangeShapes Go.WideShapes Go.ChangeAt Go.RowKit
open BN
attribute [local go_sem] frombits_r tobits_r unary_negf


set_option maxRecDepth 10000 in
set_option maxHeartbeats 4000000 in
theorem setFl_zero (w : World) (bz b mag DD k : Nat) (s : Bool) (S NN s1 s2 : Int) (K : Nat) (hK : K ≤ 1000) (hmg : mag < 2 ^ 53) (hS : S = if s then -(mag : Int) else mag)
    (L1 : bits BinOp.and IntKind.u64 ((b : Int) / 4503599627370496) 2047 = 0) (L2 : bits BinOp.and IntKind.u64 (b : Int) 4503599627370495 = (mag : Int)) (L4 : ((b : Int) / 9223372036854775808 == 1) = s)
    (hk : (k : Int) = 1074) (hNN : NN = S) (hDD : (DD : Int) = 2 ^ k)
    (hB : NN.natAbs < 2 ^ (32 * K) ∧ DD < 2 ^ (32 * K) ∧ 0 < DD) (hbz : bz < w.heap.size) (hz : RatIs w bz s1 s2) :
    Calls Tryd.prog 34 #[.pointer (some ⟨bz, 0, none⟩), .float .f64 b] w (NormTo w bz (Int.tdiv NN (Nat.gcd NN.natAbs DD : Nat)) (DD / Nat.gcd NN.natAbs DD)) := by
  have HB : Hid (NN.natAbs < 2 ^ (32 * K) ∧ DD < 2 ^ (32 * K) ∧ 0 < DD) := hB
  have HZ : Hid (RatIs w bz s1 s2) := hz
  have HMG : Hid (mag < 2 ^ 64) := by show mag < 2 ^ 64; omega
  have HSB : Hid (S.natAbs < 2 ^ (32 * 2)) := by show S.natAbs < 2 ^ (32 * 2); rw [hS]; split <;> omega
  have HBZ : Hid (bz < w.heap.size) := hbz
  clear hB hz hmg hbz
  have HNN : Hid (NN = S) := hNN
  have HDD : Hid ((DD : Int) = 2 ^ k) := hDD
  have HKK : Hid ((k : Int) = 1074) := hk
  have hk2 : k ≤ 10000 := by omega
  clear hNN hDD hk
  cases s
  · have HSG : Hid (S = (mag : Int)) := hS
    clear hS
    go_enter Tryd.func34, Tryd.ntmps34
    go_wp2_with fail
    have hn0 := NI.new (G.refl w) 31
    have hGa := (G.refl w).alloc (.cells #[.bool false, .slice none 0 0] 31)
    generalize w.heap.size = pn at hn0 ⊢
    generalize w.alloc (.cells #[.bool false, .slice none 0 0] 31) = wa at *
    have HL : Hid _ := setU_c wa pn 0 mag 0 HMG.out hn0.2.1 hn0.2.2
    have HN0 : Hid (NI w wa pn 0) := hn0
    clear hn0
    refine Calls.mono (P := Tryd.prog) HL.out ?_
    intro e w2 hs
    obtain ⟨rfl, hG2, hN2, -, -⟩ := SetTo.step hGa HN0.out hs
    have HN2 : Hid (NI w w2 pn (mag : Int)) := hN2
    clear hs hN2 HL HN0 hGa
    have HN3 : Hid (NI w w2 pn S) := by rw [HSG.out]; exact HN2
    have hG3 := hG2
    clear HN2 hG2
    go_wp2_with fail
    refine Calls.mono (P := Tryd.prog) (newI_c _ 1 (by omega)) ?_
    intro e w4 h
    obtain ⟨pd, rfl, hg4, hp4, hp4s, hp4i⟩ := h
    have hG4 := G.trans hG3 hg4
    have HN4 : Hid (NI w w4 pn S) := HN3.out.G hg4
    have hsz := hG3.size
    have HD4 : Hid (NI w w4 pd 1) := ⟨by omega, hp4s, hp4i⟩
    have hne : pn ≠ pd := by have := HN3.out.2.1; omega
    clear hg4 hp4 hp4s hp4i hsz HN3 hG3
    go_wp2_with fail
    rw [← HKK.out]
    have HL : Hid _ := lshI_c w4 pd 0 pd 0 k 1 1 2 (by omega) (by omega) (by decide) HD4.out.2.1 HD4.out.2.1 HD4.out.2.2 HD4.out.2.2
    refine Calls.mono (P := Tryd.prog) HL.out ?_
    intro e w5 hs
    obtain ⟨rfl, hG5, hN5, -, hkp⟩ := SetTo.step hG4 HD4.out hs
    have HN5 : Hid (NI w w5 pn NN) := by rw [HNN.out]; exact hkp pn S hne HN4.out
    rw [Int.one_mul, ← HDD.out] at hN5
    have HD5 : Hid (NI w w5 pd (DD : Int)) := hN5
    clear hs hN5 HL hkp HN4 HD4 hG4
    have HF : Hid _ := setFrac_c w5 bz pn 0 pd 0 s1 s2 NN DD K (by omega) HB.out.1 HB.out.2.1 HB.out.2.2 (G.lt hG5 HBZ.out) HN5.out.2.1 HD5.out.2.1 (HZ.out.G HBZ.out hG5) HN5.out.2.2 HD5.out.2.2
    clear HN5 HD5 HB HZ HBZ
    go_wp2_with fail
    refine Calls.mono (P := Tryd.prog) HF.out ?_
    intro e w6 hs
    obtain ⟨rfl, k1, k2⟩ := NormTo.after hG5 hs
    have HK2 : Hid _ := k2
    clear hs k2 HF
    go_wp2_with fail
    go_ret
    exact ⟨rfl, k1, HK2.out⟩
  · have HSG : Hid (S = -(mag : Int)) := hS
    clear hS
    go_enter Tryd.func34, Tryd.ntmps34
    go_wp2_with fail
    have hn0 := NI.new (G.refl w) 31
    have hGa := (G.refl w).alloc (.cells #[.bool false, .slice none 0 0] 31)
    generalize w.heap.size = pn at hn0 ⊢
    generalize w.alloc (.cells #[.bool false, .slice none 0 0] 31) = wa at *
    have HL : Hid _ := setU_c wa pn 0 mag 0 HMG.out hn0.2.1 hn0.2.2
    have HN0 : Hid (NI w wa pn 0) := hn0
    clear hn0
    refine Calls.mono (P := Tryd.prog) HL.out ?_
    intro e w2 hs
    obtain ⟨rfl, hG2, hN2, -, -⟩ := SetTo.step hGa HN0.out hs
    have HN2 : Hid (NI w w2 pn (mag : Int)) := hN2
    clear hs hN2 HL HN0 hGa
    have HL : Hid _ := negI_c w2 pn 0 pn 0 (mag : Int) (mag : Int) 2 (by omega) (by rw [Int.natAbs_natCast]; exact HMG.out) HN2.out.2.1 HN2.out.2.1 HN2.out.2.2 HN2.out.2.2
    go_wp2_with fail
    refine Calls.mono (P := Tryd.prog) HL.out ?_
    intro e w3 hs
    obtain ⟨rfl, hG3, hN3, -, -⟩ := SetTo.step hG2 HN2.out hs
    rw [← HSG.out] at hN3
    have HN3 : Hid (NI w w3 pn S) := hN3
    clear hs hN3 HL HN2 hG2
    go_wp2_with fail
    refine Calls.mono (P := Tryd.prog) (newI_c _ 1 (by omega)) ?_
    intro e w4 h
    obtain ⟨pd, rfl, hg4, hp4, hp4s, hp4i⟩ := h
    have hG4 := G.trans hG3 hg4
    have HN4 : Hid (NI w w4 pn S) := HN3.out.G hg4
    have hsz := hG3.size
    have HD4 : Hid (NI w w4 pd 1) := ⟨by omega, hp4s, hp4i⟩
    have hne : pn ≠ pd := by have := HN3.out.2.1; omega
    clear hg4 hp4 hp4s hp4i hsz HN3 hG3
    go_wp2_with fail
    rw [← HKK.out]
    have HL : Hid _ := lshI_c w4 pd 0 pd 0 k 1 1 2 (by omega) (by omega) (by decide) HD4.out.2.1 HD4.out.2.1 HD4.out.2.2 HD4.out.2.2
    refine Calls.mono (P := Tryd.prog) HL.out ?_
    intro e w5 hs
    obtain ⟨rfl, hG5, hN5, -, hkp⟩ := SetTo.step hG4 HD4.out hs
    have HN5 : Hid (NI w w5 pn NN) := by rw [HNN.out]; exact hkp pn S hne HN4.out
    rw [Int.one_mul, ← HDD.out] at hN5
    have HD5 : Hid (NI w w5 pd (DD : Int)) := hN5
    clear hs hN5 HL hkp HN4 HD4 hG4
    have HF : Hid _ := setFrac_c w5 bz pn 0 pd 0 s1 s2 NN DD K (by omega) HB.out.1 HB.out.2.1 HB.out.2.2 (G.lt hG5 HBZ.out) HN5.out.2.1 HD5.out.2.1 (HZ.out.G HBZ.out hG5) HN5.out.2.2 HD5.out.2.2
    clear HN5 HD5 HB HZ HBZ
    go_wp2_with fail
    refine Calls.mono (P := Tryd.prog) HF.out ?_
    intro e w6 hs
    obtain ⟨rfl, k1, k2⟩ := NormTo.after hG5 hs
    have HK2 : Hid _ := k2
    clear hs k2 HF
    go_wp2_with fail
    go_ret
    exact ⟨rfl, k1, HK2.out⟩

set_option maxRecDepth 10000 in
set_option maxHeartbeats 4000000 in
theorem setFl_up (w : World) (bz b ex fr mag DD k : Nat) (s : Bool) (S NN s1 s2 : Int) (K : Nat) (hK : K ≤ 1000) (hmg : mag < 2 ^ 53) (hS : S = if s then -(mag : Int) else mag) (h1 : ex < 2047) (h2 : 1075 ≤ ex)
    (L1 : bits BinOp.and IntKind.u64 ((b : Int) / 4503599627370496) 2047 = (ex : Int)) (L2 : bits BinOp.and IntKind.u64 (b : Int) 4503599627370495 = (fr : Int)) (L3 : bits BinOp.or IntKind.u64 (fr : Int) 4503599627370496 = (mag : Int))
    (L4 : ((b : Int) / 9223372036854775808 == 1) = s)
    (hk : (k : Int) = ex - 1075) (hNN : NN = S * 2 ^ k) (hDD : (DD : Int) = 1)
    (hB : NN.natAbs < 2 ^ (32 * K) ∧ DD < 2 ^ (32 * K) ∧ 0 < DD) (hbz : bz < w.heap.size) (hz : RatIs w bz s1 s2) :
    Calls Tryd.prog 34 #[.pointer (some ⟨bz, 0, none⟩), .float .f64 b] w (NormTo w bz (Int.tdiv NN (Nat.gcd NN.natAbs DD : Nat)) (DD / Nat.gcd NN.natAbs DD)) := by
  have HB : Hid (NN.natAbs < 2 ^ (32 * K) ∧ DD < 2 ^ (32 * K) ∧ 0 < DD) := hB
  have HZ : Hid (RatIs w bz s1 s2) := hz
  have HMG : Hid (mag < 2 ^ 64) := by show mag < 2 ^ 64; omega
  have HSB : Hid (S.natAbs < 2 ^ (32 * 2)) := by show S.natAbs < 2 ^ (32 * 2); rw [hS]; split <;> omega
  have HBZ : Hid (bz < w.heap.size) := hbz
  clear hB hz hmg hbz
  have HNN : Hid (NN = S * 2 ^ k) := hNN
  have HDD : Hid ((DD : Int) = 1) := hDD
  have t1 : ((ex : Int) == 2047) = false := by simp; omega
  have t2 : ((ex : Int) == 0) = false := by simp; omega
  have t3 : decide ((1075 : Int) ≤ ex) = true := decide_eq_true (by omega)
  have HKK : Hid (IntKind.u64.wrap ((ex : Int) - 1075) = (k : Int)) := by show IntKind.u64.wrap ((ex : Int) - 1075) = (k : Int); rw [IntKind.wrap_u64]; omega
  have HKW : Hid (wrap64 ((ex : Int) - 1075) = (k : Int)) := by show wrap64 ((ex : Int) - 1075) = (k : Int); rw [IntWalk.wrap64_in _ (by omega)]; omega
  have hkb : (ex : Int) - 1075 = (k : Int) := hk.symm
  have hk2 : k ≤ 10000 := by omega
  clear hNN hDD hk h1 h2
  cases s
  · have HSG : Hid (S = (mag : Int)) := hS
    clear hS
    go_enter Tryd.func34, Tryd.ntmps34
    go_wp2_with fail
    have hn0 := NI.new (G.refl w) 31
    have hGa := (G.refl w).alloc (.cells #[.bool false, .slice none 0 0] 31)
    generalize w.heap.size = pn at hn0 ⊢
    generalize w.alloc (.cells #[.bool false, .slice none 0 0] 31) = wa at *
    have HL : Hid _ := setU_c wa pn 0 mag 0 HMG.out hn0.2.1 hn0.2.2
    have HN0 : Hid (NI w wa pn 0) := hn0
    clear hn0
    refine Calls.mono (P := Tryd.prog) HL.out ?_
    intro e w2 hs
    obtain ⟨rfl, hG2, hN2, -, -⟩ := SetTo.step hGa HN0.out hs
    have HN2 : Hid (NI w w2 pn (mag : Int)) := hN2
    clear hs hN2 HL HN0 hGa
    have HN3 : Hid (NI w w2 pn S) := by rw [HSG.out]; exact HN2
    have hG3 := hG2
    clear HN2 hG2
    go_wp2_with fail
    refine Calls.mono (P := Tryd.prog) (newI_c _ 1 (by omega)) ?_
    intro e w4 h
    obtain ⟨pd, rfl, hg4, hp4, hp4s, hp4i⟩ := h
    have hG4 := G.trans hG3 hg4
    have HN4 : Hid (NI w w4 pn S) := HN3.out.G hg4
    have hsz := hG3.size
    have HD4 : Hid (NI w w4 pd 1) := ⟨by omega, hp4s, hp4i⟩
    have hne : pn ≠ pd := by have := HN3.out.2.1; omega
    clear hg4 hp4 hp4s hp4i hsz HN3 hG3
    go_wp2_with fail
    have HL : Hid _ := lshI_c w4 pn 0 pn 0 k S S 2 (by omega) (by omega) HSB.out HN4.out.2.1 HN4.out.2.1 HN4.out.2.2 HN4.out.2.2
    refine Calls.mono (P := Tryd.prog) HL.out ?_
    intro e w5 hs
    obtain ⟨rfl, hG5, hN5, -, hkp⟩ := SetTo.step hG4 HN4.out hs
    have HD5 : Hid (NI w w5 pd (DD : Int)) := by rw [HDD.out]; exact hkp pd 1 hne.symm HD4.out
    rw [← HNN.out] at hN5
    have HN5 : Hid (NI w w5 pn NN) := hN5
    clear hs hN5 HL hkp HN4 HD4 hG4
    have HF : Hid _ := setFrac_c w5 bz pn 0 pd 0 s1 s2 NN DD K (by omega) HB.out.1 HB.out.2.1 HB.out.2.2 (G.lt hG5 HBZ.out) HN5.out.2.1 HD5.out.2.1 (HZ.out.G HBZ.out hG5) HN5.out.2.2 HD5.out.2.2
    clear HN5 HD5 HB HZ HBZ
    go_wp2_with fail
    refine Calls.mono (P := Tryd.prog) HF.out ?_
    intro e w6 hs
    obtain ⟨rfl, k1, k2⟩ := NormTo.after hG5 hs
    have HK2 : Hid _ := k2
    clear hs k2 HF
    go_wp2_with fail
    go_ret
    exact ⟨rfl, k1, HK2.out⟩
  · have HSG : Hid (S = -(mag : Int)) := hS
    clear hS
    go_enter Tryd.func34, Tryd.ntmps34
    go_wp2_with fail
    have hn0 := NI.new (G.refl w) 31
    have hGa := (G.refl w).alloc (.cells #[.bool false, .slice none 0 0] 31)
    generalize w.heap.size = pn at hn0 ⊢
    generalize w.alloc (.cells #[.bool false, .slice none 0 0] 31) = wa at *
    have HL : Hid _ := setU_c wa pn 0 mag 0 HMG.out hn0.2.1 hn0.2.2
    have HN0 : Hid (NI w wa pn 0) := hn0
    clear hn0
    refine Calls.mono (P := Tryd.prog) HL.out ?_
    intro e w2 hs
    obtain ⟨rfl, hG2, hN2, -, -⟩ := SetTo.step hGa HN0.out hs
    have HN2 : Hid (NI w w2 pn (mag : Int)) := hN2
    clear hs hN2 HL HN0 hGa
    have HL : Hid _ := negI_c w2 pn 0 pn 0 (mag : Int) (mag : Int) 2 (by omega) (by rw [Int.natAbs_natCast]; exact HMG.out) HN2.out.2.1 HN2.out.2.1 HN2.out.2.2 HN2.out.2.2
    go_wp2_with fail
    refine Calls.mono (P := Tryd.prog) HL.out ?_
    intro e w3 hs
    obtain ⟨rfl, hG3, hN3, -, -⟩ := SetTo.step hG2 HN2.out hs
    rw [← HSG.out] at hN3
    have HN3 : Hid (NI w w3 pn S) := hN3
    clear hs hN3 HL HN2 hG2
    go_wp2_with fail
    refine Calls.mono (P := Tryd.prog) (newI_c _ 1 (by omega)) ?_
    intro e w4 h
    obtain ⟨pd, rfl, hg4, hp4, hp4s, hp4i⟩ := h
    have hG4 := G.trans hG3 hg4
    have HN4 : Hid (NI w w4 pn S) := HN3.out.G hg4
    have hsz := hG3.size
    have HD4 : Hid (NI w w4 pd 1) := ⟨by omega, hp4s, hp4i⟩
    have hne : pn ≠ pd := by have := HN3.out.2.1; omega
    clear hg4 hp4 hp4s hp4i hsz HN3 hG3
    go_wp2_with fail
    have HL : Hid _ := lshI_c w4 pn 0 pn 0 k S S 2 (by omega) (by omega) HSB.out HN4.out.2.1 HN4.out.2.1 HN4.out.2.2 HN4.out.2.2
    refine Calls.mono (P := Tryd.prog) HL.out ?_
    intro e w5 hs
    obtain ⟨rfl, hG5, hN5, -, hkp⟩ := SetTo.step hG4 HN4.out hs
    have HD5 : Hid (NI w w5 pd (DD : Int)) := by rw [HDD.out]; exact hkp pd 1 hne.symm HD4.out
    rw [← HNN.out] at hN5
    have HN5 : Hid (NI w w5 pn NN) := hN5
    clear hs hN5 HL hkp HN4 HD4 hG4
    have HF : Hid _ := setFrac_c w5 bz pn 0 pd 0 s1 s2 NN DD K (by omega) HB.out.1 HB.out.2.1 HB.out.2.2 (G.lt hG5 HBZ.out) HN5.out.2.1 HD5.out.2.1 (HZ.out.G HBZ.out hG5) HN5.out.2.2 HD5.out.2.2
    clear HN5 HD5 HB HZ HBZ
    go_wp2_with fail
    refine Calls.mono (P := Tryd.prog) HF.out ?_
    intro e w6 hs
    obtain ⟨rfl, k1, k2⟩ := NormTo.after hG5 hs
    have HK2 : Hid _ := k2
    clear hs k2 HF
    go_wp2_with fail
    go_ret
    exact ⟨rfl, k1, HK2.out⟩

set_option maxRecDepth 10000 in
set_option maxHeartbeats 4000000 in
theorem setFl_dn (w : World) (bz b ex fr mag DD k : Nat) (s : Bool) (S NN s1 s2 : Int) (K : Nat) (hK : K ≤ 1000) (hmg : mag < 2 ^ 53) (hS : S = if s then -(mag : Int) else mag) (h1 : 1 ≤ ex) (h2 : ex < 1075)
    (L1 : bits BinOp.and IntKind.u64 ((b : Int) / 4503599627370496) 2047 = (ex : Int)) (L2 : bits BinOp.and IntKind.u64 (b : Int) 4503599627370495 = (fr : Int)) (L3 : bits BinOp.or IntKind.u64 (fr : Int) 4503599627370496 = (mag : Int))
    (L4 : ((b : Int) / 9223372036854775808 == 1) = s)
    (hk : (k : Int) = 1075 - ex) (hNN : NN = S) (hDD : (DD : Int) = 2 ^ k)
    (hB : NN.natAbs < 2 ^ (32 * K) ∧ DD < 2 ^ (32 * K) ∧ 0 < DD) (hbz : bz < w.heap.size) (hz : RatIs w bz s1 s2) :
    Calls Tryd.prog 34 #[.pointer (some ⟨bz, 0, none⟩), .float .f64 b] w (NormTo w bz (Int.tdiv NN (Nat.gcd NN.natAbs DD : Nat)) (DD / Nat.gcd NN.natAbs DD)) := by
  have HB : Hid (NN.natAbs < 2 ^ (32 * K) ∧ DD < 2 ^ (32 * K) ∧ 0 < DD) := hB
  have HZ : Hid (RatIs w bz s1 s2) := hz
  have HMG : Hid (mag < 2 ^ 64) := by show mag < 2 ^ 64; omega
  have HSB : Hid (S.natAbs < 2 ^ (32 * 2)) := by show S.natAbs < 2 ^ (32 * 2); rw [hS]; split <;> omega
  have HBZ : Hid (bz < w.heap.size) := hbz
  clear hB hz hmg hbz
  have HNN : Hid (NN = S) := hNN
  have HDD : Hid ((DD : Int) = 2 ^ k) := hDD
  have t1 : ((ex : Int) == 2047) = false := by simp; omega
  have t2 : ((ex : Int) == 0) = false := by simp; omega
  have t3 : decide ((1075 : Int) ≤ ex) = false := decide_eq_false (by omega)
  have hkb : (1075 : Int) - ex = (k : Int) := hk.symm
  have hk2 : k ≤ 10000 := by omega
  clear hNN hDD hk h1 h2
  cases s
  · have HSG : Hid (S = (mag : Int)) := hS
    clear hS
    go_enter Tryd.func34, Tryd.ntmps34
    go_wp2_with fail
    have hn0 := NI.new (G.refl w) 31
    have hGa := (G.refl w).alloc (.cells #[.bool false, .slice none 0 0] 31)
    generalize w.heap.size = pn at hn0 ⊢
    generalize w.alloc (.cells #[.bool false, .slice none 0 0] 31) = wa at *
    have HL : Hid _ := setU_c wa pn 0 mag 0 HMG.out hn0.2.1 hn0.2.2
    have HN0 : Hid (NI w wa pn 0) := hn0
    clear hn0
    refine Calls.mono (P := Tryd.prog) HL.out ?_
    intro e w2 hs
    obtain ⟨rfl, hG2, hN2, -, -⟩ := SetTo.step hGa HN0.out hs
    have HN2 : Hid (NI w w2 pn (mag : Int)) := hN2
    clear hs hN2 HL HN0 hGa
    have HN3 : Hid (NI w w2 pn S) := by rw [HSG.out]; exact HN2
    have hG3 := hG2
    clear HN2 hG2
    go_wp2_with fail
    refine Calls.mono (P := Tryd.prog) (newI_c _ 1 (by omega)) ?_
    intro e w4 h
    obtain ⟨pd, rfl, hg4, hp4, hp4s, hp4i⟩ := h
    have hG4 := G.trans hG3 hg4
    have HN4 : Hid (NI w w4 pn S) := HN3.out.G hg4
    have hsz := hG3.size
    have HD4 : Hid (NI w w4 pd 1) := ⟨by omega, hp4s, hp4i⟩
    have hne : pn ≠ pd := by have := HN3.out.2.1; omega
    clear hg4 hp4 hp4s hp4i hsz HN3 hG3
    go_wp2_with fail
    have HL : Hid _ := lshI_c w4 pd 0 pd 0 k 1 1 2 (by omega) (by omega) (by decide) HD4.out.2.1 HD4.out.2.1 HD4.out.2.2 HD4.out.2.2
    refine Calls.mono (P := Tryd.prog) HL.out ?_
    intro e w5 hs
    obtain ⟨rfl, hG5, hN5, -, hkp⟩ := SetTo.step hG4 HD4.out hs
    have HN5 : Hid (NI w w5 pn NN) := by rw [HNN.out]; exact hkp pn S hne HN4.out
    rw [Int.one_mul, ← HDD.out] at hN5
    have HD5 : Hid (NI w w5 pd (DD : Int)) := hN5
    clear hs hN5 HL hkp HN4 HD4 hG4
    have HF : Hid _ := setFrac_c w5 bz pn 0 pd 0 s1 s2 NN DD K (by omega) HB.out.1 HB.out.2.1 HB.out.2.2 (G.lt hG5 HBZ.out) HN5.out.2.1 HD5.out.2.1 (HZ.out.G HBZ.out hG5) HN5.out.2.2 HD5.out.2.2
    clear HN5 HD5 HB HZ HBZ
    go_wp2_with fail
    refine Calls.mono (P := Tryd.prog) HF.out ?_
    intro e w6 hs
    obtain ⟨rfl, k1, k2⟩ := NormTo.after hG5 hs
    have HK2 : Hid _ := k2
    clear hs k2 HF
    go_wp2_with fail
    go_ret
    exact ⟨rfl, k1, HK2.out⟩
  · have HSG : Hid (S = -(mag : Int)) := hS
    clear hS
    go_enter Tryd.func34, Tryd.ntmps34
    go_wp2_with fail
    have hn0 := NI.new (G.refl w) 31
    have hGa := (G.refl w).alloc (.cells #[.bool false, .slice none 0 0] 31)
    generalize w.heap.size = pn at hn0 ⊢
    generalize w.alloc (.cells #[.bool false, .slice none 0 0] 31) = wa at *
    have HL : Hid _ := setU_c wa pn 0 mag 0 HMG.out hn0.2.1 hn0.2.2
    have HN0 : Hid (NI w wa pn 0) := hn0
    clear hn0
    refine Calls.mono (P := Tryd.prog) HL.out ?_
    intro e w2 hs
    obtain ⟨rfl, hG2, hN2, -, -⟩ := SetTo.step hGa HN0.out hs
    have HN2 : Hid (NI w w2 pn (mag : Int)) := hN2
    clear hs hN2 HL HN0 hGa
    have HL : Hid _ := negI_c w2 pn 0 pn 0 (mag : Int) (mag : Int) 2 (by omega) (by rw [Int.natAbs_natCast]; exact HMG.out) HN2.out.2.1 HN2.out.2.1 HN2.out.2.2 HN2.out.2.2
    go_wp2_with fail
    refine Calls.mono (P := Tryd.prog) HL.out ?_
    intro e w3 hs
    obtain ⟨rfl, hG3, hN3, -, -⟩ := SetTo.step hG2 HN2.out hs
    rw [← HSG.out] at hN3
    have HN3 : Hid (NI w w3 pn S) := hN3
    clear hs hN3 HL HN2 hG2
    go_wp2_with fail
    refine Calls.mono (P := Tryd.prog) (newI_c _ 1 (by omega)) ?_
    intro e w4 h
    obtain ⟨pd, rfl, hg4, hp4, hp4s, hp4i⟩ := h
    have hG4 := G.trans hG3 hg4
    have HN4 : Hid (NI w w4 pn S) := HN3.out.G hg4
    have hsz := hG3.size
    have HD4 : Hid (NI w w4 pd 1) := ⟨by omega, hp4s, hp4i⟩
    have hne : pn ≠ pd := by have := HN3.out.2.1; omega
    clear hg4 hp4 hp4s hp4i hsz HN3 hG3
    go_wp2_with fail
    have HL : Hid _ := lshI_c w4 pd 0 pd 0 k 1 1 2 (by omega) (by omega) (by decide) HD4.out.2.1 HD4.out.2.1 HD4.out.2.2 HD4.out.2.2
    refine Calls.mono (P := Tryd.prog) HL.out ?_
    intro e w5 hs
    obtain ⟨rfl, hG5, hN5, -, hkp⟩ := SetTo.step hG4 HD4.out hs
    have HN5 : Hid (NI w w5 pn NN) := by rw [HNN.out]; exact hkp pn S hne HN4.out
    rw [Int.one_mul, ← HDD.out] at hN5
    have HD5 : Hid (NI w w5 pd (DD : Int)) := hN5
    clear hs hN5 HL hkp HN4 HD4 hG4
    have HF : Hid _ := setFrac_c w5 bz pn 0 pd 0 s1 s2 NN DD K (by omega) HB.out.1 HB.out.2.1 HB.out.2.2 (G.lt hG5 HBZ.out) HN5.out.2.1 HD5.out.2.1 (HZ.out.G HBZ.out hG5) HN5.out.2.2 HD5.out.2.2
    clear HN5 HD5 HB HZ HBZ
    go_wp2_with fail
    refine Calls.mono (P := Tryd.prog) HF.out ?_
    intro e w6 hs
    obtain ⟨rfl, k1, k2⟩ := NormTo.after hG5 hs
    have HK2 : Hid _ := k2
    clear hs k2 HF
    go_wp2_with fail
    go_ret
    exact ⟨rfl, k1, HK2.out⟩

/-- The upper and the lower part of a float, ahead of lowest terms. -/
def frS (s : Bool) (mag : Nat) : Int := if s then -(mag : Int) else mag
def frN (s : Bool) (mag ex : Nat) : Int := frS s mag * 2 ^ (max ex 1 - 1075)
def frD (ex : Nat) : Nat := 2 ^ (1075 - max ex 1)
theorem frD_pos (ex : Nat) : 0 < frD ex := Nat.two_pow_pos _
theorem frN_abs (s : Bool) (mag ex : Nat) : (frN s mag ex).natAbs = mag * 2 ^ (max ex 1 - 1075) := by
  unfold frN frS
  rw [FT.ipow, Int.natAbs_mul, Int.natAbs_natCast]
  congr 1
  split <;> omega
theorem fr_bd (s : Bool) (mag ex K : Nat) (hm : mag < 2 ^ 53) (hex : ex < 2047) (hK : K = 40) : (frN s mag ex).natAbs < 2 ^ (32 * K) ∧ frD ex < 2 ^ (32 * K) ∧ 0 < frD ex := by
  refine ⟨?_, ?_, frD_pos ex⟩
  · rw [frN_abs]
    calc mag * 2 ^ (max ex 1 - 1075) < 2 ^ 53 * 2 ^ (max ex 1 - 1075) := Nat.mul_lt_mul_of_pos_right hm (Nat.two_pow_pos _)
      _ = 2 ^ (53 + (max ex 1 - 1075)) := by rw [Nat.pow_add]
      _ ≤ 2 ^ (32 * K) := Nat.pow_le_pow_right (by omega) (by omega)
  · unfold frD
    exact Nat.pow_lt_pow_right (by omega) (by omega)

theorem setFl_c (w : World) (bz b ex fr mag : Nat) (s1 s2 : Int) (h0 : b < 2 ^ 64) (he : b / 2 ^ 52 % 2 ^ 11 = ex) (hf : b % 2 ^ 52 = fr) (hex : ex < 2047) (hm : (if ex = 0 then fr else 2 ^ 52 + fr) = mag)
    (hbz : bz < w.heap.size) (hz : RatIs w bz s1 s2) :
    Calls Tryd.prog 34 #[.pointer (some ⟨bz, 0, none⟩), .float .f64 b] w
      (NormTo w bz (Int.tdiv (frN (FT.neg b) mag ex) (Nat.gcd (frN (FT.neg b) mag ex).natAbs (frD ex) : Nat)) (frD ex / Nat.gcd (frN (FT.neg b) mag ex).natAbs (frD ex))) := by
  obtain ⟨K, hK⟩ : ∃ K : Nat, K = 40 := ⟨_, rfl⟩
  have hfr : fr < 2 ^ 52 := by omega
  have hmg : mag < 2 ^ 53 := by rw [← hm]; split <;> omega
  have hB := fr_bd (FT.neg b) mag ex K hmg hex hK
  have hrf := FT.rung_fields b
  rw [he, hf] at hrf
  have hbw : b = FT.wrd (FT.neg b) (ex * 2 ^ 52 + fr) := by
    rw [← hrf]
    rcases FT.neg_cases b h0 with ⟨a1, a2⟩ | ⟨a1, a2⟩ <;> rw [a1] <;> exact a2
  have L1 := FT.exp_field (FT.neg b) ex fr (by omega) hfr
  rw [← hbw] at L1
  have L2 := FT.and_mask b 52 h0 (by omega)
  rw [hf, show (2 : Int) ^ 52 - 1 = 4503599627370495 from rfl] at L2
  have L4 : ((b : Int) / 9223372036854775808 == 1) = FT.neg b := by
    rcases FT.neg_cases b h0 with ⟨a1, a2⟩ | ⟨a1, a2⟩
    · have := FT.rung_lt b
      rw [a1]; simp; omega
    · have := FT.rung_lt b
      rw [a1]; simp; omega
  have hS : frS (FT.neg b) mag = if FT.neg b then -(mag : Int) else mag := rfl
  by_cases hz0 : ex = 0
  · rw [if_pos hz0] at hm
    rw [hz0] at L1
    rw [hm] at L2
    refine setFl_zero w bz b mag (frD ex) (1075 - max ex 1) _ _ _ s1 s2 K (by omega) hmg hS L1 L2 L4 (by omega) ?_ (FT.ipow _).symm hB hbz hz
    unfold frN
    rw [show max ex 1 - 1075 = 0 from by omega, Int.pow_zero, Int.mul_one]
  · rw [if_neg hz0] at hm
    have L3 := or_pow hfr (by omega : 52 ≤ 63)
    rw [Nat.add_comm, hm, show (2 : Int) ^ 52 = 4503599627370496 from rfl] at L3
    by_cases hu : 1075 ≤ ex
    · refine setFl_up w bz b ex fr mag (frD ex) (ex - 1075) _ _ _ s1 s2 K (by omega) hmg hS hex hu L1 L2 L3 L4 (by omega) ?_ ?_ hB hbz hz
      · unfold frN; rw [show max ex 1 = ex from by omega]
      · unfold frD; rw [show 1075 - max ex 1 = 0 from by omega]; rfl
    · refine setFl_dn w bz b ex fr mag (frD ex) (1075 - max ex 1) _ _ _ s1 s2 K (by omega) hmg hS (by omega) (by omega) L1 L2 L3 L4 (by omega) ?_ (FT.ipow _).symm hB hbz hz
      unfold frN
      rw [show max ex 1 - 1075 = 0 from by omega, Int.pow_zero, Int.mul_one]

/-- The reference's ratio of a float. -/
theorem ratF_c (w : World) (b ex fr mag : Nat) (h0 : b < 2 ^ 64) (he : b / 2 ^ 52 % 2 ^ 11 = ex) (hf : b % 2 ^ 52 = fr) (hex : ex < 2047) (hm : (if ex = 0 then fr else 2 ^ 52 + fr) = mag) :
    Calls Tryd.prog 11 #[.float .f64 b] w
      (RetR w (Int.tdiv (frN (FT.neg b) mag ex) (Nat.gcd (frN (FT.neg b) mag ex).natAbs (frD ex) : Nat)) (frD ex / Nat.gcd (frN (FT.neg b) mag ex).natAbs (frD ex))) := by
  have HS : Hid (∀ w1 p, p < w1.heap.size → RatIs w1 p 0 0 → _) := fun w1 p hp hr => setFl_c w1 p b ex fr mag 0 0 h0 he hf hex hm hp hr
  generalize Int.tdiv (frN (FT.neg b) mag ex) (Nat.gcd (frN (FT.neg b) mag ex).natAbs (frD ex) : Nat) = A at *
  generalize frD ex / Nat.gcd (frN (FT.neg b) mag ex).natAbs (frD ex) = B at *
  clear h0 he hf hex hm
  go_enter Tryd.func11, Tryd.ntmps11
  go_wp2_with fail
  have hr0 := rat_new w 33
  have hga := (G.refl w).alloc (.cells #[.bool false, .slice none 0 0, .bool false, .slice none 0 0] 33)
  have hzs : w.heap.size < (w.alloc (.cells #[.bool false, .slice none 0 0, .bool false, .slice none 0 0] 33)).heap.size := by simp
  have hz0 : w.heap.size ≤ w.heap.size := Nat.le_refl _
  generalize w.alloc (.cells #[.bool false, .slice none 0 0, .bool false, .slice none 0 0] 33) = w3 at *
  refine Calls.mono (P := Tryd.prog) (HS.out w3 _ hzs hr0) ?_
  intro e w4 hs
  obtain ⟨p, rfl, k1, k2, k3, k4⟩ := NormTo.ret hga hz0 hzs hs
  have HK4 : Hid (RatIs w4 p A (B : Int)) := k4
  clear hs k4 HS
  go_wp2_with fail
  go_ret
  exact ⟨p, rfl, k1, k2, k3, HK4.out⟩

end Go.Proofs.YtkelfdhpekkiaacDoor
namespace Go.Proofs.YtkelfdhpekkiaacDoor
open Go.RowKit
open BN

def two (k : Nat) : Int := ((2 ^ k : Nat) : Int)
theorem two_add (a b : Nat) : two (a + b) = two a * two b := by unfold two; rw [Nat.pow_add]; push_cast; rfl
theorem two_pos (k : Nat) : 0 < two k := by unfold two; have := Nat.two_pow_pos k; omega
theorem two_ne (k : Nat) : two k ≠ 0 := Int.ne_of_gt (two_pos k)
theorem two_zero : two 0 = 1 := rfl

/-- A / B is what a number of a sign, a size and a place is. -/
def IsR (s : Bool) (m : Nat) (p : Int) (A B : Int) : Prop := ∀ K : Nat, -(K : Int) ≤ p → A * two K = frS s m * B * two ((K : Int) + p).toNat
theorem isR_of {s : Bool} {m : Nat} {p A B : Int} (K0 : Nat) (h0 : -(K0 : Int) ≤ p) (h : A * two K0 = frS s m * B * two ((K0 : Int) + p).toNat) : IsR s m p A B := by
  intro K hK
  refine Int.eq_of_mul_eq_mul_right (two_ne K0) ?_
  have e : ((K0 : Int) + p).toNat + K = ((K : Int) + p).toNat + K0 := by omega
  calc A * two K * two K0 = A * two K0 * two K := by ac_rfl
    _ = frS s m * B * (two ((K0 : Int) + p).toNat * two K) := by rw [h]; ac_rfl
    _ = frS s m * B * (two ((K : Int) + p).toNat * two K0) := by rw [← two_add, ← two_add, e]
    _ = frS s m * B * two ((K : Int) + p).toNat * two K0 := by ac_rfl

theorem isR_float (s : Bool) (mag ex : Nat) : IsR s mag ((max ex 1 : Nat) - 1075) (frN s mag ex) (frD ex : Nat) := by
  unfold frN frD
  obtain ⟨c, hc⟩ : ∃ c : Nat, c = 1075 := ⟨_, rfl⟩
  rw [← hc, show ((max ex 1 : Nat) : Int) - 1075 = (max ex 1 : Nat) - (c : Int) from by omega]
  clear hc
  generalize max ex 1 = x
  refine isR_of (c - x) (by omega) ?_
  rw [show (((c - x : Nat) : Int) + ((x : Int) - c)).toNat = x - c from by omega]
  show frS s mag * 2 ^ (x - c) * two (c - x) = frS s mag * two (c - x) * two (x - c)
  rw [show (2 : Int) ^ (x - c) = two (x - c) from FT.ipow _]
  ac_rfl

theorem isR_low {s : Bool} {m : Nat} {p A B A' B' : Int} (h : IsR s m p A B) (hB : B ≠ 0) (hx : A' * B = A * B') : IsR s m p A' B' := by
  intro K hK
  have h1 := h K hK
  refine Int.eq_of_mul_eq_mul_right hB ?_
  calc A' * two K * B = A' * B * two K := by ac_rfl
    _ = A * two K * B' := by rw [hx]; ac_rfl
    _ = frS s m * B' * two ((K : Int) + p).toNat * B := by rw [h1]; ac_rfl

theorem frS_mul (s t : Bool) (m n : Nat) : frS (s ^^ t) (m * n) = frS s m * frS t n := by
  unfold frS
  cases s <;> cases t <;> simp [Int.mul_neg, Int.neg_mul]

theorem isR_mul {s t : Bool} {m n : Nat} {i j A B C D : Int} (h1 : IsR s m i A B) (h2 : IsR t n j C D) : IsR (s ^^ t) (m * n) (i + j) (A * C) (B * D) := by
  have k1 := h1 i.natAbs (by omega)
  have k2 := h2 j.natAbs (by omega)
  refine isR_of (i.natAbs + j.natAbs) (by omega) ?_
  rw [show (((i.natAbs + j.natAbs : Nat) : Int) + (i + j)).toNat = ((i.natAbs : Int) + i).toNat + ((j.natAbs : Int) + j).toNat from by omega, two_add, two_add, frS_mul]
  calc A * C * (two i.natAbs * two j.natAbs) = (A * two i.natAbs) * (C * two j.natAbs) := by ac_rfl
    _ = frS s m * frS t n * (B * D) * (two ((i.natAbs : Int) + i).toNat * two ((j.natAbs : Int) + j).toNat) := by rw [k1, k2]; ac_rfl

theorem signed_two (s : Bool) (m k : Nat) : Ieee.signed s m k = frS s m * two k := by
  rw [FT.signed_eq]
  unfold frS two
  cases s
  · simp
  · simp [Int.neg_mul]

theorem frS_total (x : Int) : frS (decide (x < 0)) x.natAbs = x := by
  unfold frS
  by_cases hx : x < 0
  · rw [decide_eq_true hx, if_pos rfl]; omega
  · rw [decide_eq_false hx, if_neg (by simp)]; omega

/-- The sum of two data, ahead of its sign. -/
def totalV (s t : Bool) (m n : Nat) (i j : Int) : Int := Ieee.signed s m (i - min i j).toNat + Ieee.signed t n (j - min i j).toNat
theorem isR_sum {s t : Bool} {m n : Nat} {i j A B C D : Int} (h1 : IsR s m i A B) (h2 : IsR t n j C D) :
    IsR (decide (totalV s t m n i j < 0)) (totalV s t m n i j).natAbs (min i j) (A * D + C * B) (B * D) := by
  intro K hK
  have k1 := h1 K (by omega)
  have k2 := h2 K (by omega)
  rw [frS_total]
  unfold totalV
  rw [signed_two, signed_two]
  have e1 : ((K : Int) + i).toNat = (i - min i j).toNat + ((K : Int) + min i j).toNat := by omega
  have e2 : ((K : Int) + j).toNat = (j - min i j).toNat + ((K : Int) + min i j).toNat := by omega
  rw [e1, two_add] at k1
  rw [e2, two_add] at k2
  calc (A * D + C * B) * two K = (A * two K) * D + (C * two K) * B := by rw [Int.add_mul]; ac_rfl
    _ = (frS s m * two (i - min i j).toNat + frS t n * two (j - min i j).toNat) * (B * D) * two ((K : Int) + min i j).toNat := by
        rw [k1, k2, Int.add_mul, Int.add_mul]; ac_rfl
theorem frS_zero (s : Bool) (m : Nat) : frS s m = 0 ↔ m = 0 := by unfold frS; cases s <;> simp
theorem isR_zero {s : Bool} {m : Nat} {p A B : Int} (h : IsR s m p A B) (hB : B ≠ 0) : A = 0 ↔ m = 0 := by
  have h1 := h p.natAbs (by omega)
  constructor
  · intro ha
    rw [ha, Int.zero_mul] at h1
    rcases Int.mul_eq_zero.1 h1.symm with h2 | h2
    · rcases Int.mul_eq_zero.1 h2 with h3 | h3
      · exact (frS_zero s m).1 h3
      · exact absurd h3 hB
    · exact absurd h2 (two_ne _)
  · intro hm
    rw [(frS_zero s m).2 hm, Int.zero_mul, Int.zero_mul] at h1
    rcases Int.mul_eq_zero.1 h1 with h2 | h2
    · exact h2
    · exact absurd h2 (two_ne _)
/-- The sign of the ratio (its lower part above 0). -/
theorem isR_sign {s : Bool} {m : Nat} {p A : Int} {B : Nat} (h : IsR s m p A (B : Int)) (hB : B ≠ 0) (hm : m ≠ 0) : s = decide (A < 0) := by
  have h1 := h p.natAbs (by omega)
  have hA : A ≠ 0 := fun e => hm ((isR_zero h (by omega)).1 e)
  have t1 := two_pos p.natAbs
  have t2 := two_pos ((p.natAbs : Int) + p).toNat
  generalize two p.natAbs = a at *
  generalize two ((p.natAbs : Int) + p).toNat = c at *
  cases s
  · have hp : 0 < frS false m * (B : Int) * c := by
      unfold frS; rw [if_neg (by simp)]
      exact Int.mul_pos (Int.mul_pos (by omega) (by omega)) t2
    rw [← h1] at hp
    by_cases hx : A < 0
    · have := Int.mul_neg_of_neg_of_pos hx t1; omega
    · exact (decide_eq_false hx).symm
  · have hp : 0 < (m : Int) * (B : Int) * c := Int.mul_pos (Int.mul_pos (by omega) (by omega)) t2
    have hn : A * a < 0 := by
      rw [h1]; unfold frS; rw [if_pos rfl, Int.neg_mul, Int.neg_mul]; omega
    by_cases hx : A < 0
    · exact (decide_eq_true hx).symm
    · have := Int.mul_nonneg (show 0 ≤ A by omega) (Int.le_of_lt t1); omega
/-- What is written of a number is the float nearest to its ratio. -/
theorem write_fl {s : Bool} {m : Nat} {p A : Int} {B : Nat} (h : IsR s m p A (B : Int)) (hB : B ≠ 0) (hm : m ≠ 0) : Ieee.double.nearest s m p = FT.wrd (decide (A < 0)) (flV A.natAbs B) := by
  have hs := isR_sign h hB hm
  have hA : A ≠ 0 := fun e => hm ((isR_zero h (by omega)).1 e)
  rw [← hs]
  refine nearest_fl s (by omega) hB hm ?_
  have h1 := h (-p).toNat (by omega)
  rw [show (((-p).toNat : Int) + p).toNat = p.toNat from by omega] at h1
  have h2 := congrArg Int.natAbs h1
  have ht : ∀ k, (two k).natAbs = 2 ^ k := fun k => by unfold two; exact Int.natAbs_natCast _
  rw [Int.natAbs_mul, Int.natAbs_mul, Int.natAbs_mul, ht, ht, Int.natAbs_natCast] at h2
  have h3 : (frS s m).natAbs = m := by unfold frS; cases s <;> simp
  rw [h3] at h2
  exact h2

end Go.Proofs.YtkelfdhpekkiaacDoor
namespace Go.Proofs.YtkelfdhpekkiaacDoor
open Go.RowKit
open BN

/-- The fields of a finite word. -/
structure Fin64 (b : Nat) (s : Bool) (mag ex : Nat) : Prop where
  lt : b < 2 ^ 64
  neg : FT.neg b = s
  exl : ex < 2047
  exf : b / 2 ^ 52 % 2 ^ 11 = ex
  magf : (if ex = 0 then b % 2 ^ 52 else 2 ^ 52 + b % 2 ^ 52) = mag

theorem Fin64.of {b : Nat} (h0 : b < 2 ^ 64) (h : FT.rung b < FT.infR) : ∃ mag ex, Fin64 b (FT.neg b) mag ex := by
  have hrf := FT.rung_fields b
  unfold FT.infR at h
  exact ⟨_, b / 2 ^ 52 % 2 ^ 11, h0, rfl, by omega, rfl, rfl⟩
theorem Fin64.mag_lt {b : Nat} {s : Bool} {mag ex : Nat} (h : Fin64 b s mag ex) : mag < 2 ^ 53 := by
  have := h.magf
  have h2 : b % 2 ^ 52 < 2 ^ 52 := Nat.mod_lt _ (by omega)
  rw [← this]; split <;> omega
theorem Fin64.zero {b : Nat} {s : Bool} {mag ex : Nat} (h : Fin64 b s mag ex) : mag = 0 ↔ FT.rung b = 0 := by
  have hm := h.magf
  have he := h.exf
  have hrf := FT.rung_fields b
  rw [he] at hrf
  rw [← hm]
  split <;> omega
theorem read_fin {b : Nat} {s : Bool} {mag ex : Nat} (h : Fin64 b s mag ex) : Ieee.double.read b = .number s mag ((max ex 1 : Nat) - 1075) := by
  obtain ⟨h0, hs, hex, he, hm⟩ := h
  have hrf := FT.rung_fields b
  obtain ⟨fr, hf⟩ : ∃ fr, b % 2 ^ 52 = fr := ⟨_, rfl⟩
  rw [he, hf] at hrf
  rw [hf] at hm
  have hfr : fr < 2 ^ 52 := by rw [← hf]; exact Nat.mod_lt _ (by omega)
  have hbw : b = FT.wrd s (ex * 2 ^ 52 + fr) := by
    rw [← hrf, ← hs]
    rcases FT.neg_cases b h0 with ⟨a1, a2⟩ | ⟨a1, a2⟩ <;> rw [a1] <;> exact a2
  by_cases hz : ex = 0
  · rw [if_pos hz] at hm
    rw [hbw, hz, Nat.zero_mul, Nat.zero_add, FT.read_sub s fr hfr, hm]
    rfl
  · rw [if_neg hz] at hm
    rw [hbw, FT.read_nor s ex fr (by omega) hex hfr, hm, show max ex 1 = ex from by omega]

theorem mul_fl {x y : Nat} {s t : Bool} {m n e f : Nat} (hx : Fin64 x s m e) (hy : Fin64 y t n f) {A : Int} {B : Nat} (hB : B ≠ 0) (hr : A * ((frD e : Int) * frD f) = frN s m e * frN t n f * B) :
    Ieee.double.mul x y = some (if A = 0 then FT.wrd (s ^^ t) 0 else FT.wrd (decide (A < 0)) (flV A.natAbs B)) := by
  unfold Ieee.Format.mul
  rw [read_fin hx, read_fin hy]
  have hE : (frD e : Int) ≠ 0 := by have := frD_pos e; omega
  have hF : (frD f : Int) ≠ 0 := by have := frD_pos f; omega
  have h := isR_low (isR_mul (isR_float s m e) (isR_float t n f)) (Int.mul_ne_zero hE hF) hr
  show some (Ieee.double.nearest (s ^^ t) (m * n) _) = _
  congr 1
  by_cases hA : A = 0
  · have hm := (isR_zero h (by omega)).1 hA
    rw [if_pos hA, hm]
    unfold Ieee.Format.nearest
    rw [if_pos rfl, FT.word_eq]
  · have hm : m * n ≠ 0 := fun e => hA ((isR_zero h (by omega)).2 e)
    rw [if_neg hA]
    exact write_fl h hB hm

theorem sum_fl {s t : Bool} {m n : Nat} {i j a b : Int} {c d : Int} {A : Int} {B : Nat} (h1 : IsR s m i a b) (h2 : IsR t n j c d) (hb : b ≠ 0) (hd : d ≠ 0) (hB : B ≠ 0) (hr : A * (b * d) = (a * d + c * b) * B) :
    ((Ieee.Datum.number s m i).sum (.number t n j)).map Ieee.double.write = some (if A = 0 then FT.wrd (s && t) 0 else FT.wrd (decide (A < 0)) (flV A.natAbs B)) := by
  have h := isR_low (isR_sum h1 h2) (Int.mul_ne_zero hb hd) hr
  have hz := isR_zero h (by omega)
  have e : (Ieee.Datum.number s m i).sum (.number t n j) = some (.number (if totalV s t m n i j = 0 then s && t else decide (totalV s t m n i j < 0)) (totalV s t m n i j).natAbs (min i j)) := rfl
  rw [e]
  show some (Ieee.double.nearest _ _ _) = _
  congr 1
  generalize totalV s t m n i j = T at *
  by_cases hA : A = 0
  · have hm := hz.1 hA
    have hT : T = 0 := by omega
    rw [if_pos hA, if_pos hT, hm]
    unfold Ieee.Format.nearest
    rw [if_pos rfl, FT.word_eq]
  · have hm : T.natAbs ≠ 0 := fun e => hA (hz.2 e)
    rw [if_neg hA, if_neg (by omega)]
    exact write_fl h hB hm

theorem add_fl {x y : Nat} {s t : Bool} {m n e f : Nat} (hx : Fin64 x s m e) (hy : Fin64 y t n f) {A : Int} {B : Nat} (hB : B ≠ 0) (hr : A * ((frD e : Int) * frD f) = (frN s m e * frD f + frN t n f * frD e) * B) :
    Ieee.double.add x y = some (if A = 0 then FT.wrd (s && t) 0 else FT.wrd (decide (A < 0)) (flV A.natAbs B)) := by
  unfold Ieee.Format.add
  rw [read_fin hx, read_fin hy]
  have hE : (frD e : Int) ≠ 0 := by have := frD_pos e; omega
  have hF : (frD f : Int) ≠ 0 := by have := frD_pos f; omega
  exact sum_fl (isR_float s m e) (isR_float t n f) hE hF hB hr

theorem fma_fl {x y z : Nat} {s t u : Bool} {m n l e f g : Nat} (hx : Fin64 x s m e) (hy : Fin64 y t n f) (hz : Fin64 z u l g) {A : Int} {B : Nat} (hB : B ≠ 0)
    (hr : A * ((frD e : Int) * frD f * frD g) = (frN s m e * frN t n f * frD g + frN u l g * ((frD e : Int) * frD f)) * B) :
    Ieee.double.fma x y z = some (if A = 0 then FT.wrd ((s ^^ t) && u) 0 else FT.wrd (decide (A < 0)) (flV A.natAbs B)) := by
  unfold Ieee.Format.fma
  rw [read_fin hx, read_fin hy, read_fin hz]
  have hE : (frD e : Int) ≠ 0 := by have := frD_pos e; omega
  have hF : (frD f : Int) ≠ 0 := by have := frD_pos f; omega
  have hG : (frD g : Int) ≠ 0 := by have := frD_pos g; omega
  show ((Ieee.Datum.number (s ^^ t) (m * n) _).sum (.number u l _)).map Ieee.double.write = _
  exact sum_fl (isR_mul (isR_float s m e) (isR_float t n f)) (isR_float u l g) (Int.mul_ne_zero hE hF) hG hB hr

end Go.Proofs.YtkelfdhpekkiaacDoor
namespace Go.Proofs.YtkelfdhpekkiaacDoor.EA
open Go.RowKit
open BN

theorem roundQ_half_le {N D : Nat} (hD : 0 < D) : 2 * N ≤ 2 * (roundQ N D * D) + D ∧ 2 * (roundQ N D * D) ≤ 2 * N + D := by
  have hm := Nat.div_add_mod N D
  have hl := Nat.mod_lt N hD
  rw [Nat.mul_comm] at hm
  unfold roundQ
  generalize N / D = q at *
  generalize N % D = r at *
  split
  · rw [Nat.add_mul, Nat.one_mul]; generalize q * D = X at *; omega
  · rw [Nat.add_zero]; generalize q * D = X at *; omega

/-- The place of a float among the floats from 0 on, and its number. -/
theorem v_made {N k : Nat} (hN : N ≤ 2 ^ 53) (h : k = 0 ∨ 2 ^ 52 ≤ N) : FT.v (k * 2 ^ 52 + N) = N * 2 ^ k := by
  by_cases h1 : N < 2 ^ 52
  · obtain rfl : k = 0 := by omega
    rw [Nat.zero_mul, Nat.zero_add, FT.v_sub h1, Nat.pow_zero, Nat.mul_one]
  · rw [FT.v_nor (by omega)]
    by_cases h2 : N < 2 ^ 53
    · rw [show (k * 2 ^ 52 + N) % 2 ^ 52 = N - 2 ^ 52 from by omega, show (k * 2 ^ 52 + N) / 2 ^ 52 - 1 = k from by omega, show 2 ^ 52 + (N - 2 ^ 52) = N from by omega]
    · rw [show (k * 2 ^ 52 + N) % 2 ^ 52 = 0 from by omega, show (k * 2 ^ 52 + N) / 2 ^ 52 - 1 = k + 1 from by omega, show N = 2 ^ 52 * 2 from by omega, Nat.add_zero, Nat.pow_succ 2 k, Nat.mul_comm (2 ^ k) 2, Nat.mul_assoc]

/-- A ratio's nearest float, told by its digits. -/
theorem flV_told {A B : Nat} (hA : A ≠ 0) (hB : B ≠ 0) (u : Nat) (hu : u = 1074) : ∃ N k : Nat, flV A B = min (k * 2 ^ 52 + N) FT.infR ∧ N ≤ 2 ^ 53 ∧ (k = 0 ∨ 2 ^ 52 ≤ N) ∧
    2 * (A * 2 ^ u) ≤ 2 * (N * 2 ^ k * B) + 2 ^ k * B ∧ 2 * (N * 2 ^ k * B) ≤ 2 * (A * 2 ^ u) + 2 ^ k * B ∧ (k = 0 ∨ 2 ^ 52 * 2 ^ k * B ≤ A * 2 ^ u) ∧ expo A B ≤ (k : Int) - u + 52 := by
  have hl : -(u : Int) ≤ lastP A B := by unfold lastP; omega
  obtain ⟨k, hk⟩ : ∃ k : Nat, k = (lastP A B + 1074).toNat := ⟨_, rfl⟩
  have hk2 : ((u : Int) + lastP A B).toNat = k := by rw [hk]; congr 1; omega
  have hp := Nat.two_pow_pos k
  have hBk : 0 < B * 2 ^ k := Nat.mul_pos (by omega) hp
  have hQ : nearQ A B (lastP A B) = roundQ (A * 2 ^ u) (B * 2 ^ k) := by
    obtain ⟨c, h1, h2⟩ := shift_up (X := A) (Y := B) u hl
    rw [hk2] at h2
    rw [h1, h2, roundQ_mul _ _ _ (Nat.two_pow_pos c)]
    rfl
  have hlow : k = 0 ∨ 2 ^ 52 * 2 ^ k * B ≤ A * 2 ^ u := by
    by_cases h0 : k = 0
    · exact Or.inl h0
    · refine Or.inr ?_
      have he : lastP A B = expo A B - 52 := by unfold lastP at hk ⊢; omega
      have := expo_le hA hB u (by omega)
      rw [show ((u : Int) + expo A B).toNat = 52 + k from by omega, Nat.pow_add] at this
      rw [Nat.mul_comm]; exact this
  have hup : A * 2 ^ u < 2 ^ 53 * (B * 2 ^ k) := by
    by_cases hx : -(u : Int) ≤ expo A B
    · have := expo_lt hA hB u hx
      refine Nat.lt_of_lt_of_le this ?_
      rw [show 2 ^ 53 * (B * 2 ^ k) = B * (2 ^ 53 * 2 ^ k) from by ac_rfl, ← Nat.pow_add]
      refine Nat.mul_le_mul_left _ (Nat.pow_le_pow_right (by omega) ?_)
      unfold lastP at hk
      omega
    · obtain ⟨U, hU⟩ : ∃ U : Nat, -(U : Int) ≤ expo A B ∧ u ≤ U := ⟨(expo A B).natAbs + u, by omega, by omega⟩
      have := expo_lt hA hB U hU.1
      have e1 : 2 ^ U = 2 ^ u * 2 ^ (U - u) := by rw [← Nat.pow_add]; congr 1; omega
      have hle : 2 ^ ((U : Int) + (expo A B + 1)).toNat ≤ 2 ^ (U - u) := Nat.pow_le_pow_right (by omega) (by omega)
      have h3 : A * 2 ^ u * 2 ^ (U - u) < B * 2 ^ (U - u) := by
        rw [Nat.mul_assoc, ← e1]
        exact Nat.lt_of_lt_of_le this (Nat.mul_le_mul_left _ hle)
      have h4 := Nat.lt_of_mul_lt_mul_right h3
      have h5 : B * 1 ≤ B * 2 ^ k := Nat.mul_le_mul_left _ hp
      omega
  obtain ⟨N, hN⟩ : ∃ N, N = roundQ (A * 2 ^ u) (B * 2 ^ k) := ⟨_, rfl⟩
  obtain ⟨r1, r2⟩ := roundQ_half_le (N := A * 2 ^ u) hBk
  rw [← hN] at r1 r2
  refine ⟨N, k, ?_, ?_, ?_, ?_, ?_, hlow, ?_⟩
  · unfold flV
    rw [← hk, hQ, ← hN]
    rfl
  · rw [hN]; exact roundQ_le hup
  · rcases hlow with h | h
    · exact Or.inl h
    · refine Or.inr ?_
      rw [hN]
      refine roundQ_ge hBk ?_
      rw [show 2 ^ 52 * (B * 2 ^ k) = 2 ^ 52 * 2 ^ k * B from by ac_rfl]
      exact h
  · rw [show N * 2 ^ k * B = N * (B * 2 ^ k) from by ac_rfl, Nat.mul_comm (2 ^ k) B]; exact r1
  · rw [show N * 2 ^ k * B = N * (B * 2 ^ k) from by ac_rfl, Nat.mul_comm (2 ^ k) B]; exact r2
  · unfold lastP at hk; omega

/-- The greatest float's number is below this. -/
def top : Nat := FT.v FT.infR
theorem lt_top {r : Nat} : FT.v r < top ↔ r < FT.infR := by
  unfold top
  constructor
  · intro h
    by_cases hx : r < FT.infR
    · exact hx
    · have := FT.v_le.2 (show FT.infR ≤ r by omega); omega
  · exact FT.v_lt

/-- Where the ratio is a whole number of units. -/
theorem flV_units {A B n u : Nat} (hA : A ≠ 0) (hB : B ≠ 0) (hu : u = 1074) (h : A * 2 ^ u = n * B) : (flV A B < FT.infR → IsRn n (FT.v (flV A B))) ∧ (Rp n → n < top → flV A B < FT.infR) := by
  obtain ⟨N, k, h1, h2, h3, h4, h5, h6, _⟩ := flV_told hA hB u hu
  have hv := v_made h2 h3
  rw [h] at h4 h5 h6
  have hBp : 0 < B := by omega
  have f1 : 2 * n ≤ 2 * (N * 2 ^ k) + 2 ^ k := by
    refine Nat.le_of_mul_le_mul_right (c := B) ?_ hBp
    rw [Nat.add_mul, Nat.mul_assoc, Nat.mul_assoc 2 (N * 2 ^ k) B]; exact h4
  have f2 : 2 * (N * 2 ^ k) ≤ 2 * n + 2 ^ k := by
    refine Nat.le_of_mul_le_mul_right (c := B) ?_ hBp
    rw [Nat.add_mul, Nat.mul_assoc, Nat.mul_assoc 2 n B]; exact h5
  have f3 : k = 0 ∨ 2 ^ 52 * 2 ^ k ≤ n := by
    rcases h6 with h | h
    · exact Or.inl h
    · exact Or.inr (Nat.le_of_mul_le_mul_right h hBp)
  have hR : IsRn n (FT.v (k * 2 ^ 52 + N)) := by rw [hv]; exact ⟨N, k, rfl, h2, f1, f2, f3⟩
  constructor
  · intro hx
    rw [h1] at hx ⊢
    rw [show min (k * 2 ^ 52 + N) FT.infR = k * 2 ^ 52 + N from by omega]
    exact hR
  · intro hr hn
    have := hR.self hr
    rw [h1]
    have := lt_top.1 (show FT.v (k * 2 ^ 52 + N) < top by omega)
    omega

/-- A float's number has at most 53 digits. -/
theorem v_rp (r : Nat) : Rp (FT.v r) := by
  by_cases h : r < 2 ^ 52
  · rw [FT.v_sub h]; exact rp_small (by omega)
  · rw [FT.v_nor h]; exact rp_of (by omega)
end Go.Proofs.YtkelfdhpekkiaacDoor.EA
namespace Go.Proofs.YtkelfdhpekkiaacDoor.EA
open Go.RowKit
open BN

/-- A number cut to whole digits with one more digit that tells whether anything is left: where it lies among even numbers. -/
theorem sticky {q n r D c : Nat} (hD : D = q * n + r) (hr : r < n) (hc : c = (r != 0).toNat) (t : Nat) : (2 * t ≤ 2 * q + c ↔ t * n ≤ D) ∧ (2 * q + c ≤ 2 * t ↔ D ≤ t * n) := by
  have hc2 : (c = 0 ∧ r = 0) ∨ (c = 1 ∧ 0 < r) := by
    rcases Nat.eq_zero_or_pos r with h | h
    · left; subst h; exact ⟨hc, rfl⟩
    · right
      have : (r != 0) = true := by simp; omega
      rw [this] at hc
      exact ⟨hc, h⟩
  have key : ∀ a b : Nat, a < b → a * n + n ≤ b * n := by
    intro a b h
    have := Nat.mul_le_mul_right n h
    rw [Nat.succ_mul] at this
    exact this
  rcases Nat.lt_trichotomy t q with h | h | h
  · have := key _ _ h
    constructor <;> constructor <;> intro hx <;> omega
  · subst h
    constructor <;> constructor <;> intro hx <;> omega
  · have := key _ _ h
    constructor <;> constructor <;> intro hx <;> omega

/-- Digits of the nearest word to q 2^e, q of at least 55 digits: how far q is. -/
theorem near_told {q : Nat} {e : Int} (s : Bool) (hq : 2 ^ 54 ≤ q) (u : Nat) (hu : u = 1074) : ∃ N k h : Nat, Ieee.double.nearest s q e = FT.wrd s (min (k * 2 ^ 52 + N) FT.infR) ∧ N ≤ 2 ^ 53 ∧ (k = 0 ∨ 2 ^ 52 ≤ N) ∧
    ((k : Int) = h + 2 + u + e) ∧ q ≤ 2 * (N * 2 * 2 ^ h + 2 ^ h) ∧ N * 4 * 2 ^ h ≤ q + 2 * 2 ^ h ∧ (k = 0 ∨ 2 * (2 ^ 52 * 2 * 2 ^ h) ≤ q) := by
  have h0 : q ≠ 0 := by omega
  have hA : q * 2 ^ e.toNat ≠ 0 := Nat.mul_ne_zero h0 (Nat.ne_of_gt (Nat.two_pow_pos _))
  have hB : 2 ^ (-e).toNat ≠ 0 := Nat.ne_of_gt (Nat.two_pow_pos _)
  have hx : q * 2 ^ e.toNat * 2 ^ (-e).toNat = q * 2 ^ (-e).toNat * 2 ^ e.toNat := by ac_rfl
  have hn := nearest_fl s hA hB h0 hx
  have hE := expo_of hA hB h0 hx
  obtain ⟨N, k, t1, t2, t3, t4, t5, t6, t7⟩ := flV_told hA hB u hu
  have hl : 54 ≤ q.log2 := by
    by_cases hx : 54 ≤ q.log2
    · exact hx
    · have := Nat.lt_log2_self (n := q)
      have h2 : 2 ^ (q.log2 + 1) ≤ 2 ^ 54 := Nat.pow_le_pow_right (by omega) (by omega)
      omega
  obtain ⟨h, hh⟩ : ∃ h : Nat, (k : Int) = h + 2 + u + e := ⟨((k : Int) - 2 - u - e).toNat, by omega⟩
  have e1 : 2 ^ k * 2 ^ (-e).toNat = 4 * 2 ^ h * (2 ^ e.toNat * 2 ^ u) := by
    rw [show (4 : Nat) = 2 ^ 2 from rfl, ← Nat.pow_add, ← Nat.pow_add, ← Nat.pow_add, ← Nat.pow_add]
    congr 1
    omega
  have hP : 0 < 2 ^ e.toNat * 2 ^ u := Nat.mul_pos (Nat.two_pow_pos _) (Nat.two_pow_pos _)
  have a1 : q * 2 ^ e.toNat * 2 ^ u = q * (2 ^ e.toNat * 2 ^ u) := by ac_rfl
  have a2 : N * 2 ^ k * 2 ^ (-e).toNat = N * (4 * 2 ^ h * (2 ^ e.toNat * 2 ^ u)) := by rw [Nat.mul_assoc, e1]
  have a3 : 2 ^ 52 * 2 ^ k * 2 ^ (-e).toNat = 2 ^ 52 * (4 * 2 ^ h * (2 ^ e.toNat * 2 ^ u)) := by rw [Nat.mul_assoc, e1]
  rw [a1, a2, e1] at t4 t5
  rw [a1, a3] at t6
  generalize 2 ^ e.toNat * 2 ^ u = P at *
  refine ⟨N, k, h, by rw [hn, t1], t2, t3, hh, ?_, ?_, ?_⟩
  · refine Nat.le_of_mul_le_mul_right (c := P) ?_ hP
    have b1 : N * (4 * 2 ^ h * P) = 4 * (N * 2 ^ h * P) := by ac_rfl
    have b2 : 2 * (N * 2 * 2 ^ h + 2 ^ h) * P = 4 * (N * 2 ^ h * P) + 2 * (2 ^ h * P) := by
      rw [Nat.mul_add, Nat.add_mul, show 2 * (N * 2 * 2 ^ h) * P = 2 * 2 * (N * 2 ^ h * P) from by ac_rfl, Nat.mul_assoc 2 (2 ^ h) P]
    have b3 : 4 * 2 ^ h * P = 4 * (2 ^ h * P) := by ac_rfl
    rw [b1, b3] at t4
    rw [b2]; omega
  · refine Nat.le_of_mul_le_mul_right (c := P) ?_ hP
    have b1 : N * (4 * 2 ^ h * P) = 4 * (N * 2 ^ h * P) := by ac_rfl
    have b2 : N * 4 * 2 ^ h * P = 4 * (N * 2 ^ h * P) := by ac_rfl
    have b3 : 4 * 2 ^ h * P = 4 * (2 ^ h * P) := by ac_rfl
    rw [b1, b3] at t5
    rw [b2, Nat.add_mul, Nat.mul_assoc 2 (2 ^ h) P]; omega
  · rcases t6 with t6 | t6
    · exact Or.inl t6
    · refine Or.inr (Nat.le_of_mul_le_mul_right (c := P) ?_ hP)
      have b1 : 2 ^ 52 * (4 * 2 ^ h * P) = 2 ^ 52 * 4 * (2 ^ h * P) := by ac_rfl
      have b2 : 2 * (2 ^ 52 * 2 * 2 ^ h) * P = 2 * (2 ^ 52 * 2) * (2 ^ h * P) := by ac_rfl
      rw [b2, show 2 * (2 ^ 52 * 2) = 2 ^ 52 * 4 from rfl, ← b1]; exact t6

/-- IEEE's quotient, told by its digits: m 2^(i + u) and n 2^(j + u) are the two in units of the lowest place. -/
theorem quot_told {m n : Nat} {i j : Int} (s t : Bool) (hm : m ≠ 0) (hn : n ≠ 0) (hm2 : m < 2 ^ 53) (hn2 : n < 2 ^ 53) (u : Nat) (hu : u = 1074) (hi : -(u : Int) ≤ i) (hj : -(u : Int) ≤ j) :
    ∃ N k : Nat, ((Ieee.Datum.number s m i).quotient 54 (.number t n j)).map Ieee.double.write = some (FT.wrd (s ^^ t) (min (k * 2 ^ 52 + N) FT.infR)) ∧ N ≤ 2 ^ 53 ∧ (k = 0 ∨ 2 ^ 52 ≤ N) ∧
      2 * (m * 2 ^ (i + u).toNat * 2 ^ u) ≤ 2 * (N * 2 ^ k * (n * 2 ^ (j + u).toNat)) + 2 ^ k * (n * 2 ^ (j + u).toNat) ∧
      2 * (N * 2 ^ k * (n * 2 ^ (j + u).toNat)) ≤ 2 * (m * 2 ^ (i + u).toNat * 2 ^ u) + 2 ^ k * (n * 2 ^ (j + u).toNat) ∧
      (k = 0 ∨ 2 ^ 52 * 2 ^ k * (n * 2 ^ (j + u).toNat) ≤ m * 2 ^ (i + u).toNat * 2 ^ u) := by
  obtain ⟨more, hmore⟩ : ∃ more, more = 54 + n.log2 - m.log2 := ⟨_, rfl⟩
  have lm1 := Nat.log2_self_le hm
  have ln1 := Nat.log2_self_le hn
  have ln2 := Nat.lt_log2_self (n := n)
  have hlm : m.log2 ≤ 52 := by
    have : 2 ^ m.log2 < 2 ^ 53 := by omega
    have := (Nat.pow_lt_pow_iff_right (by omega : 1 < 2)).1 this
    omega
  have hln : n.log2 ≤ 52 := by
    have : 2 ^ n.log2 < 2 ^ 53 := by omega
    have := (Nat.pow_lt_pow_iff_right (by omega : 1 < 2)).1 this
    omega
  obtain ⟨D, hD⟩ : ∃ D, D = m * 2 ^ more := ⟨_, rfl⟩
  have hq0 : 2 ^ 53 ≤ D / n := by
    rw [Nat.le_div_iff_mul_le (by omega)]
    have h1 : 2 ^ 53 * n ≤ 2 ^ 53 * 2 ^ (n.log2 + 1) := Nat.mul_le_mul_left _ (by omega)
    have h2 : 2 ^ m.log2 * 2 ^ more ≤ D := by rw [hD]; exact Nat.mul_le_mul_right _ lm1
    have h3 : 2 ^ 53 * 2 ^ (n.log2 + 1) = 2 ^ m.log2 * 2 ^ more := by rw [← Nat.pow_add, ← Nat.pow_add]; congr 1; omega
    omega
  obtain ⟨q, hq⟩ : ∃ q, q = 2 * (D / n) + (D % n != 0).toNat := ⟨_, rfl⟩
  have hS := sticky (q := D / n) (r := D % n) (n := n) (D := D) (by rw [Nat.mul_comm]; exact (Nat.div_add_mod D n).symm) (Nat.mod_lt _ (by omega)) rfl
  rw [← hq] at hS
  obtain ⟨N, k, h, g1, g2, g3, g4, g5, g6, g7⟩ := near_told (q := q) (e := i - j - (more : Int) - 1) (s ^^ t) (by omega) u hu
  have hw : ∃ w : Nat, (w : Int) = i + 2 * u - more - 1 := ⟨(i + 2 * u - more - 1).toNat, by omega⟩
  obtain ⟨w, hw⟩ := hw
  have e1 : m * 2 ^ (i + u).toNat * 2 ^ u = 2 * (D * 2 ^ w) := by
    rw [hD, Nat.mul_assoc, ← Nat.pow_add, Nat.mul_assoc, ← Nat.pow_add, show (i + u).toNat + u = more + w + 1 from by omega, Nat.pow_succ]
    ac_rfl
  have e2 : 2 ^ k * (n * 2 ^ (j + u).toNat) = 4 * (2 ^ h * n * 2 ^ w) := by
    have : 2 ^ k * 2 ^ (j + u).toNat = 4 * (2 ^ h * 2 ^ w) := by
      rw [show (4 : Nat) = 2 ^ 2 from rfl, ← Nat.pow_add, ← Nat.pow_add, ← Nat.pow_add]; congr 1; omega
    calc 2 ^ k * (n * 2 ^ (j + u).toNat) = (2 ^ k * 2 ^ (j + u).toNat) * n := by ac_rfl
      _ = 4 * (2 ^ h * 2 ^ w) * n := by rw [this]
      _ = 4 * (2 ^ h * n * 2 ^ w) := by ac_rfl
  have e3 : N * 2 ^ k * (n * 2 ^ (j + u).toNat) = 4 * (N * 2 ^ h * n * 2 ^ w) := by
    rw [Nat.mul_assoc, e2]; ac_rfl
  have e4 : 2 ^ 52 * 2 ^ k * (n * 2 ^ (j + u).toNat) = 4 * (2 ^ 52 * 2 ^ h * n * 2 ^ w) := by
    rw [Nat.mul_assoc, e2]
    generalize (2 : Nat) ^ 52 = c
    ac_rfl
  refine ⟨N, k, ?_, g2, g3, ?_, ?_, ?_⟩
  · unfold Ieee.Datum.quotient
    simp only []
    rw [if_neg hn, ← hmore, Nat.shiftLeft_eq, ← hD, ← hq]
    show some (Ieee.double.nearest _ _ _) = _
    rw [g1]
  · rw [e1, e2, e3]
    have := (hS (N * 2 * 2 ^ h + 2 ^ h)).2.1 g5
    have h2 := Nat.mul_le_mul_right (2 ^ w) this
    have h3 : (N * 2 * 2 ^ h + 2 ^ h) * n * 2 ^ w = 2 * (N * 2 ^ h * n * 2 ^ w) + 2 ^ h * n * 2 ^ w := by
      rw [Nat.add_mul, Nat.add_mul]
      congr 1
      ac_rfl
    rw [h3] at h2
    omega
  · rw [e1, e2, e3]
    rcases Nat.eq_zero_or_pos N with rfl | hN0
    · simp
    · obtain ⟨M, rfl⟩ : ∃ M, N = M + 1 := ⟨N - 1, by omega⟩
      have hx : 2 * (M * 2 * 2 ^ h + 2 ^ h) ≤ q := by
        have : (M + 1) * 4 * 2 ^ h = M * 4 * 2 ^ h + 4 * 2 ^ h := by rw [Nat.add_mul, Nat.add_mul, Nat.one_mul]
        have : 2 * (M * 2 * 2 ^ h) = M * 4 * 2 ^ h := by rw [show (4 : Nat) = 2 * 2 from rfl]; ac_rfl
        omega
      have := (hS (M * 2 * 2 ^ h + 2 ^ h)).1.1 hx
      have h2 := Nat.mul_le_mul_right (2 ^ w) this
      have h3 : (M * 2 * 2 ^ h + 2 ^ h) * n * 2 ^ w = 2 * (M * 2 ^ h * n * 2 ^ w) + 2 ^ h * n * 2 ^ w := by
        rw [Nat.add_mul, Nat.add_mul]
        congr 1
        ac_rfl
      have h4 : (M + 1) * 2 ^ h * n * 2 ^ w = M * 2 ^ h * n * 2 ^ w + 2 ^ h * n * 2 ^ w := by rw [Nat.add_mul, Nat.add_mul, Nat.add_mul, Nat.one_mul]
      rw [h3] at h2
      rw [h4]
      omega
  · rcases g7 with g7 | g7
    · exact Or.inl g7
    · refine Or.inr ?_
      rw [e1, e4]
      have := (hS (2 ^ 52 * 2 * 2 ^ h)).1.1 g7
      have h2 := Nat.mul_le_mul_right (2 ^ w) this
      have h3 : 2 ^ 52 * 2 * 2 ^ h * n * 2 ^ w = 2 * (2 ^ 52 * 2 ^ h * n * 2 ^ w) := by
        generalize (2 : Nat) ^ 52 = c
        ac_rfl
      rw [h3] at h2
      omega

theorem rootFrom_ok (n : Nat) : ∀ (todo root : Nat), root * root ≤ n → n < (root + 2 ^ todo) * (root + 2 ^ todo) → Ieee.Datum.rootFrom n todo root * Ieee.Datum.rootFrom n todo root ≤ n ∧ n < (Ieee.Datum.rootFrom n todo root + 1) * (Ieee.Datum.rootFrom n todo root + 1)
  | 0, root, h1, h2 => ⟨h1, by simpa [Ieee.Datum.rootFrom] using h2⟩
  | todo + 1, root, h1, h2 => by
    have e2 : Ieee.Datum.rootFrom n (todo + 1) root = Ieee.Datum.rootFrom n todo (if (root + 2 ^ todo) * (root + 2 ^ todo) ≤ n then root + 2 ^ todo else root) := by
      rw [Ieee.Datum.rootFrom, Nat.shiftLeft_eq, Nat.one_mul]
    rw [e2]
    have e : root + 2 ^ (todo + 1) = root + 2 ^ todo + 2 ^ todo := by rw [Nat.pow_succ]; omega
    rw [e] at h2
    split
    · exact rootFrom_ok n todo _ (by assumption) h2
    · exact rootFrom_ok n todo _ h1 (by omega)

/-- IEEE's root, told by its digits: m 2^(i + u) is the number in units of the lowest place. -/
theorem root_told {m : Nat} {i : Int} (hm : m ≠ 0) (hm2 : m < 2 ^ 53) (u : Nat) (hu : u = 1074) (hi : -(u : Int) ≤ i) :
    ∃ N k : Nat, ((Ieee.Datum.number false m i).root 54).map Ieee.double.write = some (FT.wrd false (min (k * 2 ^ 52 + N) FT.infR)) ∧ N ≤ 2 ^ 53 ∧ (k = 0 ∨ 2 ^ 52 ≤ N) ∧
      4 * (m * 2 ^ (i + u).toNat * 2 ^ u) ≤ (2 * (N * 2 ^ k) + 2 ^ k) * (2 * (N * 2 ^ k) + 2 ^ k) ∧
      (0 < N → (2 * (N * 2 ^ k) - 2 ^ k) * (2 * (N * 2 ^ k) - 2 ^ k) ≤ 4 * (m * 2 ^ (i + u).toNat * 2 ^ u)) ∧
      (k = 0 ∨ 2 ^ 52 * 2 ^ k * (2 ^ 52 * 2 ^ k) ≤ m * 2 ^ (i + u).toNat * 2 ^ u) := by
  have lm1 := Nat.log2_self_le hm
  have hlm : m.log2 ≤ 52 := by
    have : 2 ^ m.log2 < 2 ^ 53 := by omega
    have := (Nat.pow_lt_pow_iff_right (by omega : 1 < 2)).1 this
    omega
  obtain ⟨more0, hmore0⟩ : ∃ more0, more0 = 2 * 54 - m.log2 := ⟨_, rfl⟩
  obtain ⟨more, hmore⟩ : ∃ more, more = more0 + ((i - more0) % 2).toNat := ⟨_, rfl⟩
  obtain ⟨n, hn⟩ : ∃ n, n = m * 2 ^ more := ⟨_, rfl⟩
  obtain ⟨e, he⟩ : ∃ e : Int, e = (i - more) / 2 - 1 := ⟨_, rfl⟩
  have he2 : i - more = 2 * e + 2 := by omega
  have hn1 : 2 ^ 108 ≤ n := by
    have h2 : 2 ^ m.log2 * 2 ^ more ≤ n := by rw [hn]; exact Nat.mul_le_mul_right _ lm1
    rw [← Nat.pow_add] at h2
    exact Nat.le_trans (Nat.pow_le_pow_right (by omega) (by omega)) h2
  obtain ⟨whole, hwh⟩ : ∃ whole, whole = Ieee.Datum.rootFrom n (n.log2 / 2 + 1) 0 := ⟨_, rfl⟩
  have hroot : whole * whole ≤ n ∧ n < (whole + 1) * (whole + 1) := by
    rw [hwh]
    refine rootFrom_ok n _ 0 (by simp) ?_
    have := Nat.lt_log2_self (n := n)
    refine Nat.lt_of_lt_of_le this ?_
    rw [Nat.zero_add, ← Nat.pow_add]
    exact Nat.pow_le_pow_right (by omega) (by omega)
  have hw54 : 2 ^ 54 ≤ whole := by
    by_cases hx : 2 ^ 54 ≤ whole
    · exact hx
    · exfalso
      have : (whole + 1) * (whole + 1) ≤ 2 ^ 54 * 2 ^ 54 := Nat.mul_le_mul (by omega) (by omega)
      rw [← Nat.pow_add] at this
      omega
  obtain ⟨q, hq⟩ : ∃ q, q = 2 * whole + (whole * whole != n).toNat := ⟨_, rfl⟩
  have hS : ∀ t : Nat, (2 * t ≤ q ↔ t * t ≤ n) ∧ (q ≤ 2 * t ↔ n ≤ t * t) := by
    intro t
    have hc2 : (q = 2 * whole ∧ whole * whole = n) ∨ (q = 2 * whole + 1 ∧ whole * whole < n) := by
      by_cases h : whole * whole = n
      · left
        have : (whole * whole != n) = false := by simp [h]
        rw [this] at hq
        exact ⟨hq, h⟩
      · right
        have : (whole * whole != n) = true := by simp [h]
        rw [this] at hq
        exact ⟨hq, by omega⟩
    have key : ∀ a b : Nat, a < b → (a + 1) * (a + 1) ≤ b * b := fun a b h => Nat.mul_le_mul h h
    have key2 : ∀ a : Nat, (a + 1) * (a + 1) = a * a + 2 * a + 1 := by intro a; rw [Nat.add_mul, Nat.mul_add]; omega
    rcases Nat.lt_trichotomy t whole with h | h | h
    · have := key _ _ h
      have := key2 t
      constructor <;> constructor <;> intro hx <;> omega
    · subst h
      constructor <;> constructor <;> intro hx <;> omega
    · have := key _ _ h
      constructor <;> constructor <;> intro hx <;> omega
  obtain ⟨N, k, h, g1, g2, g3, g4, g5, g6, g7⟩ := near_told (q := q) (e := e) false (by omega) u hu
  obtain ⟨w, hw⟩ : ∃ w : Nat, (w : Int) = 2 * u + i - more - 2 := ⟨(2 * (u : Int) + i - more - 2).toNat, by omega⟩
  have e1 : m * 2 ^ (i + u).toNat * 2 ^ u = 4 * (n * 2 ^ w) := by
    rw [hn, Nat.mul_assoc, ← Nat.pow_add, Nat.mul_assoc, ← Nat.pow_add, show (i + u).toNat + u = more + w + 2 from by omega, Nat.pow_add 2 (more + w) 2]
    ac_rfl
  have e2 : 2 ^ k * 2 ^ k = 16 * (2 ^ h * 2 ^ h * 2 ^ w) := by
    rw [show (16 : Nat) = 2 ^ 4 from rfl, ← Nat.pow_add, ← Nat.pow_add, ← Nat.pow_add, ← Nat.pow_add]; congr 1; omega
  have e5 : ∀ X : Nat, (X * 2 ^ k) * (X * 2 ^ k) = 16 * ((X * 2 ^ h) * (X * 2 ^ h) * 2 ^ w) := by
    intro X
    calc (X * 2 ^ k) * (X * 2 ^ k) = X * X * (2 ^ k * 2 ^ k) := by ac_rfl
      _ = X * X * (16 * (2 ^ h * 2 ^ h * 2 ^ w)) := by rw [e2]
      _ = _ := by ac_rfl
  refine ⟨N, k, ?_, g2, g3, ?_, ?_, ?_⟩
  · unfold Ieee.Datum.root
    simp only []
    rw [if_neg hm, if_neg (by simp), ← hmore0, ← hmore, Nat.shiftLeft_eq, ← hn, ← hwh, ← hq, ← he]
    show some (Ieee.double.nearest _ _ _) = _
    rw [g1]
  · have := (hS (N * 2 * 2 ^ h + 2 ^ h)).2.1 g5
    have f1 : 2 * (N * 2 ^ k) + 2 ^ k = (2 * N + 1) * 2 ^ k := by rw [Nat.add_mul, Nat.one_mul, Nat.mul_assoc]
    have f2 : N * 2 * 2 ^ h + 2 ^ h = (2 * N + 1) * 2 ^ h := by rw [Nat.add_mul, Nat.one_mul, Nat.mul_comm N 2]
    rw [f1, e5, e1]
    rw [f2] at this
    have := Nat.mul_le_mul_right (2 ^ w) this
    omega
  · intro hN0
    obtain ⟨M, rfl⟩ : ∃ M, N = M + 1 := ⟨N - 1, by omega⟩
    have hx : 2 * ((2 * M + 1) * 2 ^ h) ≤ q := by
      have a1 : (M + 1) * 4 * 2 ^ h = M * 4 * 2 ^ h + 4 * 2 ^ h := by rw [Nat.add_mul, Nat.add_mul, Nat.one_mul]
      have a2 : 2 * ((2 * M + 1) * 2 ^ h) = M * 4 * 2 ^ h + 2 * 2 ^ h := by
        rw [Nat.add_mul, Nat.mul_add, Nat.one_mul, show 2 * (2 * M * 2 ^ h) = M * (2 * 2) * 2 ^ h from by ac_rfl]
      omega
    have := (hS _).1.1 hx
    have f1 : 2 * ((M + 1) * 2 ^ k) - 2 ^ k = (2 * M + 1) * 2 ^ k := by rw [Nat.add_mul, Nat.add_mul, Nat.one_mul, Nat.mul_assoc]; omega
    rw [f1, e5, e1]
    have := Nat.mul_le_mul_right (2 ^ w) this
    omega
  · rcases g7 with g7 | g7
    · exact Or.inl g7
    · refine Or.inr ?_
      have := (hS (2 ^ 52 * 2 * 2 ^ h)).1.1 g7
      rw [e5, e1]
      have h2 := Nat.mul_le_mul_right (2 ^ w) this
      have h3 : 2 ^ 52 * 2 * 2 ^ h * (2 ^ 52 * 2 * 2 ^ h) * 2 ^ w = 4 * (2 ^ 52 * 2 ^ h * (2 ^ 52 * 2 ^ h) * 2 ^ w) := by
        rw [show (4 : Nat) = 2 * 2 from rfl]
        generalize (2 : Nat) ^ 52 = c
        ac_rfl
      rw [h3] at h2
      omega

end Go.Proofs.YtkelfdhpekkiaacDoor.EA
namespace Go.Proofs.YtkelfdhpekkiaacDoor.EA
open Go.RowKit
open BN

/-- A float's number in units of the lowest place. -/
def Z (b : Nat) : Int := if FT.neg b then -(FT.v (FT.rung b) : Int) else (FT.v (FT.rung b) : Int)
theorem Z_abs (b : Nat) : (Z b).natAbs = FT.v (FT.rung b) := by unfold Z; split <;> omega
theorem v_zero : FT.v 0 = 0 := FT.v_sub (by omega)
theorem v_eq_zero {r : Nat} : FT.v r = 0 ↔ r = 0 := by
  constructor
  · intro h; exact FT.v_inj (by rw [h, v_zero])
  · rintro rfl; exact v_zero
theorem Z_wrd {s : Bool} {r : Nat} (h : r < 2 ^ 63) : Z (FT.wrd s r) = if s then -(FT.v r : Int) else FT.v r := by
  unfold Z; rw [FT.wrd_neg s r h, FT.wrd_rung s r h]
theorem Z_zero {b : Nat} : Z b = 0 ↔ FT.rung b = 0 := by
  have := Z_abs b
  rw [← v_eq_zero]
  omega
theorem Z_rp (b : Nat) : Rp (Z b).natAbs := by rw [Z_abs]; exact v_rp _
theorem Z_top {b : Nat} : (Z b).natAbs < top ↔ FT.rung b < FT.infR := by rw [Z_abs]; exact lt_top
theorem infR_lt : FT.infR < 2 ^ 63 := by unfold FT.infR; omega

/-- The fields of a finite word, in units. -/
theorem fin_v {b mag ex : Nat} {s : Bool} (h : Fin64 b s mag ex) : FT.v (FT.rung b) = mag * 2 ^ (max ex 1 - 1) := by
  have hm := h.magf
  have he := h.exf
  have hrf := FT.rung_fields b
  rw [he] at hrf
  have hf : b % 2 ^ 52 < 2 ^ 52 := Nat.mod_lt _ (by omega)
  generalize b % 2 ^ 52 = f at *
  rw [hrf, ← hm]
  by_cases h0 : ex = 0
  · subst h0
    rw [Nat.zero_mul, Nat.zero_add, FT.v_sub hf, if_pos rfl]
    simp
  · rw [if_neg h0, FT.v_nor' _ _ (by omega) hf, show max ex 1 = ex from by omega]
theorem fin_core {mag p U q D : Nat} (h : mag * p * U = mag * q * D) (s : Bool) : (if s then -(mag : Int) else mag) * (p : Int) * (U : Int) = (if s then -((mag * q : Nat) : Int) else ((mag * q : Nat) : Int)) * (D : Int) := by
  have key2 : (mag : Int) * p * U = (mag : Int) * q * D := by
    have := congrArg (fun n : Nat => (n : Int)) h
    push_cast at this
    exact this
  cases s
  · simp only [Bool.false_eq_true, if_false]
    push_cast
    exact key2
  · simp only [if_true]
    push_cast
    rw [Int.neg_mul, Int.neg_mul, Int.neg_mul, key2]
theorem fin_Z {b mag ex : Nat} {s : Bool} (h : Fin64 b s mag ex) (u : Nat) (hu : u = 1074) : frN s mag ex * ((2 ^ u : Nat) : Int) = Z b * (frD ex : Nat) := by
  have hv := fin_v h
  have hs := h.neg
  have key : mag * 2 ^ (max ex 1 - 1075) * 2 ^ u = mag * 2 ^ (max ex 1 - 1) * frD ex := by
    unfold frD
    have e : max ex 1 - 1075 + u = max ex 1 - 1 + (1075 - max ex 1) := by omega
    rw [Nat.mul_assoc, Nat.mul_assoc, ← Nat.pow_add, ← Nat.pow_add, e]
  have e2 : (2 : Int) ^ (max ex 1 - 1075) = ((2 ^ (max ex 1 - 1075) : Nat) : Int) := by push_cast; rfl
  unfold frN frS Z
  rw [hs, hv, e2]
  exact fin_core key s

/-- r is the float nearest to z units. -/
def RnZ (z : Int) (r : Nat) : Prop := r < 2 ^ 64 ∧ FT.rung r ≤ FT.infR ∧ (FT.rung r < FT.infR → ∃ v, IsRn z.natAbs v ∧ Z r = if z < 0 then -(v : Int) else v) ∧ (Rp z.natAbs → z.natAbs < top → FT.rung r < FT.infR ∧ Z r = z)
theorem top_pos : 0 < top := by
  unfold top
  have := FT.v_lt (show 0 < FT.infR by unfold FT.infR; omega)
  omega
theorem rnZ_of {A z : Int} {B u : Nat} (s : Bool) (hB : B ≠ 0) (hu : u = 1074) (h : A * ((2 ^ u : Nat) : Int) = z * B) : RnZ z (if A = 0 then FT.wrd s 0 else FT.wrd (decide (A < 0)) (flV A.natAbs B)) := by
  have hU := Nat.two_pow_pos u
  by_cases hA : A = 0
  · have hz : z = 0 := by
      rw [hA, Int.zero_mul] at h
      rcases Int.mul_eq_zero.1 h.symm with h | h
      · exact h
      · omega
    rw [if_pos hA, hz]
    have h63 : (0 : Nat) < 2 ^ 63 := by omega
    have hr := FT.wrd_rung s 0 h63
    have hZ : Z (FT.wrd s 0) = 0 := Z_zero.2 hr
    refine ⟨FT.wrd_lt s 0 h63, by rw [hr]; exact Nat.zero_le _, fun _ => ⟨0, ⟨0, 0, by simp, by omega, by simp, by simp, Or.inl rfl⟩, by rw [hZ]; simp⟩, fun _ _ => ⟨by rw [hr]; unfold FT.infR; omega, hZ⟩⟩
  · rw [if_neg hA]
    have habs : A.natAbs * 2 ^ u = z.natAbs * B := by
      have := congrArg Int.natAbs h
      rw [Int.natAbs_mul, Int.natAbs_mul, Int.natAbs_natCast, Int.natAbs_natCast] at this
      exact this
    have hsg : decide (A < 0) = decide (z < 0) := by
      congr 1
      apply propext
      have hUi : (0 : Int) < ((2 ^ u : Nat) : Int) := by omega
      have hBi : (0 : Int) < (B : Int) := by omega
      generalize ((2 ^ u : Nat) : Int) = U at *
      constructor
      · intro hn
        have h1 : z * B < 0 := by rw [← h]; exact Int.mul_neg_of_neg_of_pos hn hUi
        by_cases hz : z < 0
        · exact hz
        · have := Int.mul_nonneg (show 0 ≤ z by omega) (show (0 : Int) ≤ B by omega); omega
      · intro hn
        have h1 : A * U < 0 := by rw [h]; exact Int.mul_neg_of_neg_of_pos hn hBi
        by_cases hz : A < 0
        · exact hz
        · have := Int.mul_nonneg (show 0 ≤ A by omega) (show (0 : Int) ≤ U by omega); omega
    have hle := show flV A.natAbs B ≤ FT.infR from Nat.min_le_right _ _
    have hf := flV_units (n := z.natAbs) (by omega : A.natAbs ≠ 0) hB hu habs
    have hlt := infR_lt
    rw [hsg]
    generalize flV A.natAbs B = r at *
    have hr := FT.wrd_rung (decide (z < 0)) r (by omega)
    have hZ := Z_wrd (s := decide (z < 0)) (r := r) (by omega)
    have hZ2 : Z (FT.wrd (decide (z < 0)) r) = if z < 0 then -(FT.v r : Int) else FT.v r := by
      rw [hZ]; by_cases hx : z < 0 <;> simp [hx]
    refine ⟨FT.wrd_lt _ r (by omega), by rw [hr]; exact hle, fun hx => ?_, fun h1 h2 => ?_⟩
    · rw [hr] at hx
      exact ⟨FT.v r, hf.1 hx, hZ2⟩
    · have hx := hf.2 h1 h2
      rw [hr]
      refine ⟨hx, ?_⟩
      have := (hf.1 hx).self h1
      rw [hZ2, this]
      split <;> omega

/-- Fractions told in units. -/
theorem units2 {a b x y U e f : Int} (h1 : a * U = x * e) (h2 : b * U = y * f) : (x + y) * (e * f) = (a * f + b * e) * U := by
  have e1 : (a * f + b * e) * U = a * U * f + b * U * e := by rw [Int.add_mul]; ac_rfl
  rw [e1, h1, h2, Int.add_mul]; ac_rfl
theorem add_Z {x y : Nat} (hx : x < 2 ^ 64) (hy : y < 2 ^ 64) (fx : FT.rung x < FT.infR) (fy : FT.rung y < FT.infR) : ∃ r, Ieee.double.add x y = some r ∧ RnZ (Z x + Z y) r := by
  obtain ⟨m, e, hfx⟩ := Fin64.of hx fx
  obtain ⟨n, f, hfy⟩ := Fin64.of hy fy
  obtain ⟨u, hu⟩ : ∃ u, u = 1074 := ⟨_, rfl⟩
  have hB : 2 ^ u ≠ 0 := Nat.ne_of_gt (Nat.two_pow_pos u)
  have h := add_fl hfx hfy (A := Z x + Z y) (B := 2 ^ u) hB (units2 (fin_Z hfx u hu) (fin_Z hfy u hu))
  exact ⟨_, h, rnZ_of _ hB hu rfl⟩
theorem frN_not (s : Bool) (m e : Nat) : frN (!s) m e = -frN s m e := by
  unfold frN frS
  cases s <;> simp [Int.neg_mul]
theorem sub_Z {x y : Nat} (hx : x < 2 ^ 64) (hy : y < 2 ^ 64) (fx : FT.rung x < FT.infR) (fy : FT.rung y < FT.infR) : ∃ r, Ieee.double.sub x y = some r ∧ RnZ (Z x - Z y) r := by
  obtain ⟨m, e, hfx⟩ := Fin64.of hx fx
  obtain ⟨n, f, hfy⟩ := Fin64.of hy fy
  obtain ⟨u, hu⟩ : ∃ u, u = 1074 := ⟨_, rfl⟩
  have hB : 2 ^ u ≠ 0 := Nat.ne_of_gt (Nat.two_pow_pos u)
  have hE : (frD e : Int) ≠ 0 := by have := frD_pos e; omega
  have hF : (frD f : Int) ≠ 0 := by have := frD_pos f; omega
  have h2 : frN (!FT.neg y) n f * ((2 ^ u : Nat) : Int) = (-Z y) * (frD f : Nat) := by rw [frN_not, Int.neg_mul, fin_Z hfy u hu, Int.neg_mul]
  have h := sum_fl (isR_float (FT.neg x) m e) (isR_float (!FT.neg y) n f) hE hF (A := Z x + -Z y) (B := 2 ^ u) hB (units2 (fin_Z hfx u hu) h2)
  refine ⟨_, Eq.trans ?_ h, by rw [Int.sub_eq_add_neg]; exact rnZ_of _ hB hu rfl⟩
  unfold Ieee.Format.sub
  rw [read_fin hfx, read_fin hfy]
  rfl

/-- A product, its two factors' numbers multiplied. -/
theorem mul_Z {x y : Nat} (hx : x < 2 ^ 64) (hy : y < 2 ^ 64) (fx : FT.rung x < FT.infR) (fy : FT.rung y < FT.infR) (u : Nat) (hu : u = 1074) :
    ∃ r, Ieee.double.mul x y = some r ∧ r < 2 ^ 64 ∧ FT.rung r ≤ FT.infR ∧ ∀ g : Int, Z x * Z y = g * ((2 ^ u : Nat) : Int) → RnZ g r := by
  obtain ⟨m, e, hfx⟩ := Fin64.of hx fx
  obtain ⟨n, f, hfy⟩ := Fin64.of hy fy
  have hU := Nat.two_pow_pos u
  have hB : 2 ^ u * 2 ^ u ≠ 0 := Nat.ne_of_gt (Nat.mul_pos hU hU)
  have h1 := fin_Z hfx u hu
  have h2 := fin_Z hfy u hu
  have h := mul_fl hfx hfy (A := Z x * Z y) (B := 2 ^ u * 2 ^ u) hB (by
    push_cast
    push_cast at h1 h2
    rw [show frN (FT.neg x) m e * frN (FT.neg y) n f * ((2 : Int) ^ u * 2 ^ u) = (frN (FT.neg x) m e * 2 ^ u) * (frN (FT.neg y) n f * 2 ^ u) from by ac_rfl, h1, h2]
    ac_rfl)
  have hg : ∀ g : Int, Z x * Z y = g * ((2 ^ u : Nat) : Int) → RnZ g (if Z x * Z y = 0 then FT.wrd (FT.neg x ^^ FT.neg y) 0 else FT.wrd (decide (Z x * Z y < 0)) (flV (Z x * Z y).natAbs (2 ^ u * 2 ^ u))) := by
    intro g hg
    refine rnZ_of _ hB hu ?_
    rw [hg]; push_cast; ac_rfl
  have hle := show flV (Z x * Z y).natAbs (2 ^ u * 2 ^ u) ≤ FT.infR from Nat.min_le_right _ _
  have hlt := infR_lt
  refine ⟨_, h, ?_, ?_, hg⟩
  · split
    · exact FT.wrd_lt _ _ (by omega)
    · exact FT.wrd_lt _ _ (by omega)
  · split
    · rw [FT.wrd_rung _ _ (by omega)]; exact Nat.zero_le _
    · rw [FT.wrd_rung _ _ (by omega)]; exact hle
/-- A fused product, where the product is a whole number of units. -/
theorem fma_Z {x y z : Nat} (hx : x < 2 ^ 64) (hy : y < 2 ^ 64) (hz : z < 2 ^ 64) (fx : FT.rung x < FT.infR) (fy : FT.rung y < FT.infR) (fz : FT.rung z < FT.infR) {u : Nat} (hu : u = 1074) {g : Int} (hg : Z x * Z y = g * ((2 ^ u : Nat) : Int)) :
    ∃ r, Ieee.double.fma x y z = some r ∧ RnZ (g + Z z) r := by
  obtain ⟨m, e, hfx⟩ := Fin64.of hx fx
  obtain ⟨n, f, hfy⟩ := Fin64.of hy fy
  obtain ⟨l, k, hfz⟩ := Fin64.of hz fz
  have hU := Nat.two_pow_pos u
  have hB : 2 ^ u ≠ 0 := by omega
  have h1 := fin_Z hfx u hu
  have h2 := fin_Z hfy u hu
  have h3 := fin_Z hfz u hu
  have hUi : (((2 ^ u : Nat) : Int)) ≠ 0 := by omega
  have hp : frN (FT.neg x) m e * frN (FT.neg y) n f * ((2 ^ u : Nat) : Int) = g * ((frD e : Int) * frD f) := by
    refine Int.eq_of_mul_eq_mul_right hUi ?_
    generalize ((2 ^ u : Nat) : Int) = U at *
    rw [show frN (FT.neg x) m e * frN (FT.neg y) n f * U * U = (frN (FT.neg x) m e * U) * (frN (FT.neg y) n f * U) from by ac_rfl, h1, h2,
      show Z x * (frD e : Int) * (Z y * (frD f : Int)) = (Z x * Z y) * ((frD e : Int) * frD f) from by ac_rfl, hg]
    ac_rfl
  have h := fma_fl hfx hfy hfz (A := g + Z z) (B := 2 ^ u) hB (by
    have := units2 hp h3
    rw [this])
  exact ⟨_, h, rnZ_of _ hB hu rfl⟩

end Go.Proofs.YtkelfdhpekkiaacDoor.EA
namespace Go.Proofs.YtkelfdhpekkiaacDoor.EA
open Go.RowKit
open BN

/-- A finite word of so many units. -/
structure Is (b : Nat) (z : Int) : Prop where
  lt : b < 2 ^ 64
  fin : FT.rung b < FT.infR
  val : Z b = z
theorem RnZ.is {z : Int} {r : Nat} (h : RnZ z r) (h1 : Rp z.natAbs) (h2 : z.natAbs < top) : Is r z := ⟨h.1, (h.2.2.2 h1 h2).1, (h.2.2.2 h1 h2).2⟩
theorem Is.rp {b : Nat} {z : Int} (h : Is b z) : Rp z.natAbs := by rw [← h.val]; exact Z_rp b
theorem Is.top {b : Nat} {z : Int} (h : Is b z) : z.natAbs < top := by rw [← h.val]; exact Z_top.2 h.fin

/-- What a float sum lacks is a float, and is told by two differences. -/
theorem sum_core {x y s : Int} {v : Nat} (hx : Rp x.natAbs) (hy : Rp y.natAbs) (hle : y.natAbs ≤ x.natAbs) (h : IsRn (x + y).natAbs v) (hs : s = if x + y < 0 then -(v : Int) else v) :
    Rp (s - x).natAbs ∧ (s - x).natAbs ≤ x.natAbs ∧ Rp (y - (s - x)).natAbs ∧ (y - (s - x)).natAbs ≤ y.natAbs := by
  by_cases hsame : (0 ≤ x ∧ 0 ≤ y) ∨ (x ≤ 0 ∧ y ≤ 0)
  · rw [show (x + y).natAbs = x.natAbs + y.natAbs from by omega] at h
    obtain ⟨h1, h2, h3, h4, h5⟩ := same_sign hx hy hle h
    have hz : v = 0 ∨ 0 < v := by omega
    have e1 : (s - x).natAbs = v - x.natAbs := by
      have : x.natAbs + y.natAbs = 0 → v = 0 := fun e => by rw [e] at h; exact h.self (rp_small (by omega))
      split at hs <;> omega
    have hcase : x.natAbs + y.natAbs ≤ v ∨ v ≤ x.natAbs + y.natAbs := by omega
    refine ⟨by rw [e1]; exact h3, by omega, ?_⟩
    rcases hcase with hc | hc
    · have e2 : (y - (s - x)).natAbs = v - (x.natAbs + y.natAbs) := by
        have : x.natAbs + y.natAbs = 0 → v = 0 := fun e => by rw [e] at h; exact h.self (rp_small (by omega))
        split at hs <;> omega
      rw [e2]
      exact ⟨(h4 hc).2, (h4 hc).1⟩
    · have e2 : (y - (s - x)).natAbs = x.natAbs + y.natAbs - v := by split at hs <;> omega
      rw [e2]
      exact ⟨(h5 hc).2, (h5 hc).1⟩
  · rw [show (x + y).natAbs = x.natAbs - y.natAbs from by omega] at h
    obtain ⟨h1, h2, h3, h4⟩ := other_sign hx hy hle h
    have e0 : x.natAbs - y.natAbs = 0 → v = 0 := fun e => by rw [e] at h; exact h.self (rp_small (by omega))
    have e1 : (s - x).natAbs = x.natAbs - v := by split at hs <;> omega
    have hcase : x.natAbs - y.natAbs ≤ v ∨ v ≤ x.natAbs - y.natAbs := by omega
    refine ⟨by rw [e1]; exact h2, by omega, ?_⟩
    rcases hcase with hc | hc
    · have e2 : (y - (s - x)).natAbs = v - (x.natAbs - y.natAbs) := by split at hs <;> omega
      rw [e2]
      exact ⟨(h3 hc).2, (h3 hc).1⟩
    · have e2 : (y - (s - x)).natAbs = x.natAbs - y.natAbs - v := by split at hs <;> omega
      rw [e2]
      exact ⟨(h4 hc).2, (h4 hc).1⟩
theorem sum_err {x y s : Nat} (hx : x < 2 ^ 64) (hy : y < 2 ^ 64) (fx : FT.rung x < FT.infR) (fy : FT.rung y < FT.infR) (hle : (Z y).natAbs ≤ (Z x).natAbs) (h : RnZ (Z x + Z y) s) (fs : FT.rung s < FT.infR) :
    ∃ t e, Ieee.double.sub s x = some t ∧ Ieee.double.sub y t = some e ∧ t < 2 ^ 64 ∧ FT.rung t < FT.infR ∧ Is e (Z x + Z y - Z s) := by
  obtain ⟨v, hv, hs⟩ := h.2.2.1 fs
  obtain ⟨c1, c2, c3, c4⟩ := sum_core (Z_rp x) (Z_rp y) hle hv hs
  have tx := Z_top.2 fx
  have ty := Z_top.2 fy
  obtain ⟨t, ht, hrt⟩ := sub_Z h.1 hx fs fx
  have it := hrt.is c1 (by omega)
  obtain ⟨e, he, hre⟩ := sub_Z hy it.lt fy it.fin
  rw [it.val] at hre
  have ie := hre.is c3 (by omega)
  refine ⟨t, e, ht, he, it.lt, it.fin, ?_⟩
  rw [show Z x + Z y - Z s = Z y - (Z s - Z x) from by omega]
  exact ie

theorem IsRn.small {n v : Nat} (h : IsRn n v) : n ≤ 2 * v ∧ v ≤ 2 * n := by
  obtain ⟨N, k, rfl, h1, h2, h3, h4⟩ := h
  rcases h4 with rfl | h4
  · simp only [Nat.pow_zero, Nat.mul_one] at h2 h3 ⊢
    omega
  · omega

/-- What is left between a number and what it is rounded to, signs told. -/
theorem lacks_core {g s : Int} {v : Nat} (hs : s = if g < 0 then -(v : Int) else v) : (g - s).natAbs = if v ≤ g.natAbs then g.natAbs - v else v - g.natAbs := by
  split at hs <;> split <;> omega

/-- A finite word's number: so many units of its lowest digit. -/
structure Low (b : Nat) (m i : Nat) : Prop where
  eq : (Z b).natAbs = m * 2 ^ i
  lt : m < 2 ^ 53

theorem prod_err {x y p np m n i j u : Nat} (hx : x < 2 ^ 64) (hy : y < 2 ^ 64) (fx : FT.rung x < FT.infR) (fy : FT.rung y < FT.infR) (hu : u = 1074) (lx : Low x m i) (ly : Low y n j) (hij : u ≤ i + j)
    (hp : Ieee.double.mul x y = some p) (fp : FT.rung p < FT.infR) (hnp : np < 2 ^ 64) (fnp : FT.rung np < FT.infR) (znp : Z np = -Z p) :
    ∃ g e, Z x * Z y = g * ((2 ^ u : Nat) : Int) ∧ Ieee.double.fma x y np = some e ∧ Is e (g - Z p) := by
  obtain ⟨r, hr, r1, r2, hg⟩ := mul_Z hx hy fx fy u hu
  rw [hp] at hr
  obtain rfl : p = r := Option.some.inj hr
  obtain ⟨k, hk⟩ : ∃ k, i + j = k + u := ⟨i + j - u, by omega⟩
  have habs : (Z x * Z y).natAbs = m * n * 2 ^ k * 2 ^ u := by
    rw [Int.natAbs_mul, lx.eq, ly.eq, Nat.mul_assoc (m * n), ← Nat.pow_add, ← hk, Nat.pow_add]
    ac_rfl
  obtain ⟨g, hge, hga⟩ : ∃ g : Int, Z x * Z y = g * ((2 ^ u : Nat) : Int) ∧ g.natAbs = m * n * 2 ^ k := by
    by_cases hneg : Z x * Z y < 0
    · refine ⟨-((m * n * 2 ^ k : Nat) : Int), ?_, by omega⟩
      rw [Int.neg_mul, ← Int.natCast_mul, ← habs]; omega
    · refine ⟨((m * n * 2 ^ k : Nat) : Int), ?_, by omega⟩
      rw [← Int.natCast_mul, ← habs]; omega
  have hR := hg g hge
  obtain ⟨v, hv, hs⟩ := hR.2.2.1 fp
  have hl := lacks_core hs
  have hsm := hv.small
  have hpv : (Z p).natAbs = v := by rw [hs]; split <;> omega
  have ht := Z_top.2 fp
  rw [hga] at hv
  obtain ⟨p1, p2⟩ := prod_lacks lx.lt ly.lt hv
  rw [← hga] at p1 p2
  have hrp : Rp (g - Z p).natAbs := by
    rw [hl]; split
    · exact p2 (by omega)
    · exact p1 (by omega)
  have htop : (g - Z p).natAbs < top := by rw [hl]; split <;> omega
  obtain ⟨e, he, hre⟩ := fma_Z hx hy hnp fx fy fnp hu hge
  rw [znp, ← Int.sub_eq_add_neg] at hre
  exact ⟨g, e, hge, he, hre.is hrp htop⟩

theorem f54 : Ieee.double.fractionBits + 2 = 54 := rfl
theorem nearest_nil (s : Bool) (e : Int) : Ieee.double.nearest s 0 e = FT.wrd s 0 := by
  unfold Ieee.Format.nearest
  rw [if_pos rfl, FT.word_eq]
theorem quot_nil (s t : Bool) (i j : Int) {n : Nat} (hn : n ≠ 0) : ((Ieee.Datum.number s 0 i).quotient 54 (.number t n j)).map Ieee.double.write = some (FT.wrd (s ^^ t) 0) := by
  unfold Ieee.Datum.quotient
  simp only []
  rw [if_neg hn]
  simp only [Nat.zero_shiftLeft, Nat.zero_div, Nat.zero_mod, bne_self_eq_false, Bool.toNat_false, Nat.mul_zero, Nat.add_zero, Option.map_some, Ieee.Format.write, nearest_nil]
theorem root_nil (s : Bool) (i : Int) : ((Ieee.Datum.number s 0 i).root 54).map Ieee.double.write = some (FT.wrd s 0) := by
  unfold Ieee.Datum.root
  simp only [if_true, Option.map_some, Ieee.Format.write, nearest_nil]

/-- The quotient's digits. -/
theorem div_told {x y u : Nat} (hx : x < 2 ^ 64) (hy : y < 2 ^ 64) (fx : FT.rung x < FT.infR) (fy : FT.rung y < FT.infR) (hu : u = 1074) (hy0 : Z y ≠ 0) :
    ∃ q, Ieee.double.div x y = some q ∧ q < 2 ^ 64 ∧ FT.rung q ≤ FT.infR ∧ FT.neg q = (FT.neg x ^^ FT.neg y) ∧ (FT.rung q < FT.infR → ∃ N k, FT.v (FT.rung q) = N * 2 ^ k ∧ N ≤ 2 ^ 53 ∧
      2 * ((Z x).natAbs * 2 ^ u) ≤ 2 * (N * 2 ^ k * (Z y).natAbs) + 2 ^ k * (Z y).natAbs ∧ 2 * (N * 2 ^ k * (Z y).natAbs) ≤ 2 * ((Z x).natAbs * 2 ^ u) + 2 ^ k * (Z y).natAbs ∧ (k = 0 ∨ 2 ^ 52 * 2 ^ k * (Z y).natAbs ≤ (Z x).natAbs * 2 ^ u)) := by
  obtain ⟨m, e, hfx⟩ := Fin64.of hx fx
  obtain ⟨n, f, hfy⟩ := Fin64.of hy fy
  have hlt := infR_lt
  have vx := fin_v hfx
  have vy := fin_v hfy
  rw [← Z_abs] at vx vy
  have hn0 : n ≠ 0 := by rintro rfl; rw [Nat.zero_mul] at vy; omega
  have hd : Ieee.double.div x y = ((Ieee.Datum.number (FT.neg x) m ((max e 1 : Nat) - 1075)).quotient 54 (.number (FT.neg y) n ((max f 1 : Nat) - 1075))).map Ieee.double.write := by
    unfold Ieee.Format.div
    rw [read_fin hfx, read_fin hfy, f54]
  rw [hd]
  clear hd
  by_cases hm : m = 0
  · subst hm
    rw [Nat.zero_mul] at vx
    have h63 : (0 : Nat) < 2 ^ 63 := by omega
    refine ⟨FT.wrd (FT.neg x ^^ FT.neg y) 0, ?_, FT.wrd_lt _ _ h63, by rw [FT.wrd_rung _ _ h63]; exact Nat.zero_le _, FT.wrd_neg _ _ h63, fun _ => ⟨0, 0, ?_, by omega, ?_, ?_, Or.inl rfl⟩⟩
    · exact quot_nil _ _ _ _ hn0
    · rw [FT.wrd_rung _ _ h63, v_zero, Nat.zero_mul]
    · rw [vx]; simp
    · rw [vx]; simp
  · have e0 : -(u : Int) ≤ ((max e 1 : Nat) : Int) - 1075 := by omega
    have f0 : -(u : Int) ≤ ((max f 1 : Nat) : Int) - 1075 := by omega
    have hq := quot_told (i := ((max e 1 : Nat) : Int) - 1075) (j := ((max f 1 : Nat) : Int) - 1075) (FT.neg x) (FT.neg y) hm hn0 hfx.mag_lt hfy.mag_lt u hu e0 f0
    have ex : (((max e 1 : Nat) : Int) - 1075 + u).toNat = max e 1 - 1 := by omega
    have ey : (((max f 1 : Nat) : Int) - 1075 + u).toNat = max f 1 - 1 := by omega
    rw [ex, ey, ← vx, ← vy] at hq
    clear ex ey vx vy
    generalize ((Ieee.Datum.number (FT.neg x) m (((max e 1 : Nat) : Int) - 1075)).quotient 54 (.number (FT.neg y) n (((max f 1 : Nat) : Int) - 1075))).map Ieee.double.write = o at *
    obtain ⟨N, k, h1, h2, h3, h4, h5, h6⟩ := hq
    have hM : min (k * 2 ^ 52 + N) FT.infR ≤ FT.infR := Nat.min_le_right _ _
    have hV : FT.infR > min (k * 2 ^ 52 + N) FT.infR → FT.v (min (k * 2 ^ 52 + N) FT.infR) = N * 2 ^ k := by
      intro hf
      rcases Nat.le_total (k * 2 ^ 52 + N) FT.infR with hc | hc
      · rw [Nat.min_eq_left hc]; exact v_made h2 h3
      · rw [Nat.min_eq_right hc] at hf; exact absurd hf (Nat.lt_irrefl _)
    generalize min (k * 2 ^ 52 + N) FT.infR = R at *
    have hM2 : R < 2 ^ 63 := Nat.lt_of_le_of_lt hM hlt
    have hr := FT.wrd_rung (FT.neg x ^^ FT.neg y) R hM2
    have hng := FT.wrd_neg (FT.neg x ^^ FT.neg y) R hM2
    have hl := FT.wrd_lt (FT.neg x ^^ FT.neg y) R hM2
    generalize FT.wrd (FT.neg x ^^ FT.neg y) R = W at *
    refine ⟨W, h1, hl, ?_, hng, fun hf => ⟨N, k, ?_, h2, h4, h5, h6⟩⟩
    · rw [hr]; exact hM
    · rw [hr] at hf ⊢
      exact hV hf

theorem quo_err {x y q nq u : Nat} {g : Int} (hx : x < 2 ^ 64) (hy : y < 2 ^ 64) (fx : FT.rung x < FT.infR) (fy : FT.rung y < FT.infR) (hu : u = 1074) (hy0 : Z y ≠ 0)
    (hq : Ieee.double.div x y = some q) (fq : FT.rung q < FT.infR) (hnq : nq < 2 ^ 64) (fnq : FT.rung nq < FT.infR) (znq : Z nq = -Z q) (hg : Z q * Z y = g * ((2 ^ u : Nat) : Int)) :
    ∃ e, Ieee.double.fma nq y x = some e ∧ Is e (Z x - g) := by
  obtain ⟨q', hq', q1, q2, q3, q4⟩ := div_told hx hy fx fy hu hy0
  rw [hq] at hq'
  obtain rfl : q = q' := Option.some.inj hq'
  obtain ⟨N, k, e1, e2, e3, e4, e5⟩ := q4 fq
  have hga : g.natAbs * 2 ^ u = N * 2 ^ k * (Z y).natAbs := by
    have := congrArg Int.natAbs hg
    rw [Int.natAbs_mul, Int.natAbs_mul, Int.natAbs_natCast, Z_abs q, e1] at this
    exact this.symm
  have hy1 : (Z y).natAbs ≠ 0 := fun h => hy0 (Int.natAbs_eq_zero.1 h)
  obtain ⟨l1, l2⟩ := quo_lacks (Z_rp x) (Z_rp y) hy1 e2 hga e3 e4 e5
  have hsg : (0 ≤ g ∧ 0 ≤ Z x) ∨ (g ≤ 0 ∧ Z x ≤ 0) := by
    have hUi : (0 : Int) < ((2 ^ u : Nat) : Int) := by have := Nat.two_pow_pos u; omega
    have hxs : (FT.neg x = true ∧ Z x ≤ 0) ∨ (FT.neg x = false ∧ 0 ≤ Z x) := by
      unfold Z; cases FT.neg x <;> simp
    have hys : (FT.neg y = true ∧ Z y ≤ 0) ∨ (FT.neg y = false ∧ 0 ≤ Z y) := by
      unfold Z; cases FT.neg y <;> simp
    have hqs : (FT.neg q = true ∧ Z q ≤ 0) ∨ (FT.neg q = false ∧ 0 ≤ Z q) := by
      unfold Z; cases FT.neg q <;> simp
    generalize ((2 ^ u : Nat) : Int) = U at *
    have gpos : 0 ≤ Z q * Z y → 0 ≤ g := by
      intro h
      by_cases hg0 : 0 ≤ g
      · exact hg0
      · have := Int.mul_neg_of_neg_of_pos (show g < 0 by omega) hUi; omega
    have gneg : Z q * Z y ≤ 0 → g ≤ 0 := by
      intro h
      by_cases hg0 : g ≤ 0
      · exact hg0
      · have := Int.mul_pos (show 0 < g by omega) hUi; omega
    rcases hxs with ⟨a1, a2⟩ | ⟨a1, a2⟩ <;> rcases hys with ⟨b1, b2⟩ | ⟨b1, b2⟩ <;> rcases hqs with ⟨c1, c2⟩ | ⟨c1, c2⟩ <;> rw [a1, b1, c1] at q3 <;> simp at q3
    · exact Or.inr ⟨gneg (Int.mul_nonpos_of_nonneg_of_nonpos c2 b2), a2⟩
    · exact Or.inr ⟨gneg (Int.mul_nonpos_of_nonpos_of_nonneg c2 b2), a2⟩
    · exact Or.inl ⟨gpos (Int.mul_nonneg_of_nonpos_of_nonpos c2 b2), a2⟩
    · exact Or.inl ⟨gpos (Int.mul_nonneg c2 b2), a2⟩
  have tx := Z_top.2 fx
  have hng : Z nq * Z y = (-g) * ((2 ^ u : Nat) : Int) := by rw [znq, Int.neg_mul, hg, Int.neg_mul]
  obtain ⟨e, he, hre⟩ := fma_Z hnq hy hx fnq fy fx hu hng
  rw [show -g + Z x = Z x - g from by omega] at hre
  refine ⟨e, he, hre.is ?_ ?_⟩
  · by_cases hc : (Z x).natAbs ≤ g.natAbs
    · rw [show (Z x - g).natAbs = g.natAbs - (Z x).natAbs from by omega]; exact (l1 hc).1
    · rw [show (Z x - g).natAbs = (Z x).natAbs - g.natAbs from by omega]; exact (l2 (by omega)).1
  · by_cases hc : (Z x).natAbs ≤ g.natAbs
    · have := (l1 hc).2; omega
    · have := (l2 (by omega)).2; omega

/-- The root's digits. -/
theorem sqrt_told {x u : Nat} (hx : x < 2 ^ 64) (fx : FT.rung x < FT.infR) (hu : u = 1074) (hs : FT.neg x = false ∨ FT.rung x = 0) :
    ∃ s, Ieee.double.sqrt x = some s ∧ s < 2 ^ 64 ∧ FT.rung s ≤ FT.infR ∧ (FT.rung s < FT.infR → ∃ N k, FT.v (FT.rung s) = N * 2 ^ k ∧ N ≤ 2 ^ 53 ∧ (k = 0 ∨ 2 ^ 52 ≤ N) ∧
      4 * ((Z x).natAbs * 2 ^ u) ≤ (2 * (N * 2 ^ k) + 2 ^ k) * (2 * (N * 2 ^ k) + 2 ^ k) ∧ (0 < N → (2 * (N * 2 ^ k) - 2 ^ k) * (2 * (N * 2 ^ k) - 2 ^ k) ≤ 4 * ((Z x).natAbs * 2 ^ u)) ∧ (k = 0 ∨ 2 ^ 52 * 2 ^ k * (2 ^ 52 * 2 ^ k) ≤ (Z x).natAbs * 2 ^ u)) := by
  obtain ⟨m, e, hfx⟩ := Fin64.of hx fx
  have hlt := infR_lt
  have vx := fin_v hfx
  have hz := hfx.zero
  rw [← Z_abs] at vx
  have hd : Ieee.double.sqrt x = ((Ieee.Datum.number (FT.neg x) m ((max e 1 : Nat) - 1075)).root 54).map Ieee.double.write := by
    unfold Ieee.Format.sqrt
    rw [read_fin hfx, f54]
  rw [hd]
  clear hd
  by_cases hm : m = 0
  · have h63 : (0 : Nat) < 2 ^ 63 := by omega
    rw [hm, Nat.zero_mul] at vx
    refine ⟨FT.wrd (FT.neg x) 0, ?_, FT.wrd_lt _ _ h63, by rw [FT.wrd_rung _ _ h63]; exact Nat.zero_le _, fun _ => ⟨0, 0, ?_, by omega, Or.inl rfl, ?_, fun h => by omega, Or.inl rfl⟩⟩
    · rw [hm]; exact root_nil _ _
    · rw [FT.wrd_rung _ _ h63, v_zero, Nat.zero_mul]
    · rw [vx]; simp
  · have hn : FT.neg x = false := by
      rcases hs with h | h
      · exact h
      · exact absurd (hz.2 h) hm
    have e0 : -(u : Int) ≤ ((max e 1 : Nat) : Int) - 1075 := by omega
    have hq := root_told (i := ((max e 1 : Nat) : Int) - 1075) hm hfx.mag_lt u hu e0
    have ex : (((max e 1 : Nat) : Int) - 1075 + u).toNat = max e 1 - 1 := by omega
    rw [ex, ← vx] at hq
    rw [hn]
    clear ex vx
    generalize ((Ieee.Datum.number false m (((max e 1 : Nat) : Int) - 1075)).root 54).map Ieee.double.write = o at *
    obtain ⟨N, k, h1, h2, h3, h4, h5, h6⟩ := hq
    have hM : min (k * 2 ^ 52 + N) FT.infR ≤ FT.infR := Nat.min_le_right _ _
    have hM2 : min (k * 2 ^ 52 + N) FT.infR < 2 ^ 63 := Nat.lt_of_le_of_lt hM hlt
    have hr := FT.wrd_rung false _ hM2
    refine ⟨_, h1, FT.wrd_lt _ _ hM2, by rw [hr]; exact hM, fun hf => ⟨N, k, ?_, h2, h3, h4, h5, h6⟩⟩
    rw [hr] at hf ⊢
    rw [show min (k * 2 ^ 52 + N) FT.infR = k * 2 ^ 52 + N from by omega]
    exact v_made h2 h3

theorem root_err {x s ns u : Nat} {g : Int} (hx : x < 2 ^ 64) (fx : FT.rung x < FT.infR) (hu : u = 1074) (hsx : FT.neg x = false ∨ FT.rung x = 0)
    (hq : Ieee.double.sqrt x = some s) (fs : FT.rung s < FT.infR) (hns : ns < 2 ^ 64) (fns : FT.rung ns < FT.infR) (zns : Z ns = -Z s) (hg : Z s * Z s = g * ((2 ^ u : Nat) : Int)) :
    ∃ e, Ieee.double.fma ns s x = some e ∧ Is e (Z x - g) := by
  obtain ⟨s', hq', q1, q2, q4⟩ := sqrt_told hx fx hu hsx
  rw [hq] at hq'
  obtain rfl : s = s' := Option.some.inj hq'
  obtain ⟨N, k, e1, e2, e25, e3, e4, e5⟩ := q4 fs
  have hga : g.natAbs * 2 ^ u = N * 2 ^ k * (N * 2 ^ k) := by
    have := congrArg Int.natAbs hg
    rw [Int.natAbs_mul, Int.natAbs_mul, Int.natAbs_natCast, Z_abs s, e1] at this
    exact this.symm
  have hU := Nat.two_pow_pos u
  have hg0 : 0 ≤ g := by
    by_cases h : 0 ≤ g
    · exact h
    · have h1 := Int.mul_neg_of_neg_of_pos (show g < 0 by omega) (show (0 : Int) < ((2 ^ u : Nat) : Int) by omega)
      have h2 : 0 ≤ Z s * Z s := by
        rcases Int.le_total 0 (Z s) with h | h
        · exact Int.mul_nonneg h h
        · exact Int.mul_nonneg_of_nonpos_of_nonpos h h
      omega
  have hx0 : 0 ≤ Z x := by
    rcases hsx with h | h
    · unfold Z; rw [h]; simp
    · rw [Z_zero.2 h]; omega
  obtain ⟨l1, l2⟩ := root_lacks (Z_rp x) e2 hga e3 e4 e5
  have tx := Z_top.2 fx
  have hsz : g.natAbs ≤ 2 * (Z x).natAbs := by
    refine Nat.le_of_mul_le_mul_right (c := 2 ^ u) ?_ hU
    rcases Nat.eq_zero_or_pos N with rfl | hN0
    · rw [hga]; simp
    · rcases Nat.eq_or_lt_of_le hN0 with hN1 | hN1
      · exfalso
        have hk : k = 0 := by omega
        subst hk
        rw [← hN1] at hga
        simp only [Nat.pow_zero, Nat.mul_one] at hga
        have : 2 ≤ 2 ^ u := by have := Nat.pow_le_pow_right (show 0 < 2 by omega) (show 1 ≤ u by omega); omega
        rcases Nat.eq_zero_or_pos g.natAbs with h | h
        · rw [h] at hga; omega
        · have := Nat.mul_le_mul h this; omega
      · have h4 := e4 hN0
        rw [hga, Nat.mul_assoc 2]
        generalize (Z x).natAbs * 2 ^ u = A at *
        obtain ⟨M, rfl⟩ : ∃ M, N = M + 2 := ⟨N - 2, by omega⟩
        generalize 2 ^ k = K at *
        have f1 : 2 * ((M + 2) * K) - K = (2 * M + 3) * K := by rw [Nat.add_mul, Nat.add_mul, Nat.mul_assoc]; omega
        rw [f1] at h4
        have f2 : (2 * M + 3) * K * ((2 * M + 3) * K) = (4 * (M * M) + 12 * M + 9) * (K * K) := by
          rw [show (2 * M + 3) * K * ((2 * M + 3) * K) = ((2 * M + 3) * (2 * M + 3)) * (K * K) from by ac_rfl]
          congr 1
          rw [Nat.add_mul, Nat.mul_add, Nat.mul_add, show 2 * M * (2 * M) = 4 * (M * M) from by rw [show 4 = 2 * 2 from rfl]; ac_rfl]
          omega
        have f3 : (M + 2) * K * ((M + 2) * K) = (M * M + 4 * M + 4) * (K * K) := by
          rw [show (M + 2) * K * ((M + 2) * K) = ((M + 2) * (M + 2)) * (K * K) from by ac_rfl]
          congr 1
          rw [Nat.add_mul, Nat.mul_add, Nat.mul_add]
          omega
        rw [f2] at h4
        rw [f3]
        have f4 : 2 * ((M * M + 4 * M + 4) * (K * K)) ≤ (4 * (M * M) + 12 * M + 9) * (K * K) := by
          rw [← Nat.mul_assoc]
          exact Nat.mul_le_mul_right _ (by omega)
        omega
  have hng : Z ns * Z s = (-g) * ((2 ^ u : Nat) : Int) := by rw [zns, Int.neg_mul, hg, Int.neg_mul]
  obtain ⟨e, he, hre⟩ := fma_Z hns q1 hx fns fs fx hu hng
  rw [show -g + Z x = Z x - g from by omega] at hre
  refine ⟨e, he, hre.is ?_ ?_⟩
  · by_cases hc : (Z x).natAbs ≤ g.natAbs
    · rw [show (Z x - g).natAbs = g.natAbs - (Z x).natAbs from by omega]; exact l1 hc
    · rw [show (Z x - g).natAbs = (Z x).natAbs - g.natAbs from by omega]; exact l2 (by omega)
  · omega

end Go.Proofs.YtkelfdhpekkiaacDoor.EA
namespace Go.Proofs.YtkelfdhpekkiaacDoor
open Go.ChangeShapes Go.WideShapes Go.ChangeAt Go.RowKit
open BN

/-- The word that the tape gives where an operation has no answer: no number. -/
def nanAt (a b : Nat) (w : World) : Nat := Question.cut (.nanBits .f64 a b) (w.tape w.drawn (.nanBits .f64 a b))
theorem nanAt_lt (a b : Nat) (w : World) : nanAt a b w < 2 ^ 64 := by
  unfold nanAt Question.cut
  simp only []
  generalize w.tape w.drawn (.nanBits .f64 a b) = t
  have : t / 2 % (2 ^ 52 - 1) < 2 ^ 52 - 1 := Nat.mod_lt _ (by omega)
  omega
theorem nan_core (s m : Nat) (h : m < 2 ^ 52 - 1) : 2047 * 2 ^ 52 < (s * 2 ^ 63 + 0x7ff0000000000000 + 1 + m) % 2 ^ 63 := by omega
theorem nanAt_nan (a b : Nat) (w : World) : FT.nan (nanAt a b w) = true :=
  decide_eq_true (nan_core (w.tape w.drawn (.nanBits .f64 a b) % 2) (w.tape w.drawn (.nanBits .f64 a b) / 2 % (2 ^ 52 - 1)) (Nat.mod_lt _ (by omega)))
theorem nan_run (P : Program) (a b : Nat) (w : World) : (choose (.nanBits .f64 a b)).run P w = .ok (nanAt a b w) w.drew := rfl

def fmaPair (x y z : Nat) : Nat × Nat := if Extern.MathFMA.isNaN x then (x, y) else if Extern.MathFMA.isNaN y then (y, z) else (z, z)
theorem fma_unfold (x y z : Nat) : ∀ o, Ieee.double.fma x y z = o → Extern.MathFMA.fma #[.float .f64 x, .float .f64 y, .float .f64 z] = (match o with
    | some r => pure (Value.float .f64 r)
    | none => do pure (Value.float .f64 (← choose (.nanBits .f64 (fmaPair x y z).1 (fmaPair x y z).2)))) := by
  intro o h
  subst h
  rfl

theorem fma_r (x y z r : Nat) (h : Ieee.double.fma x y z = some r) (w : World) :
    (callFunc 36 #[.float .f64 x, .float .f64 y, .float .f64 z]).run Tryd.prog w = .ok (.value (.float .f64 r)) w := by
  rw [run_callFunc_extern Tryd.func36 (by kernel_rfl) (by kernel_rfl) (by kernel_rfl) (e := Extern.MathFMA.fma) (by kernel_rfl), fma_unfold x y z _ h]
  rfl
theorem fma_n (x y z : Nat) (h : Ieee.double.fma x y z = none) (w : World) :
    (callFunc 36 #[.float .f64 x, .float .f64 y, .float .f64 z]).run Tryd.prog w = .ok (.value (.float .f64 (nanAt (fmaPair x y z).1 (fmaPair x y z).2 w))) w.drew := by
  rw [run_callFunc_extern Tryd.func36 (by kernel_rfl) (by kernel_rfl) (by kernel_rfl) (e := Extern.MathFMA.fma) (by kernel_rfl), fma_unfold x y z _ h]
  rfl

theorem fused_c (x y z r : Nat) (h : Ieee.double.fma x y z = some r) (w : World) :
    Calls Tryd.prog 22 #[.float .f64 x, .float .f64 y, .float .f64 z] w fun e w' => e = .returned (.float .f64 r) ∧ G w w' := by
  have hr := fma_r x y z r h
  clear h
  go_enter Tryd.func22, Tryd.ntmps22
  go_wp2
  go_ret
  exact ⟨rfl, G.refl _⟩
theorem fused_n (x y z : Nat) (h : Ieee.double.fma x y z = none) (w : World) :
    Calls Tryd.prog 22 #[.float .f64 x, .float .f64 y, .float .f64 z] w fun e w' => ∃ r, e = .returned (.float .f64 r) ∧ r < 2 ^ 64 ∧ FT.nan r = true ∧ G w w' := by
  have hr := fma_n x y z h
  clear h
  have h1 := nanAt_lt (fmaPair x y z).1 (fmaPair x y z).2 w
  have h2 := nanAt_nan (fmaPair x y z).1 (fmaPair x y z).2 w
  go_enter Tryd.func22, Tryd.ntmps22
  go_wp2
  go_ret
  exact ⟨_, rfl, h1, h2, (G.refl w).drew⟩
end Go.Proofs.YtkelfdhpekkiaacDoor
