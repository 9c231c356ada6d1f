/- What is proved here: the float nearest to a ratio, its arithmetic (no program).
What is proved here: contracts of the reference's ratios: Float64, over this seat's translation.
What is proved here: contracts of the reference: Round to the nearest float, over this seat's translation.
What is proved here: contracts of the reference: Made, over this seat's translation.
What is proved here: the law BitsMakes returns true for any two whole numbers of 64 bits, in memory in which the library's table lies where it was laid; nothing that was there has turned. -/
import Derived.Test.YtkimdkgijfknlaaDoorC20
import Derived.Test.YtkimdkgijfknlaaDoorC16
import Derived.Test.YtkimdkgijfknlaaDoorC9
namespace Go.Proofs.YtkimdkgijfknlaaDoor
open Go.RowKit
open BN

theorem roundQ_mul (N D k : Nat) (hk : 0 < k) : roundQ (N * k) (D * k) = roundQ N D := by
  unfold roundQ
  rw [Nat.mul_div_mul_right _ _ hk, Nat.mul_mod_mul_right]
  have e1 : 2 * (N % D * k) = (2 * (N % D)) * k := by rw [Nat.mul_assoc]
  rw [e1]
  congr 1
  have h1 : D * k < 2 * (N % D) * k ↔ D < 2 * (N % D) := Nat.mul_lt_mul_right hk
  have h2 : 2 * (N % D) * k = D * k ↔ 2 * (N % D) = D := Nat.mul_left_inj (by omega)
  simp only [h1, h2]
theorem roundQ_cross {N D N' D' : Nat} (hD : 0 < D) (hD' : 0 < D') (h : N * D' = N' * D) : roundQ N D = roundQ N' D' := by
  rw [← roundQ_mul N D D' hD', h, ← roundQ_mul N' D' D hD, Nat.mul_comm D' D]
theorem roundQ_ge {N D T : Nat} (hD : 0 < D) (h : T * D ≤ N) : T ≤ roundQ N D := by
  have : T ≤ N / D := (Nat.le_div_iff_mul_le hD).2 h
  unfold roundQ; omega
theorem roundQ_one (x : Nat) : roundQ x 1 = x := by
  unfold roundQ
  rw [Nat.div_one, Nat.mod_one, if_neg (by omega)]; rfl
theorem rnd_roundQ (mag d : Nat) (hd : 1 ≤ d) : rnd mag d = roundQ mag (2 ^ d) := by
  unfold rnd roundQ
  have e : 2 ^ d = 2 * 2 ^ (d - 1) := by
    obtain ⟨k, rfl⟩ : ∃ k, d = k + 1 := ⟨d - 1, by omega⟩
    simp [Nat.pow_succ, Nat.mul_comm]
  congr 1
  generalize mag % 2 ^ d = r
  generalize mag / 2 ^ d = q
  rw [e]
  generalize 2 ^ (d - 1) = h
  by_cases c1 : h < r
  · rw [if_pos (Or.inl c1), if_pos (Or.inl (by omega))]
  · by_cases c2 : r = h ∧ q % 2 = 1
    · rw [if_pos (Or.inr c2), if_pos (Or.inr ⟨by omega, c2.2⟩)]
    · rw [if_neg (by rintro (h | h); exact c1 h; exact c2 h), if_neg (by rintro (h | h); omega; exact c2 ⟨by omega, h.2⟩)]
theorem shV_round (mag : Nat) (n : Int) (hm : mag < 2 ^ 64) : shV mag n = roundQ (mag * 2 ^ n.toNat) (2 ^ (-n).toNat) := by
  unfold shV
  by_cases hn : 0 ≤ n
  · rw [if_pos hn, show (-n).toNat = 0 from by omega, Nat.pow_zero, roundQ_one]
  · rw [if_neg hn, show n.toNat = 0 from by omega, Nat.pow_zero, Nat.mul_one]
    by_cases h2 : n < -64
    · rw [if_pos h2]
      have h3 : 2 ^ 65 ≤ 2 ^ (-n).toNat := pow_le (by omega)
      generalize 2 ^ (-n).toNat = D at *
      unfold roundQ
      rw [Nat.div_eq_of_lt (by omega), Nat.mod_eq_of_lt (by omega), if_neg (by omega)]
    · rw [if_neg h2]
      exact rnd_roundQ _ _ (by omega)

/-- The power of two at or below A / B. -/
def expo (A B : Nat) : Int := if B * 2 ^ ((blen A : Int) - blen B).toNat ≤ A * 2 ^ (-((blen A : Int) - blen B)).toNat then (blen A : Int) - blen B else (blen A : Int) - blen B - 1
def lastP (A B : Nat) : Int := max (expo A B - 52) (-1074)
/-- The float nearest to A / B (its place among the floats from 0 on). -/
def flV (A B : Nat) : Nat := min ((lastP A B + 1074).toNat * 2 ^ 52 + nearQ A B (lastP A B)) (2047 * 2 ^ 52)

/-- Powers below 0 away: K is great enough. -/
theorem shift_up {X Y : Nat} {p : Int} (K : Nat) (h : -(K : Int) ≤ p) : ∃ c, X * 2 ^ K = X * 2 ^ (-p).toNat * 2 ^ c ∧ Y * 2 ^ ((K : Int) + p).toNat = Y * 2 ^ p.toNat * 2 ^ c := by
  refine ⟨K - (-p).toNat, ?_, ?_⟩
  · rw [Nat.mul_assoc, ← Nat.pow_add, show (-p).toNat + (K - (-p).toNat) = K from by omega]
  · rw [Nat.mul_assoc, ← Nat.pow_add, show p.toNat + (K - (-p).toNat) = ((K : Int) + p).toNat from by omega]
theorem shift_le {X Y : Nat} {p : Int} (K : Nat) (h : -(K : Int) ≤ p) : Y * 2 ^ p.toNat ≤ X * 2 ^ (-p).toNat ↔ Y * 2 ^ ((K : Int) + p).toNat ≤ X * 2 ^ K := by
  obtain ⟨c, h1, h2⟩ := shift_up (X := X) (Y := Y) K h
  rw [h1, h2]
  exact (Nat.mul_le_mul_right_iff (Nat.two_pow_pos c)).symm
theorem shift_lt {X Y : Nat} {p : Int} (K : Nat) (h : -(K : Int) ≤ p) : X * 2 ^ (-p).toNat < Y * 2 ^ p.toNat ↔ X * 2 ^ K < Y * 2 ^ ((K : Int) + p).toNat := by
  obtain ⟨c, h1, h2⟩ := shift_up (X := X) (Y := Y) K h
  rw [h1, h2]
  exact (Nat.mul_lt_mul_right (Nat.two_pow_pos c)).symm
theorem shift_eq {X Y : Nat} {p : Int} (K : Nat) (h : -(K : Int) ≤ p) : X * 2 ^ (-p).toNat = Y * 2 ^ p.toNat ↔ X * 2 ^ K = Y * 2 ^ ((K : Int) + p).toNat := by
  obtain ⟨c, h1, h2⟩ := shift_up (X := X) (Y := Y) K h
  rw [h1, h2]
  exact (Nat.mul_left_inj (Nat.ne_of_gt (Nat.two_pow_pos c))).symm

theorem expo_or {A B : Nat} : expo A B = (blen A : Int) - blen B ∨ expo A B = (blen A : Int) - blen B - 1 := by unfold expo; split; exact Or.inl rfl; exact Or.inr rfl
/-- 2 ^ expo is at or below, ... -/
theorem expo_le {A B : Nat} (hA : A ≠ 0) (hB : B ≠ 0) (K : Nat) (hK : -(K : Int) ≤ expo A B) : B * 2 ^ ((K : Int) + expo A B).toNat ≤ A * 2 ^ K := by
  rw [← shift_le K hK]
  unfold expo
  split
  · assumption
  · obtain ⟨a1, a2, a3⟩ := blen_lo hA
    obtain ⟨b1, b2, b3⟩ := blen_lo hB
    generalize hd : (blen A : Int) - blen B - 1 = d
    calc B * 2 ^ d.toNat ≤ 2 ^ blen B * 2 ^ d.toNat := Nat.mul_le_mul_right _ (by omega)
      _ = 2 ^ (blen B + d.toNat) := by rw [Nat.pow_add]
      _ ≤ 2 ^ (blen A - 1 + (-d).toNat) := Nat.pow_le_pow_right (by omega) (by omega)
      _ = 2 ^ (blen A - 1) * 2 ^ (-d).toNat := by rw [Nat.pow_add]
      _ ≤ A * 2 ^ (-d).toNat := Nat.mul_le_mul_right _ a2
/-- ... and 2 ^ (expo + 1) above. -/
theorem expo_lt {A B : Nat} (hA : A ≠ 0) (hB : B ≠ 0) (K : Nat) (hK : -(K : Int) ≤ expo A B) : A * 2 ^ K < B * 2 ^ ((K : Int) + (expo A B + 1)).toNat := by
  rw [← shift_lt K (by omega)]
  unfold expo
  split
  · obtain ⟨a1, a2, a3⟩ := blen_lo hA
    obtain ⟨b1, b2, b3⟩ := blen_lo hB
    generalize hd : (blen A : Int) - blen B + 1 = d
    calc A * 2 ^ (-d).toNat < 2 ^ blen A * 2 ^ (-d).toNat := Nat.mul_lt_mul_of_pos_right a3 (Nat.two_pow_pos _)
      _ = 2 ^ (blen A + (-d).toNat) := by rw [Nat.pow_add]
      _ ≤ 2 ^ (blen B - 1 + d.toNat) := Nat.pow_le_pow_right (by omega) (by omega)
      _ = 2 ^ (blen B - 1) * 2 ^ d.toNat := by rw [Nat.pow_add]
      _ ≤ B * 2 ^ d.toNat := Nat.mul_le_mul_right _ b2
  · rename_i h
    rw [show (blen A : Int) - blen B - 1 + 1 = (blen A : Int) - blen B from by omega]
    exact Nat.lt_of_not_le h

theorem pow_lt_of {a b : Nat} (h : 2 ^ a < 2 ^ b) : a < b := (Nat.pow_lt_pow_iff_right (by omega : 1 < 2)).1 h
theorem expo_of {A B mag : Nat} {e : Int} (hA : A ≠ 0) (hB : B ≠ 0) (h0 : mag ≠ 0) (h : A * 2 ^ (-e).toNat = mag * B * 2 ^ e.toNat) : expo A B = e + mag.log2 := by
  have l1 := Nat.log2_self_le h0
  have l2 := Nat.lt_log2_self (n := mag)
  obtain ⟨K, hK⟩ : ∃ K : Nat, K = e.natAbs + (expo A B).natAbs + 1 := ⟨_, rfl⟩
  have hE := (shift_eq K (by omega)).1 h
  have h1 := expo_le hA hB K (by omega)
  have h2 := expo_lt hA hB K (by omega)
  rw [hE] at h1 h2
  generalize expo A B = L at *
  have hB' : 0 < B := by omega
  have g1 : B * 2 ^ ((K : Int) + L).toNat < B * 2 ^ (mag.log2 + 1 + ((K : Int) + e).toNat) := by
    refine Nat.lt_of_le_of_lt h1 ?_
    rw [Nat.mul_comm mag B, Nat.mul_assoc, Nat.pow_add]
    exact Nat.mul_lt_mul_of_pos_left (Nat.mul_lt_mul_of_pos_right l2 (Nat.two_pow_pos _)) hB'
  have g2 : B * 2 ^ (mag.log2 + ((K : Int) + e).toNat) < B * 2 ^ ((K : Int) + (L + 1)).toNat := by
    refine Nat.lt_of_le_of_lt ?_ h2
    rw [Nat.mul_comm mag B, Nat.mul_assoc, Nat.pow_add]
    exact Nat.mul_le_mul_left _ (Nat.mul_le_mul_right _ l1)
  have q1 := pow_lt_of (Nat.lt_of_mul_lt_mul_left g1)
  have q2 := pow_lt_of (Nat.lt_of_mul_lt_mul_left g2)
  omega

/-- A / B in units of 2^p is mag * 2^e in units of 2^p. -/
theorem nearQ_of {A B mag : Nat} {e : Int} (p : Int) (hB : B ≠ 0) (h : A * 2 ^ (-e).toNat = mag * B * 2 ^ e.toNat) : nearQ A B p = roundQ (mag * 2 ^ (e - p).toNat) (2 ^ (-(e - p)).toNat) := by
  unfold nearQ upP loP
  refine roundQ_cross (Nat.mul_pos (by omega) (Nat.two_pow_pos _)) (Nat.two_pow_pos _) ?_
  obtain ⟨K, hK⟩ : ∃ K : Nat, K = (-p).toNat + (-(e - p)).toNat + (-e).toNat := ⟨_, rfl⟩
  have hE := (shift_eq K (by omega)).1 h
  have e1 : A * 2 ^ (-p).toNat * 2 ^ (-(e - p)).toNat * 2 ^ (-e).toNat = A * 2 ^ K := by
    rw [Nat.mul_assoc, Nat.mul_assoc, ← Nat.pow_add, ← Nat.pow_add]; congr 2; omega
  have e2 : mag * 2 ^ (e - p).toNat * (B * 2 ^ p.toNat) * 2 ^ (-e).toNat = mag * B * 2 ^ ((K : Int) + e).toNat := by
    rw [show mag * 2 ^ (e - p).toNat * (B * 2 ^ p.toNat) = mag * B * (2 ^ (e - p).toNat * 2 ^ p.toNat) from by ac_rfl, ← Nat.pow_add, Nat.mul_assoc, ← Nat.pow_add]
    congr 2; omega
  exact Nat.eq_of_mul_eq_mul_right (Nat.two_pow_pos (-e).toNat) (by rw [e1, e2, hE])

theorem min_top (a : Nat) : min (a + 2046 * 2 ^ 52 + 2 ^ 52) (2047 * 2 ^ 52) = 2047 * 2 ^ 52 := by omega

/-- What 'nearest' of package bits gives is the float nearest to a ratio that is mag * 2^e. -/
theorem fl_near {A B mag : Nat} {e : Int} (hA : A ≠ 0) (hB : B ≠ 0) (h0 : mag ≠ 0) (hm : mag < 2 ^ 64) (h : A * 2 ^ (-e).toNat = mag * B * 2 ^ e.toNat) : nearV 11 52 mag e = flV A B := by
  have hL := expo_of hA hB h0 h
  have hle := nearV_le mag e
  unfold flV
  have hQ := nearQ_of (lastP A B) hB h
  rw [← shV_round mag _ hm] at hQ
  rw [hQ]
  unfold lastP
  rw [hL]
  have hs := nearV_ieee false mag e h0 hm
  unfold Ieee.Format.nearest at hs
  rw [if_neg h0, FT.leastPlace_eq, FT.infRung_eq, FT.binade_eq, FT.word_eq] at hs
  have hl : (max (e + (mag.log2 : Int) - (52 : Nat)) (-1074)) = max (e + (mag.log2 : Int) - 52) (-1074) := rfl
  have hs2 : FT.wrd false (min ((max (e + (mag.log2 : Int) - (52 : Nat)) (-1074) - -1074).toNat * 2 ^ 52 + Ieee.Toward.even.cut false (mag <<< (e - max (e + (mag.log2 : Int) - (52 : Nat)) (-1074)).toNat) (max (e + (mag.log2 : Int) - (52 : Nat)) (-1074) - e).toNat) (2047 * 2 ^ 52)) = FT.wrd false (nearV 11 52 mag e) := hs
  rw [hl] at hs2
  generalize max (e + (mag.log2 : Int) - 52) (-1074) = last at *
  have hc := shV_cut false mag (e - last) h0 hm
  rw [show (-(e - last)).toNat = (last - e).toNat from by omega] at hc
  rw [← hc, show (last - -1074).toNat = (last + 1074).toNat from by omega] at hs2
  have hw : ∀ x : Nat, FT.wrd false x = x := fun x => rfl
  rw [hw, hw] at hs2
  exact hs2.symm

theorem nearV_at {v : Nat} {P : Int} (hv : v < 2 ^ 53) (hP : -1074 ≤ P) (h : P = -1074 ∨ 2 ^ 52 ≤ v) : nearV 11 52 v P = min ((P + 1074).toNat * 2 ^ 52 + v) (2047 * 2 ^ 52) := by
  unfold nearV
  by_cases h0 : v = 0
  · subst h0
    have : P = -1074 := by omega
    subst this
    rfl
  rw [if_neg h0]
  have h2 : (2 : Int) ^ (11 - 1) = 1024 := rfl
  rw [h2]
  have hs0 : shV v 0 = v := by unfold shV; simp
  have l1 := Nat.log2_self_le h0
  have l2 := Nat.lt_log2_self (n := v)
  by_cases hv2 : 2 ^ 52 ≤ v
  · have hlg : v.log2 = 52 := by
      have a : v.log2 < 53 := (Nat.log2_lt h0).2 hv
      have b : ¬ v.log2 < 52 := by rw [Nat.log2_lt h0]; omega
      omega
    rw [hlg]
    by_cases hbig : (1024 : Int) - 1 < P + (52 : Nat)
    · rw [if_pos hbig]
      have : 2046 * 2 ^ 52 ≤ (P + 1074).toNat * 2 ^ 52 := Nat.mul_le_mul_right _ (by omega)
      omega
    · rw [if_neg hbig]
      have hp : max (P + ((52 : Nat) : Int)) (2 - 1024) = P + 52 := by omega
      rw [hp, show P - (P + 52 - (52 : Nat)) = 0 from by omega, hs0, show (P + 52 - (2 - 1024)).toNat = (P + 1074).toNat from by omega]
      have : (P + 1074).toNat * 2 ^ 52 ≤ 2045 * 2 ^ 52 := Nat.mul_le_mul_right _ (by omega)
      omega
  · have hP2 : P = -1074 := by omega
    subst hP2
    have hlg : v.log2 < 52 := (Nat.log2_lt h0).2 (by omega)
    rw [if_neg (by omega)]
    have hp : max (-1074 + (v.log2 : Int)) (2 - 1024) = -1022 := by omega
    rw [hp]
    show 0 * 2 ^ 52 + shV v 0 = min (0 * 2 ^ 52 + v) _
    rw [hs0]
    omega

theorem roundQ_half {N D : Nat} (hD : 0 < D) (hN : 2 ^ 53 * D ≤ N) (h : roundQ N D = 2 ^ 53) : roundQ N (2 * D) = 2 ^ 52 := by
  have hq : 2 ^ 53 ≤ N / D := (Nat.le_div_iff_mul_le hD).2 hN
  have hm := Nat.div_add_mod N D
  have hr := Nat.mod_lt N hD
  unfold roundQ at h
  have hq2 : N / D = 2 ^ 53 := by omega
  rw [hq2] at h hm
  have hle : 2 * (N % D) ≤ D := by
    by_cases c : D < 2 * (N % D)
    · rw [if_pos (Or.inl c)] at h; omega
    · omega
  generalize N % D = r at *
  have hN2 : N = r + 2 * D * 2 ^ 52 := by omega
  unfold roundQ
  rw [hN2, Nat.add_mul_div_left _ _ (by omega), Nat.add_mul_mod_self_left, Nat.div_eq_of_lt (by omega), Nat.mod_eq_of_lt (by omega), if_neg (by omega)]

theorem fin_core (a : Nat) : min ((a + 1) * 2 ^ 52 + 2 ^ 52) (2047 * 2 ^ 52) = min (a * 2 ^ 52 + 2 ^ 53) (2047 * 2 ^ 52) := by omega
theorem near_main {Q v : Nat} {last P : Int} (h1 : Q ≤ 2 ^ 53) (h2 : last = -1074 ∨ 2 ^ 52 ≤ Q) (h3 : -1074 ≤ last)
    (ho : (blen Q ≤ 53 ∧ v = Q ∧ P = last) ∨ (blen Q = 53 + 1 ∧ Q % 2 ^ 53 = 0 ∧ v = Q / 2 ∧ P = last + 1)) :
    v < 2 ^ 53 ∧ -1074 ≤ P ∧ nearV 11 52 v P = min ((last + 1074).toNat * 2 ^ 52 + Q) (2047 * 2 ^ 52) := by
  rcases ho with ⟨c1, rfl, rfl⟩ | ⟨c1, c2, c4, rfl⟩
  · have c3 : v < 2 ^ 53 := blen_le_iff.1 c1
    exact ⟨c3, h3, nearV_at c3 h3 h2⟩
  · have c3 : ¬ Q < 2 ^ 53 := by rw [← blen_le_iff]; omega
    have c5 : Q = 2 ^ 53 := by omega
    have c6 : v = 2 ^ 52 := by omega
    clear c1 c2 c3 c4 h1 h2
    have c7 : v < 2 ^ 53 := by omega
    have c8 : 2 ^ 52 ≤ v := by omega
    refine ⟨c7, by omega, ?_⟩
    rw [nearV_at c7 (by omega) (Or.inr c8), show (last + 1 + 1074).toNat = (last + 1074).toNat + 1 from by omega, c5, c6]
    exact fin_core _

/-- What 'near' of the reference gives, as a float. -/
theorem near_fl {A B v : Nat} {p P : Int} {x : Bool} (hA : A ≠ 0) (hB : B ≠ 0) (hat : NearAt A B 53 (startP A B 53 (-1074)) p) (ho : NearOut A B 53 p v P x) :
    v < 2 ^ 53 ∧ -1074 ≤ P ∧ nearV 11 52 v P = flV A B := by
  have hE := expo_or (A := A) (B := B)
  obtain ⟨K, hK⟩ : ∃ K : Nat, K = (expo A B).natAbs + 2000 := ⟨_, rfl⟩
  have hlo := expo_le hA hB K (by omega)
  have hhi := expo_lt hA hB K (by omega)
  have hS : startP A B 53 (-1074) = max ((blen A : Int) - blen B - 53) (-1074) := by unfold startP; split <;> omega
  have hl : lastP A B = max (expo A B - 52) (-1074) := rfl
  -- sizes of nearQ
  have up : ∀ q : Int, -(K : Int) ≤ q → expo A B - 52 ≤ q → nearQ A B q ≤ 2 ^ 53 := by
    intro q hq hq2
    unfold nearQ
    refine roundQ_le ?_
    unfold upP loP
    rw [← Nat.mul_assoc, shift_lt K hq]
    refine Nat.lt_of_lt_of_le hhi ?_
    rw [Nat.mul_comm (2 ^ 53) B, Nat.mul_assoc, ← Nat.pow_add]
    exact Nat.mul_le_mul_left _ (Nat.pow_le_pow_right (by omega) (by omega))
  have dn : ∀ (q : Int) (t : Nat), -(K : Int) ≤ q → q + t ≤ expo A B → 2 ^ t * loP B q ≤ upP A q := by
    intro q t hq hq2
    unfold upP loP
    rw [← Nat.mul_assoc, shift_le K hq]
    refine Nat.le_trans ?_ hlo
    rw [Nat.mul_comm (2 ^ t) B, Nat.mul_assoc, ← Nat.pow_add]
    exact Nat.mul_le_mul_left _ (Nat.pow_le_pow_right (by omega) (by omega))
  have hlast : -(K : Int) ≤ lastP A B := by omega
  have main : ∀ (v : Nat) (P : Int), NearOut A B 53 (lastP A B) v P x → v < 2 ^ 53 ∧ -1074 ≤ P ∧ nearV 11 52 v P = flV A B := by
    intro v P ho
    have h1 := up (lastP A B) hlast (by omega)
    have h2 : lastP A B = -1074 ∨ 2 ^ 52 ≤ nearQ A B (lastP A B) := by
      by_cases hc : lastP A B = -1074
      · exact Or.inl hc
      · exact Or.inr (roundQ_ge (loP_pos hB) (dn _ 52 hlast (by omega)))
    unfold flV
    have h3 : -1074 ≤ lastP A B := by omega
    exact near_main h1 h2 h3 ho.1
  rcases hat with hp | ⟨hp, hns⟩
  · by_cases hc : startP A B 53 (-1074) = lastP A B
    · rw [hp, hc] at ho
      exact main v P ho
    · -- one below the last place
      have e1 : lastP A B = p + 1 := by omega
      have e2 : p + 53 ≤ expo A B := by omega
      have hd := dn p 53 (by omega) e2
      have hge : 2 ^ 53 ≤ nearQ A B p := roundQ_ge (loP_pos hB) hd
      obtain ⟨(⟨c1, rfl, rfl⟩ | ⟨c1, c2, c6, rfl⟩), c5⟩ := ho
      · have := blen_le_iff.1 c1; omega
      · have c3 : nearQ A B p < 2 ^ 54 := blen_le_iff.1 (by omega)
        have c4 : nearQ A B p = 2 ^ 53 := by omega
        have hh : nearQ A B (p + 1) = 2 ^ 52 := by
          have := roundQ_half (loP_pos hB) hd c4
          rw [← this]
          unfold nearQ
          refine roundQ_cross (loP_pos hB) (by have := loP_pos (p := p) hB; omega) ?_
          unfold upP loP
          by_cases hp0 : 0 ≤ p
          · rw [show (-(p + 1)).toNat = 0 from by omega, show (-p).toNat = 0 from by omega, show (p + 1).toNat = p.toNat + 1 from by omega, Nat.pow_succ]
            ac_rfl
          · rw [show (-p).toNat = (-(p + 1)).toNat + 1 from by omega, show (p + 1).toNat = 0 from by omega, show p.toNat = 0 from by omega, Nat.pow_succ]
            ac_rfl
        have c7 : v = 2 ^ 52 := by omega
        have c8 : 2 ^ 52 ≤ v := by omega
        have c9 : v < 2 ^ 53 := by omega
        refine ⟨c9, by omega, ?_⟩
        unfold flV
        rw [e1, hh, nearV_at c9 (by omega) (Or.inr c8), c7]
  · by_cases hc : startP A B 53 (-1074) = lastP A B
    · exact absurd (stopQ_of_le (by rw [hc]; exact up _ hlast (by omega))) hns
    · rw [show p = lastP A B from by omega] at ho
      exact main v P ho

end Go.Proofs.YtkimdkgijfknlaaDoor
namespace Go.Proofs.YtkimdkgijfknlaaDoor
open Go.ChangeShapes Go.WideShapes Go.ChangeAt Go.RowKit
open BN
attribute [local go_sem] frombits_r tobits_r unary_negf

/-- A float is handed back, and a word on whether it is just that. -/
def RetFl (w : World) (r : Nat) (e : Ending) (w' : World) : Prop := ∃ x : Bool, e = .returned (.tuple #[.float .f64 r, .bool x]) ∧ G w w'

theorem float64_zero (w : World) (b : Nat) (sb : Int) (h : RatIs w b 0 sb) :
    Calls Tryd.prog 54 #[.pointer (some ⟨b, 0, none⟩)] w (RetFl w 0) := by
  have HS : Hid _ := signR_c w b 0 sb h
  have he : (0 : Int).sign = 0 := rfl
  rw [he] at HS
  clear h he
  go_enter Tryd.func54, Tryd.ntmps54
  go_wp2_with fail
  refine Calls.mono (P := Tryd.prog) HS.out ?_
  rintro e w2 ⟨rfl, hg2⟩
  go_wp2_with fail
  go_ret2
  exact ⟨_, rfl, hg2⟩

theorem sg_neg {n : Bool} {a : Nat} {s : Int} (h : sg n a = s) (h2 : n = true → a ≠ 0) : n = decide (s < 0) := by
  subst h
  unfold sg
  cases n
  · exact (decide_eq_false (by simp)).symm
  · have := h2 rfl
    exact (decide_eq_true (by simp; omega)).symm
theorem negFloat_wrd (r : Nat) (hr : r < 2 ^ 63) : Op.negFloat .f64 r = FT.wrd true r := by
  rw [negFloat_eq r (by omega)]
  have h1 : FT.neg r = false := by unfold FT.neg; simp; omega
  unfold negV
  rw [if_neg (by rw [h1]; simp)]
  rfl

set_option maxRecDepth 10000 in
set_option maxHeartbeats 4000000 in
theorem float64_c (w : World) (b K : Nat) (sa : Int) (sb : Nat) (hK : K ≤ 10000) (hK1 : 100 ≤ K) (h0 : sa ≠ 0) (hsb : 0 < sb) (ha2 : sa.natAbs < 2 ^ (32 * K)) (hb2 : sb < 2 ^ (32 * K)) (hst : startP sa.natAbs sb 53 (-1074) ≤ 5990)
    (hb : b < w.heap.size) (h : RatIs w b sa (sb : Int)) :
    Calls Tryd.prog 54 #[.pointer (some ⟨b, 0, none⟩)] w (RetFl w (FT.wrd (decide (sa < 0)) (flV sa.natAbs sb))) := by
  have HS : Hid _ := signR_c w b sa sb h
  have ht : ((sa.sign : Int) == 0) = false := by simp; exact h0
  have hR := h
  obtain ⟨⟨n, v, a, ⟨c1, -, -, -⟩, -, h1, h2⟩, -⟩ := h
  have hn := sg_neg h1 h2
  have HR : Hid (RatIs w b sa (sb : Int)) := hR
  have HSB : Hid ((sb : Int) ≠ 0) := by show (sb : Int) ≠ 0; omega
  have HA2 : Hid (sa.natAbs < 2 ^ (32 * K)) := ha2
  have HB2 : Hid (sb < 2 ^ (32 * K)) := hb2
  have HA0 : Hid (sa.natAbs ≠ 0) := by show sa.natAbs ≠ 0; omega
  have HB0 : Hid (sb ≠ 0) := by show sb ≠ 0; omega
  have HST : Hid (startP sa.natAbs sb 53 (-1074) ≤ 5990) := hst
  have HFL : Hid (flV sa.natAbs sb < 2 ^ 63) := by show flV sa.natAbs sb < 2 ^ 63; have := Nat.min_le_right ((lastP sa.natAbs sb + 1074).toNat * 2 ^ 52 + nearQ sa.natAbs sb (lastP sa.natAbs sb)) (2047 * 2 ^ 52); unfold flV; omega
  rw [← hn]
  clear ha2 hb2 hst h1 h2 hR hsb h0
  generalize sa.sign = sg at *
  have HN : Hid _ := hn
  clear hn
  go_enter Tryd.func54, Tryd.ntmps54
  go_wp2_with fail
  refine Calls.mono (P := Tryd.prog) HS.out ?_
  rintro e w2 ⟨rfl, hg2⟩
  clear HS
  as_aux_lemma =>
    go_wp2_with fail
    have hn0 := NI.new hg2 63
    have hGa := hg2.alloc (.cells #[.bool false, .slice none 0 0] 63)
    generalize w2.heap.size = pn at *
    generalize w2.alloc (.cells #[.bool false, .slice none 0 0] 63) = wa at *
    have HL : Hid _ := absI_c wa pn 0 b 0 0 sa K (by omega) HA2.out hn0.2.1 hn0.2.2 (IntIs.G HR.out.1 hb hGa)
    have HN0 : Hid (NI w wa pn 0) := hn0
    clear hn0 hg2
    refine Calls.mono (P := Tryd.prog) HL.out ?_
    intro e w3 hs
    obtain ⟨rfl, hG3, hN3, -, -⟩ := SetTo.step hGa HN0.out hs
    have HN3 : Hid (NI w w3 pn (sa.natAbs : Int)) := hN3
    clear hs hN3 HL HN0 hGa
    go_wp2_with fail
    refine Calls.mono (P := Tryd.prog) (den_c w3 b sa sb HSB.out (HR.out.G hb hG3)) ?_
    rintro e w4 ⟨rfl, hg4⟩
    have hG4 := G.trans hG3 hg4
    have hN4 := HN3.out.G hg4
    have HNR : Hid _ := near_c w4 pn 0 b 2 sa.natAbs sb 53 K (-1074) hK hK1 HA0.out HB0.out HA2.out HB2.out (by omega) (by omega) (by omega) (by omega) hN4.2.1 (G.lt hG4 hb) hN4.2.2 (HR.out.G hb hG4).2
    clear hg4 hN4 HN3 hG3
    go_wp2_with fail
    refine Calls.mono (P := Tryd.prog) HNR.out ?_
    intro e w5 hs
    obtain ⟨q, m, P, p, x, rfl, hg5, hNq, hout, hat⟩ := hs
    have hG5 := G.trans hG4 hg5
    obtain ⟨hm, hP1, hval⟩ := near_fl HA0.out HB0.out hat hout
    have hP2 : P ≤ 6000 := by
      have := HST.out
      obtain ⟨(⟨-, -, h⟩ | ⟨-, -, -, h⟩), -⟩ := hout <;> rcases hat with h' | ⟨h', -⟩ <;> omega
    have HU : Hid _ := uint64I_c w5 q 0 (m : Int) (by rw [Int.natAbs_natCast]; omega) hNq.2.2
    rw [Int.natAbs_natCast] at HU
    have hfl := floatOf_nat m (by omega)
    have HX : Hid _ := fun w => ldexp_q m P w hm hP1 hP2
    rw [hval] at HX
    have HFL2 := HFL.out
    generalize flV sa.natAbs sb = r at *
    have HI : Hid _ := fun w => isinf_c r w (by omega)
    have hng := negFloat_wrd r HFL2
    have hw0 := wrd_false' r
    have c5 : w5.cell? ⟨b, 0, none⟩ = some (.bool n) := G.cell hG5 hb c1
    clear hg5 hNq hout hat hm hP1 hP2 hval HNR hG4 HFL HFL2 HN HST HR HA2 HB2 HA0 HB0 HSB c1
    as_aux_lemma =>
      go_wp2_with fail
      refine Calls.mono (P := Tryd.prog) HU.out ?_
      rintro e w6 ⟨rfl, hg6⟩
      have hG6 := G.trans hG5 hg6
      have hb5 := G.lt hG5 hb
      have c6 : w6.cell? ⟨b, 0, none⟩ = some (.bool n) := G.cell hg6 hb5 c5
      clear c5 HU
      go_wp2_with fail


      refine Calls.mono (P := Tryd.prog) (HX.out _) ?_
      rintro e w7 ⟨rfl, hg7⟩
      have hG7 := G.trans hG6 hg7
      have c7 : w7.cell? ⟨b, 0, none⟩ = some (.bool n) := G.cell hg7 (G.lt hG6 hb) c6
      clear c6 hg6 hG5
      go_wp2_with fail
      refine Calls.mono (P := Tryd.prog) (HI.out _) ?_
      rintro e w8 ⟨rfl, hg8⟩
      have hG8 := G.trans hG7 hg8
      have c8 : w8.cell? ⟨b, 0, none⟩ = some (.bool n) := G.cell hg8 (G.lt hG7 hb) c7
      clear c7 hg8 hg7 hG6 HX HI hfl
      generalize decide (FT.rung r = FT.infR) = inf at *
      have hng2 : Ending.returned (Value.tuple #[.float .f64 (Op.negFloat .f64 r), .bool x]) = .returned (.tuple #[.float .f64 (FT.wrd true r), .bool x]) := by rw [hng]
      have hng3 : Ending.returned (Value.tuple #[.float .f64 (Op.negFloat .f64 r), .bool false]) = .returned (.tuple #[.float .f64 (FT.wrd true r), .bool false]) := by rw [hng]
      clear hng
      cases n
      · rw [hw0]
        cases inf
        · as_aux_lemma =>
            go_wp2_with fail
            go_ret2
            exact ⟨_, rfl, hG8⟩
        · as_aux_lemma =>
            go_wp2_with fail
            go_ret2
            exact ⟨_, rfl, hG8⟩
      · cases inf
        · as_aux_lemma =>
            go_wp2_with fail
            go_ret2
            exact ⟨_, hng2, hG8⟩
        · as_aux_lemma =>
            go_wp2_with fail
            go_ret2
            exact ⟨_, hng3, hG8⟩

end Go.Proofs.YtkimdkgijfknlaaDoor
namespace Go.Proofs.YtkimdkgijfknlaaDoor
open Go.ChangeShapes Go.WideShapes Go.ChangeAt Go.RowKit
open BN
attribute [local go_sem] frombits_r tobits_r unary_negf

set_option maxRecDepth 100000 in
theorem round_zero (w : World) (b : Nat) (sb : Int) (hb : b < w.heap.size) (h : RatIs w b 0 sb) :
    Calls Tryd.prog 40 #[.pointer (some ⟨b, 0, none⟩), .int .i64 1] w fun o w' => o = .returned (.float .f64 0) ∧ G w w' := by
  have HF : Hid _ := float64_zero w b sb h
  have HS : Hid (∀ w1, G w w1 → _) := fun w1 g => signR_c w1 b 0 sb (h.G hb g)
  have he : (0 : Int).sign = 0 := rfl
  rw [he] at HS
  clear h he
  go_enter Tryd.func40, Tryd.ntmps40
  go_wp2_with fail
  refine Calls.mono (P := Tryd.prog) HF.out ?_
  intro e w1 h
  obtain ⟨x, rfl, g1⟩ := h
  go_wp2_with fail
  refine Calls.mono (P := Tryd.prog) (HS.out w1 g1) ?_
  rintro e w2 ⟨rfl, g2⟩
  go_wp2_with fail
  go_ret
  exact ⟨rfl, G.trans g1 g2⟩

theorem sign_one {sa : Int} (h0 : sa ≠ 0) : (sa < 0 ∧ sa.sign = -1) ∨ (¬ sa < 0 ∧ sa.sign = 1) := by
  rcases Int.lt_or_gt_of_ne h0 with h | h
  · exact Or.inl ⟨h, Int.sign_eq_neg_one_of_neg h⟩
  · exact Or.inr ⟨by omega, Int.sign_eq_one_of_pos h⟩
theorem flV_le (A B : Nat) : flV A B ≤ 2047 * 2 ^ 52 := Nat.min_le_right _ _

set_option maxRecDepth 100000 in
theorem round_core (w : World) (b : Nat) (sa sb : Int) (s : Bool) (r : Nat) (hr : r ≤ 2047 * 2 ^ 52) (h0 : sa ≠ 0) (hs : s = decide (sa < 0)) (hb : b < w.heap.size) (h : RatIs w b sa sb)
    (HF : Calls Tryd.prog 54 #[.pointer (some ⟨b, 0, none⟩)] w (RetFl w (FT.wrd s r))) :
    Calls Tryd.prog 40 #[.pointer (some ⟨b, 0, none⟩), .int .i64 1] w fun o w' => o = .returned (.float .f64 (FT.wrd s r)) ∧ G w w' := by
  have HF : Hid _ := HF
  have HS : Hid (∀ w1, G w w1 → _) := fun w1 g => signR_c w1 b sa sb (h.G hb g)
  have ht : ((sa.sign : Int) == 0) = false := by simp; exact h0
  have e1 := FT.eq_zero (FT.wrd s r)
  rw [FT.wrd_rung s r (by omega)] at e1
  have hf : ∃ z, floatOfInt .f64 sa.sign = z ∧ FT.neg z = s ∧ z < 2 ^ 64 := by
    rcases sign_one h0 with ⟨h1, h2⟩ | ⟨h1, h2⟩
    · rw [h2, hs, decide_eq_true h1]; exact ⟨_, rfl, by decide, by decide⟩
    · rw [h2, hs, decide_eq_false h1]; exact ⟨_, rfl, by decide, by decide⟩
  obtain ⟨z, hz, hz1, hz2⟩ := hf
  have HC : Hid _ := fun w => copysign_c 0 z w (by omega) hz2
  rw [hz1] at HC
  have e0 : FT.rung 0 + (if s then 2 ^ 63 else 0) = FT.wrd s 0 := by unfold FT.wrd FT.rung; cases s <;> simp
  rw [e0] at HC
  clear h h0 hs hz1 hz2 e0
  generalize sa.sign = sg at *
  by_cases hr0 : r = 0
  · subst hr0
    rw [decide_eq_true rfl] at e1
    generalize FT.wrd s 0 = R at *
    clear hr hb
    go_enter Tryd.func40, Tryd.ntmps40
    go_wp2_with fail
    refine Calls.mono (P := Tryd.prog) HF.out ?_
    intro e w1 h
    obtain ⟨x, rfl, g1⟩ := h
    go_wp2_with fail
    refine Calls.mono (P := Tryd.prog) (HS.out w1 g1) ?_
    rintro e w2 ⟨rfl, g2⟩
    have g3 := G.trans g1 g2
    go_wp2_with fail
    refine Calls.mono (P := Tryd.prog) (HS.out w2 g3) ?_
    rintro e w3 ⟨rfl, g4⟩
    have g5 := G.trans g3 g4
    clear g1 g2 g3 g4
    go_wp2_with fail
    try simp only [hz]
    refine Calls.mono (P := Tryd.prog) (HC.out _) ?_
    rintro e w4 ⟨rfl, g6⟩
    have g7 := G.trans g5 g6
    clear g5 g6
    go_wp2_with fail
    go_ret
    exact ⟨rfl, g7⟩
  · rw [decide_eq_false hr0] at e1
    generalize FT.wrd s r = R at *
    clear hr hb hr0
    go_enter Tryd.func40, Tryd.ntmps40
    go_wp2_with fail
    refine Calls.mono (P := Tryd.prog) HF.out ?_
    intro e w1 h
    obtain ⟨x, rfl, g1⟩ := h
    go_wp2_with fail
    refine Calls.mono (P := Tryd.prog) (HS.out w1 g1) ?_
    rintro e w2 ⟨rfl, g2⟩
    have g3 := G.trans g1 g2
    clear g1 g2
    go_wp2_with fail
    go_ret
    exact ⟨rfl, g3⟩

end Go.Proofs.YtkimdkgijfknlaaDoor
namespace Go.Proofs.YtkimdkgijfknlaaDoor
open Go.ChangeShapes Go.WideShapes Go.ChangeAt Go.RowKit
open BN

/-- Lowest terms. -/
theorem low_fact {N : Int} {D g : Nat} (hN : N ≠ 0) (hD : 0 < D) (hg : g = Nat.gcd N.natAbs D) :
    (Int.tdiv N g).natAbs * D = N.natAbs * (D / g) ∧ Int.tdiv N g ≠ 0 ∧ (decide (Int.tdiv N g < 0) = decide (N < 0)) ∧ 0 < D / g ∧ (Int.tdiv N g).natAbs ≤ N.natAbs ∧ D / g ≤ D := by
  have hg0 : 0 < g := by rw [hg]; exact Nat.gcd_pos_of_pos_right _ hD
  obtain ⟨a, ha⟩ : g ∣ N.natAbs := by rw [hg]; exact Nat.gcd_dvd_left _ _
  obtain ⟨d, hd⟩ : g ∣ D := by rw [hg]; exact Nat.gcd_dvd_right _ _
  have h1 : (Int.tdiv N g).natAbs = a := by
    rw [Int.natAbs_tdiv, Int.natAbs_natCast, ha]
    exact Nat.mul_div_cancel_left _ hg0
  have h2 : D / g = d := by rw [hd, Nat.mul_div_cancel_left _ hg0]
  have ha0 : a ≠ 0 := by intro h; rw [h, Nat.mul_zero] at ha; omega
  have hd0 : d ≠ 0 := by intro h; rw [h, Nat.mul_zero] at hd; omega
  have h3 : Int.tdiv N g = if N < 0 then -(a : Int) else a := by
    by_cases hn : N < 0
    · have : N = -((g * a : Nat) : Int) := by omega
      rw [if_pos hn, this, Int.neg_tdiv, ← Int.ofNat_tdiv, Nat.mul_div_cancel_left _ hg0]
    · have : N = ((g * a : Nat) : Int) := by omega
      rw [if_neg hn, this, ← Int.ofNat_tdiv, Nat.mul_div_cancel_left _ hg0]
  refine ⟨?_, ?_, ?_, by omega, ?_, ?_⟩
  · rw [h1, h2, hd, ha, Nat.mul_comm g d, Nat.mul_comm g a]; ac_rfl
  · rw [h3]; split <;> omega
  · rw [h3]; congr 1; split <;> simp <;> omega
  · rw [h1, ha]; exact Nat.le_mul_of_pos_left _ hg0
  · exact Nat.div_le_self _ _

/-- A new Rat that nothing has written yet. -/
def RatZ (w : World) (p : Nat) : Prop := IntAt w p 0 false (.slice none 0 0) ∧ IntAt w p 2 false (.slice none 0 0)
theorem RatZ.rat {w : World} {p : Nat} (h : RatZ w p) : RatIs w p 0 0 :=
  ⟨⟨false, .slice none 0 0, 0, h.1, num_nil _ _ _, rfl, fun h => by cases h⟩, ⟨false, .slice none 0 0, 0, h.2, num_nil _ _ _, rfl, fun h => by cases h⟩⟩
theorem RatZ.new (w : World) (t : TypeId) : RatZ (w.alloc (.cells #[.bool false, .slice none 0 0, .bool false, .slice none 0 0] t)) w.heap.size := by
  refine ⟨⟨?_, ?_, World.frozen?_alloc_at _ _ _ _ rfl, World.frozen?_alloc_at _ _ _ _ rfl⟩, ⟨?_, ?_, World.frozen?_alloc_at _ _ _ _ rfl, World.frozen?_alloc_at _ _ _ _ rfl⟩⟩
  all_goals rw [World.cell?_alloc_at _ _ _ _ rfl]; rfl
theorem RatZ.G {w w' : World} {p : Nat} (h : RatZ w p) (hp : p < w.heap.size) (g : G w w') : RatZ w' p := by
  obtain ⟨⟨a1, a2, a3, a4⟩, ⟨b1, b2, b3, b4⟩⟩ := h
  exact ⟨⟨G.cell g hp a1, G.cell g hp a2, (Below.frozen g hp).trans a3, (Below.frozen g hp).trans a4⟩, ⟨G.cell g hp b1, G.cell g hp b2, (Below.frozen g hp).trans b3, (Below.frozen g hp).trans b4⟩⟩
theorem RatZ.GX {w w' : World} {p b : Nat} (h : RatZ w p) (hp : p < w.heap.size) (hne : p ≠ b) (g : GX b w w') : RatZ w' p := by
  have hb := g.block p hp (fun e => hne (Option.some.inj e))
  obtain ⟨⟨a1, a2, a3, a4⟩, ⟨b1, b2, b3, b4⟩⟩ := h
  exact ⟨⟨(World.cell?_of_block hb).trans a1, (World.cell?_of_block hb).trans a2, (World.frozen?_of_block hb).trans a3, (World.frozen?_of_block hb).trans a4⟩, ⟨(World.cell?_of_block hb).trans b1, (World.cell?_of_block hb).trans b2, (World.frozen?_of_block hb).trans b3, (World.frozen?_of_block hb).trans b4⟩⟩

def madeV (m c : Int) : Nat := if m < 0 then nearV 11 52 m.natAbs c + 2 ^ 63 else nearV 11 52 m.natAbs c

/-- The last call: Round of a Rat that is m * 2^c. -/
theorem round_made (w : World) (p : Nat) (m c N : Int) (D : Nat) (hm : m.natAbs < 2 ^ 64) (hc1 : -5000 ≤ c) (hc2 : c ≤ 5000) (hN : N = m * 2 ^ c.toNat) (hD : D = 2 ^ (-c).toNat)
    (hp : p < w.heap.size) (h : RatIs w p (Int.tdiv N (Nat.gcd N.natAbs D : Nat)) ((D / Nat.gcd N.natAbs D : Nat) : Int)) :
    Calls Tryd.prog 40 #[.pointer (some ⟨p, 0, none⟩), .int .i64 1] w fun o w' => o = .returned (.float .f64 (madeV m c)) ∧ G w w' := by
  by_cases h0 : m = 0
  · subst h0
    rw [Int.zero_mul] at hN
    subst hN
    have e1 : Int.tdiv 0 (Nat.gcd (0 : Int).natAbs D : Nat) = 0 := Int.zero_tdiv _
    rw [e1] at h
    have e2 : madeV 0 c = 0 := by unfold madeV nearV; simp
    rw [e2]
    exact round_zero w p _ hp h
  · have hp2 : (2 : Int) ^ c.toNat = ((2 ^ c.toNat : Nat) : Int) := FT.ipow _
    have hN0 : N ≠ 0 := by rw [hN, hp2]; exact Int.mul_ne_zero h0 (by have := Nat.two_pow_pos c.toNat; omega)
    have hNa : N.natAbs = m.natAbs * 2 ^ c.toNat := by rw [hN, hp2, Int.natAbs_mul, Int.natAbs_natCast]
    have hD0 : 0 < D := by rw [hD]; exact Nat.two_pow_pos _
    have hsg : decide (N < 0) = decide (m < 0) := by
      rw [hN, hp2]
      have := Nat.two_pow_pos c.toNat
      generalize 2 ^ c.toNat = q at *
      congr 1
      apply propext
      constructor
      · intro hx
        by_cases hm0 : m < 0
        · exact hm0
        · have := Int.mul_nonneg (show 0 ≤ m by omega) (show (0 : Int) ≤ q by omega); omega
      · intro hx; exact Int.mul_neg_of_neg_of_pos hx (by omega)
    obtain ⟨f1, f2, f3, f4, f5, f6⟩ := low_fact hN0 hD0 rfl
    have hA : (Int.tdiv N (Nat.gcd N.natAbs D : Nat)).natAbs ≠ 0 := by omega
    have hfl : flV (Int.tdiv N (Nat.gcd N.natAbs D : Nat)).natAbs (D / Nat.gcd N.natAbs D) = nearV 11 52 m.natAbs c := by
      refine (fl_near hA (by omega) (by omega) hm ?_).symm
      rw [← hD, f1, hNa]; ac_rfl
    obtain ⟨k, hk⟩ : ∃ k : Nat, k = 5064 := ⟨_, rfl⟩
    obtain ⟨K, hK⟩ : ∃ K : Nat, K = 200 := ⟨_, rfl⟩
    have hNb : N.natAbs < 2 ^ k := by
      rw [hNa]
      calc m.natAbs * 2 ^ c.toNat < 2 ^ 64 * 2 ^ c.toNat := Nat.mul_lt_mul_of_pos_right hm (Nat.two_pow_pos _)
        _ = 2 ^ (64 + c.toNat) := by rw [Nat.pow_add]
        _ ≤ 2 ^ k := Nat.pow_le_pow_right (by omega) (by omega)
    have hDb : D < 2 ^ (32 * K) := by rw [hD]; exact Nat.pow_lt_pow_right (by omega) (by omega)
    generalize Int.tdiv N (Nat.gcd N.natAbs D : Nat) = A at *
    generalize D / Nat.gcd N.natAbs D = B at *
    have hbl : blen A.natAbs ≤ k := blen_le_iff.2 (by omega)
    have hlb : 1 ≤ blen B := (blen_lo (by omega : B ≠ 0)).1
    have hst : startP A.natAbs B 53 (-1074) ≤ 5990 := by unfold startP; split <;> omega
    have hA2 : A.natAbs < 2 ^ (32 * K) := Nat.lt_of_lt_of_le (blen_le_iff.1 hbl) (Nat.pow_le_pow_right (by omega) (by omega))
    have hF := float64_c w p K A B (by omega) (by omega) (by omega) f4 hA2 (by omega) hst hp h
    have e2 : madeV m c = FT.wrd (decide (A < 0)) (flV A.natAbs B) := by
      rw [f3, hsg, hfl]
      unfold madeV FT.wrd
      by_cases hx : m < 0
      · rw [if_pos hx, decide_eq_true hx, if_pos rfl]
      · rw [if_neg hx, decide_eq_false hx, if_neg (by simp)]
    rw [e2]
    exact round_core w p A B _ _ (flV_le _ _) (by omega) rfl hp h hF

theorem made_ref_c (w : World) (m e : Int) (h1 : -9223372036854775808 ≤ m) (h2 : m ≤ 9223372036854775807) (he1 : -9223372036854775808 ≤ e) (he2 : e ≤ 9223372036854775807) :
    Calls Tryd.prog 18 #[.int .i64 m, .int .i64 e] w fun o w' => o = .returned (.float .f64 (madeV m (clamp e))) ∧ G w w' := by
  have hc1 : -5000 ≤ clamp e := by unfold clamp; omega
  have hc2 : clamp e ≤ 5000 := by unfold clamp; omega
  obtain ⟨K, hK⟩ : ∃ K : Nat, K = 200 := ⟨_, rfl⟩
  have hm2 : m.natAbs < 2 ^ (32 * K) := Nat.lt_of_lt_of_le (show m.natAbs < 2 ^ 64 by omega) (Nat.pow_le_pow_right (by omega) (by omega))
  have h1K : 1 < 2 ^ (32 * K) := Nat.one_lt_two_pow (by omega)
  by_cases hc : 0 ≤ clamp e
  · obtain ⟨k, hk⟩ : ∃ k : Nat, (k : Int) = clamp e := ⟨(clamp e).toNat, by omega⟩
    obtain ⟨N2, hN2⟩ : ∃ N2 : Int, N2 = ((2 ^ k : Nat) : Int) := ⟨_, rfl⟩
    obtain ⟨D2, hD2⟩ : ∃ D2 : Nat, D2 = 1 := ⟨_, rfl⟩
    have HP : Hid _ := fun w => pow2_up w k K (by omega) (by omega) (by omega)
    rw [← hN2, hk] at HP
    have HB : Hid (m.natAbs < 2 ^ (32 * K) ∧ N2.natAbs < 2 ^ (32 * K) ∧ 1 < 2 ^ (32 * K) ∧ D2 < 2 ^ (32 * K) ∧ 0 < D2) :=
      ⟨hm2, by rw [hN2, Int.natAbs_natCast]; exact Nat.pow_lt_pow_right (by omega) (by omega), h1K, by rw [hD2]; exact h1K, by omega⟩
    have HRN : Hid _ := fun w p => round_made w p m (clamp e) (m * N2) (1 * D2) (by omega) hc1 hc2 (by rw [hN2, show (clamp e).toNat = k from by omega, FT.ipow]) (by rw [hD2, show (-clamp e).toNat = 0 from by omega])
    rw [← hD2] at HP
    clear hm2 h1K hN2 hD2
    by_cases hb : 5000 < e
    · have hce : clamp e = 5000 := by unfold clamp; omega
      rw [hce] at HP HRN ⊢
      have t1 : decide (e < -5000) = false := by simp; omega
      have t2 : decide (5000 < e) = true := by simpa using hb
      clear hc1 hc2 hc hk hce hb he1 he2
      have hm1 : -9223372036854775808 ≤ m ∧ m ≤ 9223372036854775807 := ⟨h1, h2⟩
      have HS : Hid (∀ w1 p, p < w1.heap.size → RatIs w1 p 0 0 → _) := fun w1 p hp hr => setRI_c w1 p m 0 0 hm1 hp hr
      go_enter Tryd.func18, Tryd.ntmps18
      go_wp2_with fail
      have hz0 := RatZ.new w 65
      have hga := (G.refl w).alloc (.cells #[.bool false, .slice none 0 0, .bool false, .slice none 0 0] 65)
      have hsz : (w.alloc (.cells #[.bool false, .slice none 0 0, .bool false, .slice none 0 0] 65)).heap.size = w.heap.size + 1 := by simp
      have hpz0 : w.heap.size ≤ w.heap.size := Nat.le_refl _
      have hpza : w.heap.size < w.heap.size + 1 := by omega
      have hpxe : ∃ px, px = w.heap.size + 1 := ⟨_, rfl⟩
      obtain ⟨px, hpx⟩ := hpxe
      rw [← hpx] at hsz hpza ⊢
      rw [← hsz] at hpza
      generalize hwa : w.alloc (.cells #[.bool false, .slice none 0 0, .bool false, .slice none 0 0] 65) = wa at *
      have hx0 := rat_new wa 65
      rw [hsz] at hx0
      have hgb := (G.refl wa).alloc (.cells #[.bool false, .slice none 0 0, .bool false, .slice none 0 0] 65)
      have hzb := hz0.G hpza hgb
      have hpxb : px < (wa.alloc (.cells #[.bool false, .slice none 0 0, .bool false, .slice none 0 0] 65)).heap.size := by simp; omega
      have hpzb := G.lt hgb hpza
      have hGb := G.trans hga hgb
      have hne : w.heap.size ≠ px := by omega
      have hpxw : w.heap.size ≤ px := by omega
      clear hwa hga hgb hz0 hpza hpx hsz
      generalize wa.alloc (.cells #[.bool false, .slice none 0 0, .bool false, .slice none 0 0] 65) = wb at *
      obtain ⟨pz, hpz⟩ : ∃ pz, pz = w.heap.size := ⟨_, rfl⟩
      rw [← hpz] at hzb hpzb hne ⊢
      have hpz0' : w.heap.size ≤ pz := by omega
      clear hpz0
      have hpz0 := hpz0'
      clear hpz hpz0'
      refine Calls.mono (P := Tryd.prog) (HS.out wb px hpxb hx0) ?_
      intro e w1 hs
      obtain ⟨rfl, hx1, hX1⟩ := hs
      have hZ1 := hzb.GX hpzb hne hx1
      have hG1 := GX.fresh hGb hx1 hpxw
      have hpz1 := Nat.lt_of_lt_of_le hpzb hx1.size
      have hpx1 := Nat.lt_of_lt_of_le hpxb hx1.size
      clear HS hx0 hzb hpxb hpzb hGb hne hpxw hx1 hm1
      -- the world is w1: new Rats at pz and px, px set to m; pow2 is next
      go_wp2_with fail
      refine Calls.mono (P := Tryd.prog) (HP.out w1) ?_
      intro e w2 hs
      obtain ⟨p2, rfl, hg2, hp2, hp2s, hR2⟩ := hs
      have hZ2 := hZ1.G hpz1 hg2
      have hX2 := hX1.G hpx1 hg2
      have hpz2 := G.lt hg2 hpz1
      have hG2 := G.trans hG1 hg2
      have HM : Hid _ := mulR_c w2 pz px p2 0 0 m N2 1 D2 K (by omega) HB.out.1 HB.out.2.1 HB.out.2.2.1 HB.out.2.2.2.1 (by omega) HB.out.2.2.2.2 hpz2 (G.lt hg2 hpx1) hp2s hZ2.rat hX2 hR2
      clear hg2 hp2 hp2s hR2 hZ2 hX2 HP hZ1 hX1 hpz1 hpx1 hG1
      go_wp2_with fail
      refine Calls.mono (P := Tryd.prog) HM.out ?_
      intro e w3 hs
      obtain ⟨rfl, hx3, hR3⟩ := hs
      have hG3 := GX.fresh hG2 hx3 hpz0
      have HRd : Hid _ := HRN.out w3 pz (Nat.lt_of_lt_of_le hpz2 hx3.size) hR3
      clear HM HRN hx3 hR3 hG2
      go_wp2_with fail
      refine Calls.mono (P := Tryd.prog) HRd.out ?_
      rintro e w4 ⟨rfl, hg4⟩
      have hG4 := G.trans hG3 hg4
      go_wp2_with fail
      go_ret
      exact ⟨rfl, hG4⟩
    · have hce : clamp e = e := by unfold clamp at hc ⊢; omega
      rw [hce] at HP HRN ⊢
      have t1 : decide (e < -5000) = false := by simp; omega
      have t2 : decide (5000 < e) = false := by simpa using hb
      clear hc1 hc2 hc hk hce hb he1 he2
      have hm1 : -9223372036854775808 ≤ m ∧ m ≤ 9223372036854775807 := ⟨h1, h2⟩
      have HS : Hid (∀ w1 p, p < w1.heap.size → RatIs w1 p 0 0 → _) := fun w1 p hp hr => setRI_c w1 p m 0 0 hm1 hp hr
      go_enter Tryd.func18, Tryd.ntmps18
      go_wp2_with fail
      have hz0 := RatZ.new w 65
      have hga := (G.refl w).alloc (.cells #[.bool false, .slice none 0 0, .bool false, .slice none 0 0] 65)
      have hsz : (w.alloc (.cells #[.bool false, .slice none 0 0, .bool false, .slice none 0 0] 65)).heap.size = w.heap.size + 1 := by simp
      have hpz0 : w.heap.size ≤ w.heap.size := Nat.le_refl _
      have hpza : w.heap.size < w.heap.size + 1 := by omega
      have hpxe : ∃ px, px = w.heap.size + 1 := ⟨_, rfl⟩
      obtain ⟨px, hpx⟩ := hpxe
      rw [← hpx] at hsz hpza ⊢
      rw [← hsz] at hpza
      generalize hwa : w.alloc (.cells #[.bool false, .slice none 0 0, .bool false, .slice none 0 0] 65) = wa at *
      have hx0 := rat_new wa 65
      rw [hsz] at hx0
      have hgb := (G.refl wa).alloc (.cells #[.bool false, .slice none 0 0, .bool false, .slice none 0 0] 65)
      have hzb := hz0.G hpza hgb
      have hpxb : px < (wa.alloc (.cells #[.bool false, .slice none 0 0, .bool false, .slice none 0 0] 65)).heap.size := by simp; omega
      have hpzb := G.lt hgb hpza
      have hGb := G.trans hga hgb
      have hne : w.heap.size ≠ px := by omega
      have hpxw : w.heap.size ≤ px := by omega
      clear hwa hga hgb hz0 hpza hpx hsz
      generalize wa.alloc (.cells #[.bool false, .slice none 0 0, .bool false, .slice none 0 0] 65) = wb at *
      obtain ⟨pz, hpz⟩ : ∃ pz, pz = w.heap.size := ⟨_, rfl⟩
      rw [← hpz] at hzb hpzb hne ⊢
      have hpz0' : w.heap.size ≤ pz := by omega
      clear hpz0
      have hpz0 := hpz0'
      clear hpz hpz0'
      refine Calls.mono (P := Tryd.prog) (HS.out wb px hpxb hx0) ?_
      intro e w1 hs
      obtain ⟨rfl, hx1, hX1⟩ := hs
      have hZ1 := hzb.GX hpzb hne hx1
      have hG1 := GX.fresh hGb hx1 hpxw
      have hpz1 := Nat.lt_of_lt_of_le hpzb hx1.size
      have hpx1 := Nat.lt_of_lt_of_le hpxb hx1.size
      clear HS hx0 hzb hpxb hpzb hGb hne hpxw hx1 hm1
      -- the world is w1: new Rats at pz and px, px set to m; pow2 is next
      go_wp2_with fail
      refine Calls.mono (P := Tryd.prog) (HP.out w1) ?_
      intro e w2 hs
      obtain ⟨p2, rfl, hg2, hp2, hp2s, hR2⟩ := hs
      have hZ2 := hZ1.G hpz1 hg2
      have hX2 := hX1.G hpx1 hg2
      have hpz2 := G.lt hg2 hpz1
      have hG2 := G.trans hG1 hg2
      have HM : Hid _ := mulR_c w2 pz px p2 0 0 m N2 1 D2 K (by omega) HB.out.1 HB.out.2.1 HB.out.2.2.1 HB.out.2.2.2.1 (by omega) HB.out.2.2.2.2 hpz2 (G.lt hg2 hpx1) hp2s hZ2.rat hX2 hR2
      clear hg2 hp2 hp2s hR2 hZ2 hX2 HP hZ1 hX1 hpz1 hpx1 hG1
      go_wp2_with fail
      refine Calls.mono (P := Tryd.prog) HM.out ?_
      intro e w3 hs
      obtain ⟨rfl, hx3, hR3⟩ := hs
      have hG3 := GX.fresh hG2 hx3 hpz0
      have HRd : Hid _ := HRN.out w3 pz (Nat.lt_of_lt_of_le hpz2 hx3.size) hR3
      clear HM HRN hx3 hR3 hG2
      go_wp2_with fail
      refine Calls.mono (P := Tryd.prog) HRd.out ?_
      rintro e w4 ⟨rfl, hg4⟩
      have hG4 := G.trans hG3 hg4
      go_wp2_with fail
      go_ret
      exact ⟨rfl, hG4⟩
  · obtain ⟨k, hk⟩ : ∃ k : Nat, -(k : Int) = clamp e := ⟨(-clamp e).toNat, by omega⟩
    obtain ⟨D2, hD2⟩ : ∃ D2 : Nat, D2 = 2 ^ k := ⟨_, rfl⟩
    obtain ⟨N2, hN2⟩ : ∃ N2 : Int, N2 = 1 := ⟨_, rfl⟩
    have HP : Hid _ := fun w => pow2_down w k K (by omega) (by omega) (by omega) (by omega)
    rw [← hD2, hk] at HP
    have HB : Hid (m.natAbs < 2 ^ (32 * K) ∧ N2.natAbs < 2 ^ (32 * K) ∧ 1 < 2 ^ (32 * K) ∧ D2 < 2 ^ (32 * K) ∧ 0 < D2) :=
      ⟨hm2, by rw [hN2]; exact h1K, h1K, by rw [hD2]; exact Nat.pow_lt_pow_right (by omega) (by omega), by rw [hD2]; exact Nat.two_pow_pos _⟩
    have HRN : Hid _ := fun w p => round_made w p m (clamp e) (m * N2) (1 * D2) (by omega) hc1 hc2 (by rw [hN2, show (clamp e).toNat = 0 from by omega, Int.pow_zero]) (by rw [hD2, Nat.one_mul, show (-clamp e).toNat = k from by omega])
    rw [← hN2] at HP
    clear hm2 h1K hN2 hD2
    by_cases hb : e < -5000
    · have hce : clamp e = -5000 := by unfold clamp; omega
      rw [hce] at HP HRN ⊢
      have t1 : decide (e < -5000) = true := by simpa using hb
      clear hc1 hc2 hc hk hce hb he1 he2
      have hm1 : -9223372036854775808 ≤ m ∧ m ≤ 9223372036854775807 := ⟨h1, h2⟩
      have HS : Hid (∀ w1 p, p < w1.heap.size → RatIs w1 p 0 0 → _) := fun w1 p hp hr => setRI_c w1 p m 0 0 hm1 hp hr
      go_enter Tryd.func18, Tryd.ntmps18
      go_wp2_with fail
      have hz0 := RatZ.new w 65
      have hga := (G.refl w).alloc (.cells #[.bool false, .slice none 0 0, .bool false, .slice none 0 0] 65)
      have hsz : (w.alloc (.cells #[.bool false, .slice none 0 0, .bool false, .slice none 0 0] 65)).heap.size = w.heap.size + 1 := by simp
      have hpz0 : w.heap.size ≤ w.heap.size := Nat.le_refl _
      have hpza : w.heap.size < w.heap.size + 1 := by omega
      have hpxe : ∃ px, px = w.heap.size + 1 := ⟨_, rfl⟩
      obtain ⟨px, hpx⟩ := hpxe
      rw [← hpx] at hsz hpza ⊢
      rw [← hsz] at hpza
      generalize hwa : w.alloc (.cells #[.bool false, .slice none 0 0, .bool false, .slice none 0 0] 65) = wa at *
      have hx0 := rat_new wa 65
      rw [hsz] at hx0
      have hgb := (G.refl wa).alloc (.cells #[.bool false, .slice none 0 0, .bool false, .slice none 0 0] 65)
      have hzb := hz0.G hpza hgb
      have hpxb : px < (wa.alloc (.cells #[.bool false, .slice none 0 0, .bool false, .slice none 0 0] 65)).heap.size := by simp; omega
      have hpzb := G.lt hgb hpza
      have hGb := G.trans hga hgb
      have hne : w.heap.size ≠ px := by omega
      have hpxw : w.heap.size ≤ px := by omega
      clear hwa hga hgb hz0 hpza hpx hsz
      generalize wa.alloc (.cells #[.bool false, .slice none 0 0, .bool false, .slice none 0 0] 65) = wb at *
      obtain ⟨pz, hpz⟩ : ∃ pz, pz = w.heap.size := ⟨_, rfl⟩
      rw [← hpz] at hzb hpzb hne ⊢
      have hpz0' : w.heap.size ≤ pz := by omega
      clear hpz0
      have hpz0 := hpz0'
      clear hpz hpz0'
      refine Calls.mono (P := Tryd.prog) (HS.out wb px hpxb hx0) ?_
      intro e w1 hs
      obtain ⟨rfl, hx1, hX1⟩ := hs
      have hZ1 := hzb.GX hpzb hne hx1
      have hG1 := GX.fresh hGb hx1 hpxw
      have hpz1 := Nat.lt_of_lt_of_le hpzb hx1.size
      have hpx1 := Nat.lt_of_lt_of_le hpxb hx1.size
      clear HS hx0 hzb hpxb hpzb hGb hne hpxw hx1 hm1
      -- the world is w1: new Rats at pz and px, px set to m; pow2 is next
      go_wp2_with fail
      refine Calls.mono (P := Tryd.prog) (HP.out w1) ?_
      intro e w2 hs
      obtain ⟨p2, rfl, hg2, hp2, hp2s, hR2⟩ := hs
      have hZ2 := hZ1.G hpz1 hg2
      have hX2 := hX1.G hpx1 hg2
      have hpz2 := G.lt hg2 hpz1
      have hG2 := G.trans hG1 hg2
      have HM : Hid _ := mulR_c w2 pz px p2 0 0 m N2 1 D2 K (by omega) HB.out.1 HB.out.2.1 HB.out.2.2.1 HB.out.2.2.2.1 (by omega) HB.out.2.2.2.2 hpz2 (G.lt hg2 hpx1) hp2s hZ2.rat hX2 hR2
      clear hg2 hp2 hp2s hR2 hZ2 hX2 HP hZ1 hX1 hpz1 hpx1 hG1
      go_wp2_with fail
      refine Calls.mono (P := Tryd.prog) HM.out ?_
      intro e w3 hs
      obtain ⟨rfl, hx3, hR3⟩ := hs
      have hG3 := GX.fresh hG2 hx3 hpz0
      have HRd : Hid _ := HRN.out w3 pz (Nat.lt_of_lt_of_le hpz2 hx3.size) hR3
      clear HM HRN hx3 hR3 hG2
      go_wp2_with fail
      refine Calls.mono (P := Tryd.prog) HRd.out ?_
      rintro e w4 ⟨rfl, hg4⟩
      have hG4 := G.trans hG3 hg4
      go_wp2_with fail
      go_ret
      exact ⟨rfl, hG4⟩
    · have hce : clamp e = e := by unfold clamp at hc ⊢; omega
      rw [hce] at HP HRN ⊢
      have t1 : decide (e < -5000) = false := by simpa using hb
      have t2 : decide (5000 < e) = false := by simp; omega
      clear hc1 hc2 hc hk hce hb he1 he2
      have hm1 : -9223372036854775808 ≤ m ∧ m ≤ 9223372036854775807 := ⟨h1, h2⟩
      have HS : Hid (∀ w1 p, p < w1.heap.size → RatIs w1 p 0 0 → _) := fun w1 p hp hr => setRI_c w1 p m 0 0 hm1 hp hr
      go_enter Tryd.func18, Tryd.ntmps18
      go_wp2_with fail
      have hz0 := RatZ.new w 65
      have hga := (G.refl w).alloc (.cells #[.bool false, .slice none 0 0, .bool false, .slice none 0 0] 65)
      have hsz : (w.alloc (.cells #[.bool false, .slice none 0 0, .bool false, .slice none 0 0] 65)).heap.size = w.heap.size + 1 := by simp
      have hpz0 : w.heap.size ≤ w.heap.size := Nat.le_refl _
      have hpza : w.heap.size < w.heap.size + 1 := by omega
      have hpxe : ∃ px, px = w.heap.size + 1 := ⟨_, rfl⟩
      obtain ⟨px, hpx⟩ := hpxe
      rw [← hpx] at hsz hpza ⊢
      rw [← hsz] at hpza
      generalize hwa : w.alloc (.cells #[.bool false, .slice none 0 0, .bool false, .slice none 0 0] 65) = wa at *
      have hx0 := rat_new wa 65
      rw [hsz] at hx0
      have hgb := (G.refl wa).alloc (.cells #[.bool false, .slice none 0 0, .bool false, .slice none 0 0] 65)
      have hzb := hz0.G hpza hgb
      have hpxb : px < (wa.alloc (.cells #[.bool false, .slice none 0 0, .bool false, .slice none 0 0] 65)).heap.size := by simp; omega
      have hpzb := G.lt hgb hpza
      have hGb := G.trans hga hgb
      have hne : w.heap.size ≠ px := by omega
      have hpxw : w.heap.size ≤ px := by omega
      clear hwa hga hgb hz0 hpza hpx hsz
      generalize wa.alloc (.cells #[.bool false, .slice none 0 0, .bool false, .slice none 0 0] 65) = wb at *
      obtain ⟨pz, hpz⟩ : ∃ pz, pz = w.heap.size := ⟨_, rfl⟩
      rw [← hpz] at hzb hpzb hne ⊢
      have hpz0' : w.heap.size ≤ pz := by omega
      clear hpz0
      have hpz0 := hpz0'
      clear hpz hpz0'
      refine Calls.mono (P := Tryd.prog) (HS.out wb px hpxb hx0) ?_
      intro e w1 hs
      obtain ⟨rfl, hx1, hX1⟩ := hs
      have hZ1 := hzb.GX hpzb hne hx1
      have hG1 := GX.fresh hGb hx1 hpxw
      have hpz1 := Nat.lt_of_lt_of_le hpzb hx1.size
      have hpx1 := Nat.lt_of_lt_of_le hpxb hx1.size
      clear HS hx0 hzb hpxb hpzb hGb hne hpxw hx1 hm1
      -- the world is w1: new Rats at pz and px, px set to m; pow2 is next
      go_wp2_with fail
      refine Calls.mono (P := Tryd.prog) (HP.out w1) ?_
      intro e w2 hs
      obtain ⟨p2, rfl, hg2, hp2, hp2s, hR2⟩ := hs
      have hZ2 := hZ1.G hpz1 hg2
      have hX2 := hX1.G hpx1 hg2
      have hpz2 := G.lt hg2 hpz1
      have hG2 := G.trans hG1 hg2
      have HM : Hid _ := mulR_c w2 pz px p2 0 0 m N2 1 D2 K (by omega) HB.out.1 HB.out.2.1 HB.out.2.2.1 HB.out.2.2.2.1 (by omega) HB.out.2.2.2.2 hpz2 (G.lt hg2 hpx1) hp2s hZ2.rat hX2 hR2
      clear hg2 hp2 hp2s hR2 hZ2 hX2 HP hZ1 hX1 hpz1 hpx1 hG1
      go_wp2_with fail
      refine Calls.mono (P := Tryd.prog) HM.out ?_
      intro e w3 hs
      obtain ⟨rfl, hx3, hR3⟩ := hs
      have hG3 := GX.fresh hG2 hx3 hpz0
      have HRd : Hid _ := HRN.out w3 pz (Nat.lt_of_lt_of_le hpz2 hx3.size) hR3
      clear HM HRN hx3 hR3 hG2
      go_wp2_with fail
      refine Calls.mono (P := Tryd.prog) HRd.out ?_
      rintro e w4 ⟨rfl, hg4⟩
      have hG4 := G.trans hG3 hg4
      go_wp2_with fail
      go_ret
      exact ⟨rfl, hG4⟩

end Go.Proofs.YtkimdkgijfknlaaDoor
namespace Go.Proofs.YtkimdkgijfknlaaDoor
open Go.ChangeShapes Go.WideShapes Go.ChangeAt Go.RowKit
open BN

theorem same_self' (a : Nat) : same a a = true := by unfold same; simp

set_option maxRecDepth 100000 in
theorem makes_c (m e : Int) (w : World) (hm : -9223372036854775808 ≤ m ∧ m ≤ 9223372036854775807) (he : -9223372036854775808 ≤ e ∧ e ≤ 9223372036854775807) (ht : Tab w) :
    Calls Tryd.prog 4 #[.int .i64 m, .int .i64 e] w fun o w' => o = .returned (.bool true) ∧ G w w' := by
  have K1 : Hid _ := made_c w ht
  have K2 : Hid _ := fun w => make_c m e w hm.1 hm.2 he.1 he.2
  have K3 : Hid _ := fun w => made_ref_c w m e hm.1 hm.2 he.1 he.2
  have hv : (if m < 0 then nearV 11 52 m.natAbs (clamp e) + 2 ^ 63 else nearV 11 52 m.natAbs (clamp e)) = madeV m (clamp e) := rfl
  rw [hv] at K2
  generalize madeV m (clamp e) = r at *
  have K4 : Hid _ := fun w => bits_c r r w
  rw [same_self'] at K4
  clear hm he ht hv
  go_enter Tryd.func4, Tryd.ntmps4
  go_wp2_with fail
  refine Calls.mono (P := Tryd.prog) K1.out ?_
  rintro e w1 ⟨rfl, g1⟩
  go_wp2_with fail
  refine Calls.mono (P := Tryd.prog) (K2.out _) ?_
  rintro e w2 ⟨rfl, g2⟩
  go_wp2_with fail
  refine Calls.mono (P := Tryd.prog) (K3.out _) ?_
  rintro e w3 ⟨rfl, g3⟩
  go_wp2_with fail
  refine Calls.mono (P := Tryd.prog) (K4.out _) ?_
  rintro e w4 ⟨rfl, g4⟩
  go_wp2_with fail
  go_ret
  exact ⟨rfl, (by repeat' (first | exact G.refl _ | assumption | refine G.alloc ?_ _ | refine G.drew ?_ | refine G.drewN ?_ _ | (refine G.trans ?_ (by assumption))))⟩

end Go.Proofs.YtkimdkgijfknlaaDoor
