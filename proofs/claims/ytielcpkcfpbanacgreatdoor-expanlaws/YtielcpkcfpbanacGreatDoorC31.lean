/- What is proved here: how a fraction is cut to a float, its arithmetic (no program). -/
import Derived.Test.YtielcpkcfpbanacGreatDoorC21
import Derived.Test.YtielcpkcfpbanacGreatDoorC30
namespace Go.Proofs.YtielcpkcfpbanacGreatDoor.EN
open Go.RowKit

/-- What is left behind a step: nothing, less than half of it, half, more. -/
def leftN (R D : Nat) : Nat := if R = 0 then 0 else if 2 * R < D then 1 else if 2 * R = D then 2 else 3
/-- The float at or below A / B (its place among the floats from 0 on), and what is left. -/
def tV (A B : Nat) : Nat := if 971 < lastP A B then 2047 * 2 ^ 52 - 1 else (lastP A B + 1074).toNat * 2 ^ 52 + upP A (lastP A B) / loP B (lastP A B)
def lV (A B : Nat) : Nat := if 971 < lastP A B then 3 else leftN (upP A (lastP A B) % loP B (lastP A B)) (loP B (lastP A B))

theorem div_cross {N D N' D' : Nat} (hD : 0 < D) (hD' : 0 < D') (h : N * D' = N' * D) : N / D = N' / D' := by
  rw [← Nat.mul_div_mul_right N D hD', h, Nat.mul_comm D D', Nat.mul_div_mul_right _ _ hD]
theorem leftN_cross {N D N' D' : Nat} (hD : 0 < D) (hD' : 0 < D') (h : N * D' = N' * D) : leftN (N % D) D = leftN (N' % D') D' := by
  have hq := div_cross hD hD' h
  have e1 := Nat.div_add_mod N D
  have e2 := Nat.div_add_mod N' D'
  rw [← hq] at e2
  have key : N % D * D' = N' % D' * D := by
    have h1 : (D * (N / D) + N % D) * D' = (D' * (N / D) + N' % D') * D := by rw [e1, e2]; exact h
    rw [Nat.add_mul, Nat.add_mul, show D * (N / D) * D' = D' * (N / D) * D from by ac_rfl] at h1
    exact Nat.add_left_cancel h1
  generalize N % D = R at *
  generalize N' % D' = R' at *
  have k0 : R = 0 ↔ R' = 0 := by
    constructor
    · rintro rfl
      rw [Nat.zero_mul] at key
      exact (Nat.mul_eq_zero.1 key.symm).resolve_right (by omega)
    · rintro rfl
      rw [Nat.zero_mul] at key
      exact (Nat.mul_eq_zero.1 key).resolve_right (by omega)
  have k1 : 2 * R < D ↔ 2 * R' < D' := by
    have a1 : 2 * R * D' = 2 * R' * D := by rw [Nat.mul_assoc, key, Nat.mul_assoc]
    constructor
    · intro h
      have h2 : 2 * R * D' < D * D' := Nat.mul_lt_mul_of_pos_right h hD'
      rw [a1, Nat.mul_comm D D'] at h2
      exact Nat.lt_of_mul_lt_mul_right h2
    · intro h
      have h2 : 2 * R' * D < D' * D := Nat.mul_lt_mul_of_pos_right h hD
      rw [← a1, Nat.mul_comm D' D] at h2
      exact Nat.lt_of_mul_lt_mul_right h2
  have k2 : 2 * R = D ↔ 2 * R' = D' := by
    have a1 : 2 * R * D' = 2 * R' * D := by rw [Nat.mul_assoc, key, Nat.mul_assoc]
    constructor
    · intro h
      rw [h, Nat.mul_comm D D'] at a1
      exact (Nat.eq_of_mul_eq_mul_right hD a1).symm
    · intro h
      rw [h, Nat.mul_comm D' D] at a1
      exact Nat.eq_of_mul_eq_mul_right hD' a1
  unfold leftN
  simp only [k0, k1, k2]
theorem leftN_steps (X D n : Nat) (hD : 0 < D) (hn : 1 ≤ n) : leftN (X % (D * 2 ^ n)) (D * 2 ^ n) =
    if X / D % 2 ^ n = 0 ∧ X % D = 0 then 0 else if X / D % 2 ^ n < 2 ^ (n - 1) then 1 else if X / D % 2 ^ n = 2 ^ (n - 1) ∧ X % D = 0 then 2 else 3 := by
  rw [Nat.mod_mul]
  have hR := Nat.mod_lt X hD
  generalize X % D = R at *
  generalize X / D % 2 ^ n = b at *
  have e : 2 ^ n = 2 * 2 ^ (n - 1) := by
    obtain ⟨k, rfl⟩ : ∃ k, n = k + 1 := ⟨n - 1, by omega⟩
    simp [Nat.pow_succ, Nat.mul_comm]
  rw [e]
  generalize 2 ^ (n - 1) = m at *
  unfold leftN
  have e1 : D * (2 * m) = 2 * (D * m) := by ac_rfl
  rw [e1]
  have h0 : R + D * b = 0 ↔ b = 0 ∧ R = 0 := by
    constructor
    · intro h
      have h1 : D * b = 0 := by omega
      exact ⟨(Nat.mul_eq_zero.1 h1).resolve_left (by omega), by omega⟩
    · rintro ⟨rfl, rfl⟩; simp
  have h1 : 2 * (R + D * b) < 2 * (D * m) ↔ b < m := by
    constructor
    · intro h
      have h2 : D * b < D * m := by omega
      exact Nat.lt_of_mul_lt_mul_left h2
    · intro h
      have h2 : D * (b + 1) ≤ D * m := Nat.mul_le_mul_left _ h
      rw [Nat.mul_add, Nat.mul_one] at h2
      omega
  have h2 : 2 * (R + D * b) = 2 * (D * m) ↔ b = m ∧ R = 0 := by
    constructor
    · intro h
      have h3 : R + D * b = D * m := by omega
      have h4 : b = m := by
        rcases Nat.lt_trichotomy b m with h5 | h5 | h5
        · have : D * (b + 1) ≤ D * m := Nat.mul_le_mul_left _ h5
          rw [Nat.mul_add, Nat.mul_one] at this
          omega
        · exact h5
        · have : D * (m + 1) ≤ D * b := Nat.mul_le_mul_left _ h5
          rw [Nat.mul_add, Nat.mul_one] at this
          omega
      subst h4
      exact ⟨rfl, by omega⟩
    · rintro ⟨rfl, rfl⟩; omega
  simp only [h0, h1, h2]

theorem blen_eq (a : Nat) : EN.blen a = Go.Proofs.YtielcpkcfpbanacGreatDoor.blen a := rfl
theorem blen_pos {a : Nat} (h : a ≠ 0) : 2 ^ (EN.blen a - 1) ≤ a ∧ a < 2 ^ EN.blen a ∧ 1 ≤ EN.blen a := by
  unfold EN.blen
  rw [if_neg h]
  exact ⟨Nat.log2_self_le h, Nat.lt_log2_self, by omega⟩

/-- The front of A / B: its first 62 or 63 digits in twos. -/
theorem front_bounds {A B : Nat} {e : Int} (hA : A ≠ 0) (hB : B ≠ 0) (he : e = (EN.blen A : Int) - EN.blen B - 62) :
    2 ^ 61 ≤ upP A e / loP B e ∧ upP A e / loP B e < 2 ^ 63 ∧ expo A B = e + EN.blen (upP A e / loP B e) - 1 := by
  obtain ⟨a1, a2, a3⟩ := blen_pos hA
  obtain ⟨b1, b2, b3⟩ := blen_pos hB
  have hD : 0 < loP B e := by unfold loP; exact Nat.mul_pos (by omega) (Nat.two_pow_pos _)
  obtain ⟨K, hK⟩ : ∃ K : Nat, -(K : Int) ≤ e ∧ -(K : Int) ≤ expo A B ∧ EN.blen B + 200 ≤ K := ⟨(-e).toNat + (-(expo A B)).toNat + EN.blen B + 200, by omega, by omega, by omega⟩
  obtain ⟨hK1, hK2, hK3⟩ := hK
  have g1 : 2 ^ 61 * B * 2 ^ e.toNat ≤ A * 2 ^ (-e).toNat := by
    rw [shift_le K hK1]
    have h1 : 2 ^ 61 * B * 2 ^ ((K : Int) + e).toNat ≤ 2 ^ 61 * 2 ^ EN.blen B * 2 ^ ((K : Int) + e).toNat := Nat.mul_le_mul_right _ (Nat.mul_le_mul_left _ (by omega))
    have h2 : 2 ^ (EN.blen A - 1) * 2 ^ K ≤ A * 2 ^ K := Nat.mul_le_mul_right _ a1
    rw [← Nat.pow_add, ← Nat.pow_add, show 61 + EN.blen B + ((K : Int) + e).toNat = EN.blen A - 1 + K from by omega, Nat.pow_add] at h1
    omega
  have g2 : A * 2 ^ (-e).toNat < 2 ^ 63 * B * 2 ^ e.toNat := by
    rw [shift_lt K hK1]
    have h1 : 2 ^ 63 * 2 ^ (EN.blen B - 1) * 2 ^ ((K : Int) + e).toNat ≤ 2 ^ 63 * B * 2 ^ ((K : Int) + e).toNat := Nat.mul_le_mul_right _ (Nat.mul_le_mul_left _ b1)
    have h2 : A * 2 ^ K < 2 ^ EN.blen A * 2 ^ K := Nat.mul_lt_mul_of_pos_right a2 (Nat.two_pow_pos _)
    rw [← Nat.pow_add, ← Nat.pow_add, show 63 + (EN.blen B - 1) + ((K : Int) + e).toNat = EN.blen A + K from by omega, Nat.pow_add] at h1
    omega
  have q1 : 2 ^ 61 ≤ upP A e / loP B e := (Nat.le_div_iff_mul_le hD).2 (by unfold upP loP; rw [← Nat.mul_assoc]; exact g1)
  have q2 : upP A e / loP B e < 2 ^ 63 := (Nat.div_lt_iff_lt_mul hD).2 (by unfold upP loP; rw [← Nat.mul_assoc]; exact g2)
  refine ⟨q1, q2, ?_⟩
  have hq0 : upP A e / loP B e ≠ 0 := by omega
  obtain ⟨l1, l2, l3⟩ := blen_pos hq0
  have f1 : 2 ^ (EN.blen (upP A e / loP B e) - 1) * loP B e ≤ upP A e := (Nat.le_div_iff_mul_le hD).1 l1
  have f2 : upP A e < 2 ^ EN.blen (upP A e / loP B e) * loP B e := (Nat.div_lt_iff_lt_mul hD).1 l2
  generalize EN.blen (upP A e / loP B e) = L at *
  unfold upP loP at f1 f2
  rw [← Nat.mul_assoc, shift_le K hK1] at f1
  rw [← Nat.mul_assoc, shift_lt K hK1] at f2
  have x1 := expo_le hA hB K hK2
  have x2 := expo_lt hA hB K hK2
  have y1 : B * 2 ^ ((K : Int) + expo A B).toNat < B * 2 ^ (L + ((K : Int) + e).toNat) := by
    rw [Nat.pow_add, ← Nat.mul_assoc, Nat.mul_comm B (2 ^ L)]; omega
  have y2 : B * 2 ^ (L - 1 + ((K : Int) + e).toNat) < B * 2 ^ ((K : Int) + (expo A B + 1)).toNat := by
    rw [Nat.pow_add, ← Nat.mul_assoc, Nat.mul_comm B (2 ^ (L - 1))]; omega
  have z1 := pow_lt_of (Nat.lt_of_mul_lt_mul_left y1)
  have z2 := pow_lt_of (Nat.lt_of_mul_lt_mul_left y2)
  omega

/-- Steps of 2^P, and steps of 2^e that are parted: P = e + n. -/
theorem cut_cross {A B n : Nat} {e P : Int} (h : P = e + n) : upP A P * (loP B e * 2 ^ n) = upP A e * loP B P := by
  unfold upP loP
  have e1 : 2 ^ (-P).toNat * (2 ^ e.toNat * 2 ^ n) = 2 ^ (-e).toNat * 2 ^ P.toNat := by
    rw [← Nat.pow_add, ← Nat.pow_add, ← Nat.pow_add]; congr 1; omega
  have e2 : A * 2 ^ (-P).toNat * (B * 2 ^ e.toNat * 2 ^ n) = A * B * (2 ^ (-P).toNat * (2 ^ e.toNat * 2 ^ n)) := by ac_rfl
  have e3 : A * 2 ^ (-e).toNat * (B * 2 ^ P.toNat) = A * B * (2 ^ (-e).toNat * 2 ^ P.toNat) := by ac_rfl
  rw [e2, e3, e1]
end Go.Proofs.YtielcpkcfpbanacGreatDoor.EN
