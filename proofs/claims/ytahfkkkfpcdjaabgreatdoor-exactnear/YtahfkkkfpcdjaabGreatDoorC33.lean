/- What is proved here: how a fraction is cut to a float, its arithmetic (no program).
What is proved here: contracts of package exact: quotient, over this seat's translation.
What is proved here: contracts of package exact: rounding, over this seat's translation.
What is proved here: contracts of package exact: Float, over this seat's translation.
What is proved here: contracts of package exact: Of, over this seat's translation.
What is proved here: the float at or below a ratio, by its size; floats around a ratio, over this seat's translation.
What is proved here: the four floats around a ratio: what the law asks of them, over this seat's translation. -/
import Derived.Test.YtahfkkkfpcdjaabGreatDoorC32
import Derived.Test.YtahfkkkfpcdjaabGreatDoorC26
import Derived.Test.YtahfkkkfpcdjaabGreatDoorC15
import Derived.Test.YtahfkkkfpcdjaabGreatDoorC15
namespace Go.Proofs.YtahfkkkfpcdjaabGreatDoor.EN
open Go.RowKit

/-- What is left behind a step: nothing, less than half of it, half, more. -/
def leftN (R D : Nat) : Nat := if R = 0 then 0 else if 2 * R < D then 1 else if 2 * R = D then 2 else 3
/-- The float at or below A / B (its place among the floats from 0 on), and what is left. -/
def tV (A B : Nat) : Nat := if 971 < lastP A B then 2047 * 2 ^ 52 - 1 else (lastP A B + 1074).toNat * 2 ^ 52 + upP A (lastP A B) / loP B (lastP A B)
def lV (A B : Nat) : Nat := if 971 < lastP A B then 3 else leftN (upP A (lastP A B) % loP B (lastP A B)) (loP B (lastP A B))

theorem div_cross {N D N' D' : Nat} (hD : 0 < D) (hD' : 0 < D') (h : N * D' = N' * D) : N / D = N' / D' := by
  rw [← Nat.mul_div_mul_right N D hD', h, Nat.mul_comm D D', Nat.mul_div_mul_right _ _ hD]
theorem leftN_cross {N D N' D' : Nat} (hD : 0 < D) (hD' : 0 < D') (h : N * D' = N' * D) : leftN (N % D) D = leftN (N' % D') D' := by
  have hq := div_cross hD hD' h
  have e1 := Nat.div_add_mod N D
  have e2 := Nat.div_add_mod N' D'
  rw [← hq] at e2
  have key : N % D * D' = N' % D' * D := by
    have h1 : (D * (N / D) + N % D) * D' = (D' * (N / D) + N' % D') * D := by rw [e1, e2]; exact h
    rw [Nat.add_mul, Nat.add_mul, show D * (N / D) * D' = D' * (N / D) * D from by ac_rfl] at h1
    exact Nat.add_left_cancel h1
  generalize N % D = R at *
  generalize N' % D' = R' at *
  have k0 : R = 0 ↔ R' = 0 := by
    constructor
    · rintro rfl
      rw [Nat.zero_mul] at key
      exact (Nat.mul_eq_zero.1 key.symm).resolve_right (by omega)
    · rintro rfl
      rw [Nat.zero_mul] at key
      exact (Nat.mul_eq_zero.1 key).resolve_right (by omega)
  have k1 : 2 * R < D ↔ 2 * R' < D' := by
    have a1 : 2 * R * D' = 2 * R' * D := by rw [Nat.mul_assoc, key, Nat.mul_assoc]
    constructor
    · intro h
      have h2 : 2 * R * D' < D * D' := Nat.mul_lt_mul_of_pos_right h hD'
      rw [a1, Nat.mul_comm D D'] at h2
      exact Nat.lt_of_mul_lt_mul_right h2
    · intro h
      have h2 : 2 * R' * D < D' * D := Nat.mul_lt_mul_of_pos_right h hD
      rw [← a1, Nat.mul_comm D' D] at h2
      exact Nat.lt_of_mul_lt_mul_right h2
  have k2 : 2 * R = D ↔ 2 * R' = D' := by
    have a1 : 2 * R * D' = 2 * R' * D := by rw [Nat.mul_assoc, key, Nat.mul_assoc]
    constructor
    · intro h
      rw [h, Nat.mul_comm D D'] at a1
      exact (Nat.eq_of_mul_eq_mul_right hD a1).symm
    · intro h
      rw [h, Nat.mul_comm D' D] at a1
      exact Nat.eq_of_mul_eq_mul_right hD' a1
  unfold leftN
  simp only [k0, k1, k2]
theorem leftN_steps (X D n : Nat) (hD : 0 < D) (hn : 1 ≤ n) : leftN (X % (D * 2 ^ n)) (D * 2 ^ n) =
    if X / D % 2 ^ n = 0 ∧ X % D = 0 then 0 else if X / D % 2 ^ n < 2 ^ (n - 1) then 1 else if X / D % 2 ^ n = 2 ^ (n - 1) ∧ X % D = 0 then 2 else 3 := by
  rw [Nat.mod_mul]
  have hR := Nat.mod_lt X hD
  generalize X % D = R at *
  generalize X / D % 2 ^ n = b at *
  have e : 2 ^ n = 2 * 2 ^ (n - 1) := by
    obtain ⟨k, rfl⟩ : ∃ k, n = k + 1 := ⟨n - 1, by omega⟩
    simp [Nat.pow_succ, Nat.mul_comm]
  rw [e]
  generalize 2 ^ (n - 1) = m at *
  unfold leftN
  have e1 : D * (2 * m) = 2 * (D * m) := by ac_rfl
  rw [e1]
  have h0 : R + D * b = 0 ↔ b = 0 ∧ R = 0 := by
    constructor
    · intro h
      have h1 : D * b = 0 := by omega
      exact ⟨(Nat.mul_eq_zero.1 h1).resolve_left (by omega), by omega⟩
    · rintro ⟨rfl, rfl⟩; simp
  have h1 : 2 * (R + D * b) < 2 * (D * m) ↔ b < m := by
    constructor
    · intro h
      have h2 : D * b < D * m := by omega
      exact Nat.lt_of_mul_lt_mul_left h2
    · intro h
      have h2 : D * (b + 1) ≤ D * m := Nat.mul_le_mul_left _ h
      rw [Nat.mul_add, Nat.mul_one] at h2
      omega
  have h2 : 2 * (R + D * b) = 2 * (D * m) ↔ b = m ∧ R = 0 := by
    constructor
    · intro h
      have h3 : R + D * b = D * m := by omega
      have h4 : b = m := by
        rcases Nat.lt_trichotomy b m with h5 | h5 | h5
        · have : D * (b + 1) ≤ D * m := Nat.mul_le_mul_left _ h5
          rw [Nat.mul_add, Nat.mul_one] at this
          omega
        · exact h5
        · have : D * (m + 1) ≤ D * b := Nat.mul_le_mul_left _ h5
          rw [Nat.mul_add, Nat.mul_one] at this
          omega
      subst h4
      exact ⟨rfl, by omega⟩
    · rintro ⟨rfl, rfl⟩; omega
  simp only [h0, h1, h2]

theorem blen_eq (a : Nat) : EN.blen a = Go.Proofs.YtahfkkkfpcdjaabGreatDoor.blen a := rfl
theorem blen_pos {a : Nat} (h : a ≠ 0) : 2 ^ (EN.blen a - 1) ≤ a ∧ a < 2 ^ EN.blen a ∧ 1 ≤ EN.blen a := by
  unfold EN.blen
  rw [if_neg h]
  exact ⟨Nat.log2_self_le h, Nat.lt_log2_self, by omega⟩

/-- The front of A / B: its first 62 or 63 digits in twos. -/
theorem front_bounds {A B : Nat} {e : Int} (hA : A ≠ 0) (hB : B ≠ 0) (he : e = (EN.blen A : Int) - EN.blen B - 62) :
    2 ^ 61 ≤ upP A e / loP B e ∧ upP A e / loP B e < 2 ^ 63 ∧ expo A B = e + EN.blen (upP A e / loP B e) - 1 := by
  obtain ⟨a1, a2, a3⟩ := blen_pos hA
  obtain ⟨b1, b2, b3⟩ := blen_pos hB
  have hD : 0 < loP B e := by unfold loP; exact Nat.mul_pos (by omega) (Nat.two_pow_pos _)
  obtain ⟨K, hK⟩ : ∃ K : Nat, -(K : Int) ≤ e ∧ -(K : Int) ≤ expo A B ∧ EN.blen B + 200 ≤ K := ⟨(-e).toNat + (-(expo A B)).toNat + EN.blen B + 200, by omega, by omega, by omega⟩
  obtain ⟨hK1, hK2, hK3⟩ := hK
  have g1 : 2 ^ 61 * B * 2 ^ e.toNat ≤ A * 2 ^ (-e).toNat := by
    rw [shift_le K hK1]
    have h1 : 2 ^ 61 * B * 2 ^ ((K : Int) + e).toNat ≤ 2 ^ 61 * 2 ^ EN.blen B * 2 ^ ((K : Int) + e).toNat := Nat.mul_le_mul_right _ (Nat.mul_le_mul_left _ (by omega))
    have h2 : 2 ^ (EN.blen A - 1) * 2 ^ K ≤ A * 2 ^ K := Nat.mul_le_mul_right _ a1
    rw [← Nat.pow_add, ← Nat.pow_add, show 61 + EN.blen B + ((K : Int) + e).toNat = EN.blen A - 1 + K from by omega, Nat.pow_add] at h1
    omega
  have g2 : A * 2 ^ (-e).toNat < 2 ^ 63 * B * 2 ^ e.toNat := by
    rw [shift_lt K hK1]
    have h1 : 2 ^ 63 * 2 ^ (EN.blen B - 1) * 2 ^ ((K : Int) + e).toNat ≤ 2 ^ 63 * B * 2 ^ ((K : Int) + e).toNat := Nat.mul_le_mul_right _ (Nat.mul_le_mul_left _ b1)
    have h2 : A * 2 ^ K < 2 ^ EN.blen A * 2 ^ K := Nat.mul_lt_mul_of_pos_right a2 (Nat.two_pow_pos _)
    rw [← Nat.pow_add, ← Nat.pow_add, show 63 + (EN.blen B - 1) + ((K : Int) + e).toNat = EN.blen A + K from by omega, Nat.pow_add] at h1
    omega
  have q1 : 2 ^ 61 ≤ upP A e / loP B e := (Nat.le_div_iff_mul_le hD).2 (by unfold upP loP; rw [← Nat.mul_assoc]; exact g1)
  have q2 : upP A e / loP B e < 2 ^ 63 := (Nat.div_lt_iff_lt_mul hD).2 (by unfold upP loP; rw [← Nat.mul_assoc]; exact g2)
  refine ⟨q1, q2, ?_⟩
  have hq0 : upP A e / loP B e ≠ 0 := by omega
  obtain ⟨l1, l2, l3⟩ := blen_pos hq0
  have f1 : 2 ^ (EN.blen (upP A e / loP B e) - 1) * loP B e ≤ upP A e := (Nat.le_div_iff_mul_le hD).1 l1
  have f2 : upP A e < 2 ^ EN.blen (upP A e / loP B e) * loP B e := (Nat.div_lt_iff_lt_mul hD).1 l2
  generalize EN.blen (upP A e / loP B e) = L at *
  unfold upP loP at f1 f2
  rw [← Nat.mul_assoc, shift_le K hK1] at f1
  rw [← Nat.mul_assoc, shift_lt K hK1] at f2
  have x1 := expo_le hA hB K hK2
  have x2 := expo_lt hA hB K hK2
  have y1 : B * 2 ^ ((K : Int) + expo A B).toNat < B * 2 ^ (L + ((K : Int) + e).toNat) := by
    rw [Nat.pow_add, ← Nat.mul_assoc, Nat.mul_comm B (2 ^ L)]; omega
  have y2 : B * 2 ^ (L - 1 + ((K : Int) + e).toNat) < B * 2 ^ ((K : Int) + (expo A B + 1)).toNat := by
    rw [Nat.pow_add, ← Nat.mul_assoc, Nat.mul_comm B (2 ^ (L - 1))]; omega
  have z1 := pow_lt_of (Nat.lt_of_mul_lt_mul_left y1)
  have z2 := pow_lt_of (Nat.lt_of_mul_lt_mul_left y2)
  omega

/-- Steps of 2^P, and steps of 2^e that are parted: P = e + n. -/
theorem cut_cross {A B n : Nat} {e P : Int} (h : P = e + n) : upP A P * (loP B e * 2 ^ n) = upP A e * loP B P := by
  unfold upP loP
  have e1 : 2 ^ (-P).toNat * (2 ^ e.toNat * 2 ^ n) = 2 ^ (-e).toNat * 2 ^ P.toNat := by
    rw [← Nat.pow_add, ← Nat.pow_add, ← Nat.pow_add]; congr 1; omega
  have e2 : A * 2 ^ (-P).toNat * (B * 2 ^ e.toNat * 2 ^ n) = A * B * (2 ^ (-P).toNat * (2 ^ e.toNat * 2 ^ n)) := by ac_rfl
  have e3 : A * 2 ^ (-e).toNat * (B * 2 ^ P.toNat) = A * B * (2 ^ (-e).toNat * 2 ^ P.toNat) := by ac_rfl
  rw [e2, e3, e1]
end Go.Proofs.YtahfkkkfpcdjaabGreatDoor.EN
namespace Go.Proofs.YtahfkkkfpcdjaabGreatDoor.EN
open Go.ChangeShapes Go.WideShapes Go.ChangeAt Go.RowKit

def frontE (A B : Nat) : Int := (EN.blen A : Int) - EN.blen B - 62
theorem blen_le' {a K : Nat} (h : a < 2 ^ (64 * K)) : EN.blen a ≤ 64 * K := by
  unfold EN.blen
  split
  · omega
  · have := (Nat.log2_lt (by omega)).2 h; omega

set_option maxRecDepth 10000 in
theorem quotient_c (w : World) (va vb : Value) (A B K : Nat) (hK : K ≤ 15000) (hK1 : 1 ≤ K) (ha : Num w va A) (hb : Num w vb B) (ha2 : A < 2 ^ (64 * K)) (hb2 : B < 2 ^ (64 * K)) (hA : A ≠ 0) (hB : B ≠ 0) :
    Calls Tryz.prog 83 #[va, vb] w fun r w' => r = .returned (.agg #[.int .u64 ((upP A (frontE A B) / loP B (frontE A B) : Nat) : Int), .int .i64 (frontE A B), .bool (decide (0 < upP A (frontE A B) % loP B (frontE A B)))]) ∧ G w w' := by
  obtain ⟨q1, q2, -⟩ := front_bounds hA hB (e := frontE A B) rfl
  have lA := blen_le' ha2
  have lB := blen_le' hb2
  have HSA : Hid (∀ w1, G w w1 → _) := fun w1 g => size_c w1 va A K (by omega) (ha.G g) ha2
  have HSB : Hid (∀ w1, G w w1 → _) := fun w1 g => size_c w1 vb B K (by omega) (hb.G g) hb2
  have he : frontE A B = (EN.blen A : Int) - EN.blen B - 62 := rfl
  have HC1 : Hid (∀ w1, G w w1 → Calls Tryz.prog 171 #[va, .int .i64 (-(frontE A B))] w1 (RetNum w1 (upP A (frontE A B)))) := fun w1 g => scaled_c w1 va A K (-(frontE A B)) (by omega) (by omega) (by omega) (ha.G g) ha2
  have HC2 : Hid (∀ w1, G w w1 → Calls Tryz.prog 171 #[vb, .int .i64 (frontE A B)] w1 (RetNum w1 (loP B (frontE A B)))) := fun w1 g => scaled_c w1 vb B K (frontE A B) (by omega) (by omega) (by omega) (hb.G g) hb2
  have hX : upP A (frontE A B) < 2 ^ (64 * (2 * K + 1)) := by
    unfold upP
    have h1 : 2 ^ (-(frontE A B)).toNat ≤ 2 ^ (64 * K + 62) := Nat.pow_le_pow_right (by omega) (by omega)
    have h2 : A * 2 ^ (-(frontE A B)).toNat < 2 ^ (64 * K) * 2 ^ (64 * K + 62) := Nat.lt_of_lt_of_le (Nat.mul_lt_mul_of_pos_right ha2 (Nat.two_pow_pos _)) (Nat.mul_le_mul_left _ h1)
    rw [← Nat.pow_add] at h2
    exact Nat.lt_of_lt_of_le h2 (Nat.pow_le_pow_right (by omega) (by omega))
  have hD : loP B (frontE A B) < 2 ^ (64 * (2 * K + 1)) := by
    unfold loP
    have h1 : 2 ^ (frontE A B).toNat ≤ 2 ^ (64 * K + 62) := Nat.pow_le_pow_right (by omega) (by omega)
    have h2 : B * 2 ^ (frontE A B).toNat < 2 ^ (64 * K) * 2 ^ (64 * K + 62) := Nat.lt_of_lt_of_le (Nat.mul_lt_mul_of_pos_right hb2 (Nat.two_pow_pos _)) (Nat.mul_le_mul_left _ h1)
    rw [← Nat.pow_add] at h2
    exact Nat.lt_of_lt_of_le h2 (Nat.pow_le_pow_right (by omega) (by omega))
  have hD0 : 0 < loP B (frontE A B) := by unfold loP; exact Nat.mul_pos (by omega) (Nat.two_pow_pos _)
  have eb1 : -10000000 ≤ frontE A B := by omega
  have eb2 : frontE A B ≤ 10000000 := by omega
  have he2 : (EN.blen A : Int) - EN.blen B - 62 = frontE A B := rfl
  generalize frontE A B = e at *
  generalize upP A e = X at *
  generalize loP B e = D at *
  have HDV : Hid (∀ w1 v1 v2, Num w1 v1 X → Num w1 v2 D → _) := fun w1 v1 v2 h1 h2 => divide_c w1 v1 v2 X D (2 * K + 1) (by omega) (by omega) h1 h2 hX hD hD0
  generalize X / D = Q at *
  generalize X % D = R at *
  generalize EN.blen A = bA at *
  generalize EN.blen B = bB at *
  have hQ64 : Q < 18446744073709551616 := by omega
  have hQ0 : Q ≠ 0 := by omega
  have lA2 : (bA : Int) ≤ 960000 := by omega
  have lB2 : (bB : Int) ≤ 960000 := by omega
  obtain ⟨tl, htl⟩ : ∃ tl, tl = decide (0 < R) := ⟨_, rfl⟩
  rw [← htl]
  have HTL : Hid (tl = decide (0 < R)) := htl
  clear htl
  clear hX hD hD0 q1 q2 ha hb ha2 hb2 hA hB lA lB he
  go_enter Tryz.func83, Tryz.ntmps83
  go_wp2_with fail
  have g0 : G w (w.alloc (.cells #[.int .u64 0, .int .i64 0, .bool false] 184)) := ((G.refl w).alloc _)
  have R0 : Hid (Rec (w.alloc (.cells #[.int .u64 0, .int .i64 0, .bool false] 184)) (w.heap.size) [.int .u64 0, .int .i64 0, .bool false]) := by
    have h := Rec.new3 w (.int .u64 0) (.int .i64 0) (.bool false) 184
    exact h
  have hz0 : (w.alloc (.cells #[.int .u64 0, .int .i64 0, .bool false] 184)).heap.size = w.heap.size + 1 := by simp
  generalize (w.alloc (.cells #[.int .u64 0, .int .i64 0, .bool false] 184)) = w0 at *
  refine Calls.mono (P := Tryz.prog) (HSA.out w0 g0) ?_
  rintro e1 w1 ⟨rfl, g1⟩
  go_wp2_with fail
  refine Calls.mono (P := Tryz.prog) (HSB.out w1 (G.trans g0 g1)) ?_
  rintro e1 w2 ⟨rfl, g2⟩
  have g12 := G.trans g1 g2
  go_wp2_with fail
  refine Calls.mono (P := Tryz.prog) (HC1.out w2 (G.trans g0 g12)) ?_
  intro e1 w3 hs
  obtain ⟨v1, rfl, g3, hv1⟩ := hs
  have HV1 : Hid (Num w3 v1 X) := hv1
  have g13 := G.trans g12 g3
  clear HSA HSB HC1 hv1 g1 g2 g12
  go_wp2_with fail
  refine Calls.mono (P := Tryz.prog) (HC2.out w3 (G.trans g0 g13)) ?_
  intro e1 w4 hs
  obtain ⟨v2, rfl, g4, hv2⟩ := hs
  have HD4 : Hid _ := HDV.out w4 v1 v2 (HV1.out.G g4) hv2
  have g14 := G.trans g13 g4
  clear HC2 HDV HV1 hv2 g3 g13 g4
  go_wp2_with fail
  refine Calls.mono (P := Tryz.prog) HD4.out ?_
  intro e1 w5 hs
  obtain ⟨v3, v4, rfl, g5, hv3, hv4⟩ := hs
  have g15 := G.trans g14 g5
  clear HD4 g14 g5
  rcases num_shape hv3 with ⟨h, -⟩ | ⟨-, -, nb, no, nc, rfl, hnc, hnb, hcell⟩ | ⟨h, -⟩
  · exact absurd h hQ0
  · obtain ⟨pr, kr, cr, rfl, -, hk, -⟩ := num_zero hv4
    clear hv3 hv4
    rw [← HTL.out] at hk
    have hSR0 := Rec.f3 (Rec.G R0.out (g15))
    have hSR0_0 := hSR0.1
    have hSR0_1 := hSR0.2.1
    have hSR0_2 := hSR0.2.2.1
    have hSR0_3 := hSR0.2.2.2.1
    have hSR0_4 := hSR0.2.2.2.2.1
    have hSR0_5 := hSR0.2.2.2.2.2
    clear hSR0
    go_wp2_with fail
    have hT : Hid (Rec (World.setCell (World.setCell (World.setCell w5 ⟨w.heap.size, 0, none⟩ (.int .u64 (Q : Int))) ⟨w.heap.size, 1, none⟩ (.int .i64 e)) ⟨w.heap.size, 2, none⟩ (.bool tl)) (w.heap.size) [.int .u64 (Q : Int), .int .i64 e, .bool tl]) := Rec.set3 (Rec.G R0.out (g15))
    have g9 := Rec.g3 (b := w.heap.size) (u := .int .u64 (Q : Int)) (v := .int .i64 e) (x := .bool tl) (G.trans g0 g15) (by omega)
    generalize (World.setCell (World.setCell (World.setCell w5 ⟨w.heap.size, 0, none⟩ (.int .u64 (Q : Int))) ⟨w.heap.size, 1, none⟩ (.int .i64 e)) ⟨w.heap.size, 2, none⟩ (.bool tl)) = w9 at *
    have hF := Rec.f3 (Rec.G hT.out ((G.refl _)))
    have hF_0 := hF.1
    have hF_1 := hF.2.1
    have hF_2 := hF.2.2.1
    have hF_3 := hF.2.2.2.1
    have hF_4 := hF.2.2.2.2.1
    have hF_5 := hF.2.2.2.2.2
    clear hF
    refine bodyPost_ret (v := .agg #[.int .u64 (Q : Int), .int .i64 e, .bool tl]) (by simp [results, Tryz.results83, go_sem, *]) rfl ?_
    exact ⟨rfl, g9⟩
  · omega

/-- What a fraction above 0 comes to: steps, their place, what is left. -/
theorem cut_c (w : World) (A B : Nat) (hA : A ≠ 0) (hB : B ≠ 0) (hbA : EN.blen A ≤ 960000) (hbB : EN.blen B ≤ 960000) :
    ∃ st : Nat, ∃ P : Int, st < 2 ^ 53 ∧ -1074 ≤ P ∧ P ≤ 971 ∧ (P = -1074 ∨ 2 ^ 52 ≤ st) ∧ tV A B = (P + 1074).toNat * 2 ^ 52 + st ∧ lV A B < 4 ∧
    Calls Tryz.prog 168 #[.agg #[.int .u64 ((upP A (frontE A B) / loP B (frontE A B) : Nat) : Int), .int .i64 (frontE A B), .bool (decide (0 < upP A (frontE A B) % loP B (frontE A B)))]] w fun r w' => r = .returned (.tuple #[.int .u64 (st : Int), .int .i64 P, .int .i64 ((lV A B : Nat) : Int)]) ∧ G w w' := by
  obtain ⟨q1, q2, q3⟩ := front_bounds hA hB (e := frontE A B) rfl
  have he : frontE A B = (EN.blen A : Int) - EN.blen B - 62 := rfl
  have hcr : ∀ n : Nat, ∀ P : Int, P = frontE A B + n → upP A P * (loP B (frontE A B) * 2 ^ n) = upP A (frontE A B) * loP B P := fun n P h => cut_cross h
  have hD0 : 0 < loP B (frontE A B) := by unfold loP; exact Nat.mul_pos (by omega) (Nat.two_pow_pos _)
  have hDP : ∀ P : Int, 0 < loP B P := fun P => by unfold loP; exact Nat.mul_pos (by omega) (Nat.two_pow_pos _)
  have hQ0 : upP A (frontE A B) / loP B (frontE A B) ≠ 0 := by omega
  obtain ⟨l1, l2, l3⟩ := blen_pos hQ0
  have hL : EN.blen (upP A (frontE A B) / loP B (frontE A B)) ≤ 63 := by
    have : 2 ^ (EN.blen (upP A (frontE A B) / loP B (frontE A B)) - 1) < 2 ^ 63 := Nat.lt_of_le_of_lt l1 q2
    have := pow_lt_of this
    omega
  have hL2 : 62 ≤ EN.blen (upP A (frontE A B) / loP B (frontE A B)) := by
    have : 2 ^ 61 < 2 ^ EN.blen (upP A (frontE A B) / loP B (frontE A B)) := Nat.lt_of_le_of_lt q1 l2
    have := pow_lt_of this
    omega
  have hlp : lastP A B = max (frontE A B + EN.blen (upP A (frontE A B) / loP B (frontE A B)) - 53) (-1074) := by
    unfold lastP; rw [q3]; omega
  obtain ⟨P, hP⟩ : ∃ P, P = lastP A B := ⟨_, rfl⟩
  have hT : tV A B = if 971 < P then 2047 * 2 ^ 52 - 1 else (P + 1074).toNat * 2 ^ 52 + upP A P / loP B P := by unfold tV; rw [hP]
  have hV : lV A B = if 971 < P then 3 else leftN (upP A P % loP B P) (loP B P) := by unfold lV; rw [hP]
  rw [← hP] at hlp
  have hDPP := hDP P
  clear hDP
  by_cases hf : 971 < P
  · rw [if_pos hf] at hT hV
    refine ⟨9007199254740991, 971, by omega, by omega, by omega, Or.inr (by omega), by rw [hT]; rfl, by omega, ?_⟩
    rw [hV]
    exact cut_far_c w _ (frontE A B) P _ hQ0 q2 (by omega) (by omega) hlp hf
  · rw [if_neg hf] at hT hV
    obtain ⟨n, hn⟩ : ∃ n : Nat, P = frontE A B + n ∧ 9 ≤ n := ⟨(P - frontE A B).toNat, by omega, by omega⟩
    obtain ⟨hn, hn9⟩ := hn
    have hc := hcr n P hn
    have hd2 : 0 < loP B (frontE A B) * 2 ^ n := Nat.mul_pos hD0 (Nat.two_pow_pos n)
    have e1 : upP A P / loP B P = upP A (frontE A B) / loP B (frontE A B) / 2 ^ n := by
      rw [div_cross hDPP hd2 hc, Nat.div_div_eq_div_mul]
    have e2 : leftN (upP A P % loP B P) (loP B P) = lv (upP A (frontE A B) / loP B (frontE A B) % 2 ^ n) (2 ^ (n - 1)) (decide (0 < upP A (frontE A B) % loP B (frontE A B))) := by
      rw [leftN_cross hDPP hd2 hc, leftN_steps _ _ n hD0 (by omega)]
      unfold lv
      have e3 : (decide (0 < upP A (frontE A B) % loP B (frontE A B)) = false) = (upP A (frontE A B) % loP B (frontE A B) = 0) := by
        apply propext
        rw [decide_eq_false_iff_not]
        omega
      simp only [e3]
    rw [e1] at hT
    rw [e2] at hV
    clear e1 e2 hc hcr hd2 hD0 hDPP q3
    generalize decide (0 < upP A (frontE A B) % loP B (frontE A B)) = tl at *
    generalize upP A (frontE A B) / loP B (frontE A B) = Q at *
    generalize frontE A B = e at *
    have hlv : ∀ b m : Nat, lv b m tl < 4 := fun b m => by unfold lv; split; omega; split; omega; split <;> omega
    by_cases hnb : 63 < P - e
    · have hp : 2 ^ 63 ≤ 2 ^ (n - 1) := pow_le (by omega)
      have hp2 : 2 ^ n = 2 * 2 ^ (n - 1) := by
        obtain ⟨k, rfl⟩ : ∃ k, n = k + 1 := ⟨n - 1, by omega⟩
        simp [Nat.pow_succ, Nat.mul_comm]
      have e4 : Q / 2 ^ n = 0 := Nat.div_eq_of_lt (by omega)
      have e5 : Q % 2 ^ n = Q := Nat.mod_eq_of_lt (by omega)
      have e6 : lV A B = 1 := by
        rw [hV, e5]; unfold lv
        rw [if_neg (by omega), if_pos (by omega)]
      have hPm : P = -1074 := by omega
      refine ⟨0, P, by omega, by omega, by omega, Or.inl hPm, by rw [hT, e4], by omega, ?_⟩
      rw [e6]
      exact cut_low_c w Q e P tl hQ0 q2 (by omega) (by omega) hlp (by omega) hnb
    · obtain ⟨k, hk⟩ : ∃ k, n = k + 1 := ⟨n - 1, by omega⟩
      have hst : Q / 2 ^ n < 2 ^ 53 := by
        rw [Nat.div_lt_iff_lt_mul (Nat.two_pow_pos n), ← Nat.pow_add]
        exact Nat.lt_of_lt_of_le l2 (pow_le (by omega))
      refine ⟨Q / 2 ^ n, P, hst, by omega, by omega, ?_, hT, by rw [hV]; exact hlv _ _, ?_⟩
      · by_cases hPm : P = -1074
        · exact Or.inl hPm
        · right
          rw [Nat.le_div_iff_mul_le (Nat.two_pow_pos n), ← Nat.pow_add]
          exact Nat.le_trans (pow_le (by omega)) l1
      · rw [hV, hk]
        exact cut_near_c w Q k e P tl hQ0 q2 (by omega) (by omega) hlp (by omega) (by omega) (by omega)
end Go.Proofs.YtahfkkkfpcdjaabGreatDoor.EN
namespace Go.Proofs.YtahfkkkfpcdjaabGreatDoor.EN
open Go.ChangeShapes Go.WideShapes Go.ChangeAt Go.RowKit
attribute [local go_sem] unary_negf

/-- Whether a number between two floats goes on to the one that is farther from 0. -/
def onw (m : Int) (neg odd : Bool) (l : Nat) : Bool := if m = 1 then l == 3 || (l == 2 && odd) else if m = 2 then neg else if m = 3 then !neg else false

def RetRule (m : Int) (neg : Bool) (w : World) (e : Ending) (w' : World) : Prop := ∃ (F : Nat) (caps : Array Value), e = .returned (.func (.func F) #[] caps) ∧ G w w' ∧
  (∀ w2, G w' w2 → ∀ (odd : Bool) (l : Nat), l < 4 → Calls Tryz.prog F (#[.bool odd, .int .i64 (l : Int)] ++ caps) w2 fun e w3 => e = .returned (.bool (onw m neg odd l)) ∧ G w2 w3) ∧
  (∀ args w2, (callFunc F args).run Tryz.prog w2 = .ok (.enter F args) w2)

theorem near_clo (w : World) (odd : Bool) (l : Nat) (hl : l < 4) : Calls Tryz.prog 244 #[.bool odd, .int .i64 (l : Int)] w fun e w3 => e = .returned (.bool (l == 3 || (l == 2 && odd))) ∧ G w w3 := by
  have h : l = 0 ∨ l = 1 ∨ l = 2 ∨ l = 3 := by omega
  rcases h with rfl | rfl | rfl | rfl <;> cases odd
  all_goals
    go_enter Tryz.func244, Tryz.ntmps244
    go_wp2_with fail
    go_ret
    exact ⟨rfl, G.refl _⟩
theorem down_clo (w : World) (b l : Nat) (neg odd : Bool) (hr : w.cell? ⟨b, 0, none⟩ = some (.bool neg)) : Calls Tryz.prog 245 #[.bool odd, .int .i64 (l : Int), .pointer (some ⟨b, 0, none⟩)] w fun e w3 => e = .returned (.bool neg) ∧ G w w3 := by
  go_enter Tryz.func245, Tryz.ntmps245
  go_wp2_with fail
  go_ret
  exact ⟨rfl, G.refl _⟩
theorem up_clo (w : World) (b l : Nat) (neg odd : Bool) (hr : w.cell? ⟨b, 0, none⟩ = some (.bool neg)) : Calls Tryz.prog 246 #[.bool odd, .int .i64 (l : Int), .pointer (some ⟨b, 0, none⟩)] w fun e w3 => e = .returned (.bool (!neg)) ∧ G w w3 := by
  go_enter Tryz.func246, Tryz.ntmps246
  go_wp2_with fail
  go_ret
  exact ⟨rfl, G.refl _⟩
theorem in_clo (w : World) (l : Nat) (odd : Bool) : Calls Tryz.prog 247 #[.bool odd, .int .i64 (l : Int)] w fun e w3 => e = .returned (.bool false) ∧ G w w3 := by
  go_enter Tryz.func247, Tryz.ntmps247
  go_wp2_with fail
  go_ret
  exact ⟨rfl, G.refl _⟩

theorem rule_c (w : World) (m : Int) (neg : Bool) (hm : m = 1 ∨ m = 2 ∨ m = 3 ∨ m = 4) :
    Calls Tryz.prog 167 #[.int .i64 m, .bool neg] w (RetRule m neg w) := by
  rcases hm with rfl | rfl | rfl | rfl
  · go_enter Tryz.func167, Tryz.ntmps167
    go_wp2_with fail
    go_ret
    exact ⟨244, #[], rfl, (G.refl _).alloc _, fun w2 _ odd l hl => near_clo w2 odd l hl, fun _ _ => by kernel_rfl⟩
  · go_enter Tryz.func167, Tryz.ntmps167
    go_wp2_with fail
    go_ret
    have hc : (w.alloc (.cells #[.bool neg] 4)).cell? ⟨w.heap.size, 0, none⟩ = some (.bool neg) := by simp [go_sem]
    exact ⟨245, #[.pointer (some ⟨w.heap.size, 0, none⟩)], rfl, (G.refl _).alloc _, fun w2 g odd l hl => down_clo w2 w.heap.size l neg odd (g.cell (p := ⟨w.heap.size, 0, none⟩) (by simp) hc), fun _ _ => by kernel_rfl⟩
  · go_enter Tryz.func167, Tryz.ntmps167
    go_wp2_with fail
    go_ret
    have hc : (w.alloc (.cells #[.bool neg] 4)).cell? ⟨w.heap.size, 0, none⟩ = some (.bool neg) := by simp [go_sem]
    exact ⟨246, #[.pointer (some ⟨w.heap.size, 0, none⟩)], rfl, (G.refl _).alloc _, fun w2 g odd l hl => up_clo w2 w.heap.size l neg odd (g.cell (p := ⟨w.heap.size, 0, none⟩) (by simp) hc), fun _ _ => by kernel_rfl⟩
  · go_enter Tryz.func167, Tryz.ntmps167
    go_wp2_with fail
    go_ret
    exact ⟨247, #[], rfl, (G.refl _).alloc _, fun w2 _ odd l hl => in_clo w2 l odd, fun _ _ => by kernel_rfl⟩
theorem func_nil (F : Nat) (caps : Array Value) (w : World) : (binOp BinOp.eql 180 (.func (.func F) #[] caps) .nilFunc).run Tryz.prog w = .ok (.bool false) w := by kernel_rfl
/-- The float that so many steps at a place make. -/
theorem make_steps {v : Nat} {P : Int} (hv : v ≤ 2 ^ 53) (hP : -1074 ≤ P) (hP2 : P ≤ 971) (h : P = -1074 ∨ 2 ^ 52 ≤ v) : nearV 11 52 v P = (P + 1074).toNat * 2 ^ 52 + v := by
  have hb : (P + 1074).toNat ≤ 2045 := by omega
  rcases Nat.lt_or_eq_of_le hv with h1 | h1
  · rw [nearV_at h1 hP h, Nat.min_eq_left]
    omega
  · subst h1
    have e1 := fl_near (A := 2 ^ 53 * 2 ^ P.toNat) (B := 2 ^ (-P).toNat) (mag := 2 ^ 53) (e := P) (Nat.mul_ne_zero (by omega) (by have := Nat.two_pow_pos P.toNat; omega)) (by have := Nat.two_pow_pos (-P).toNat; omega) (by omega) (by omega) (by ac_rfl)
    have e2 := fl_near (A := 2 ^ 53 * 2 ^ P.toNat) (B := 2 ^ (-P).toNat) (mag := 2 ^ 52) (e := P + 1) (Nat.mul_ne_zero (by omega) (by have := Nat.two_pow_pos P.toNat; omega)) (by have := Nat.two_pow_pos (-P).toNat; omega) (by omega) (by omega) (by
      have : 53 + P.toNat + (-(P + 1)).toNat = 52 + (-P).toNat + (P + 1).toNat := by omega
      rw [← Nat.pow_add, ← Nat.pow_add, ← Nat.pow_add, ← Nat.pow_add, this])
    rw [e1, ← e2, nearV_at (by omega) (by omega) (Or.inr (Nat.le_refl _))]
    rw [show (P + 1 + 1074).toNat = (P + 1074).toNat + 1 from by omega]
    generalize (P + 1074).toNat = k at *
    rw [Nat.min_eq_left]
    · omega
    · omega

set_option maxRecDepth 10000 in
set_option maxHeartbeats 1000000 in
theorem rounded_c (w : World) (v : Value) (x : Rat) (m : Int) (FR : Nat) (fv : Value) (st : Nat) (P : Int) (l : Nat) (hm : m = 1 ∨ m = 2 ∨ m = 3 ∨ m = 4) (hx : QIs w v x) (h0 : x ≠ 0)
    (hst : st < 2 ^ 53) (hP1 : -1074 ≤ P) (hP2 : P ≤ 971) (hP3 : P = -1074 ∨ 2 ^ 52 ≤ st) (hl : l < 4)
    (HQ : ∀ w1 v1 v2, G w w1 → Num w1 v1 x.num.natAbs → Num w1 v2 x.den → Calls Tryz.prog FR #[v1, v2] w1 fun e w2 => e = .returned fv ∧ G w1 w2)
    (HE : ∀ args w, (callFunc FR args).run Tryz.prog w = .ok (.enter FR args) w)
    (HC : ∀ w1, Calls Tryz.prog 168 #[fv] w1 fun r w' => r = .returned (.tuple #[.int .u64 (st : Int), .int .i64 P, .int .i64 (l : Int)]) ∧ G w1 w') :
    Calls Tryz.prog 82 #[v, .int .i64 m, .func (.func FR) #[] #[]] w fun r w' => r = .returned (.tuple #[.float .f64 (FT.wrd (decide (x.num < 0)) ((P + 1074).toNat * 2 ^ 52 + st + if l ≠ 0 ∧ onw m (decide (x.num < 0)) (st % 2 == 1) l = true then 1 else 0)), .int .i64 0]) ∧ G w w' := by
  have HSG : Hid (∀ w1, G w w1 → _) := fun w1 g => qsign_c w1 v x (hx.G g)
  have HB : Hid (∀ w1, G w w1 → _) := fun w1 g => bar_c w1 v x (hx.G g)
  have hz : (x.num.sign == 0) = false := by rw [sign_zero_iff, decide_eq_false h0]
  obtain ⟨a, k, c, a', k', c', rfl, hx1, hx2⟩ := hx
  obtain ⟨s, hs⟩ : ∃ s, s = decide (x.num < 0) := ⟨_, rfl⟩
  rw [← hs]
  rw [← hs] at HSG HB
  have HR : Hid (∀ w1, _) := fun w1 => rule_c w1 m s hm
  obtain ⟨u, hu⟩ : ∃ u : Nat, u = if l ≠ 0 ∧ onw m s (st % 2 == 1) l = true then 1 else 0 := ⟨_, rfl⟩
  rw [← hu]
  have hu1 : u ≤ 1 := by rw [hu]; split <;> omega
  have hfin : nearV 11 52 (st + u) P = (P + 1074).toNat * 2 ^ 52 + st + u := by
    rw [make_steps (by omega) hP1 hP2 (by omega)]; omega
  have HMK : Hid (∀ w1, Calls Tryz.prog 169 #[.int .i64 ((st + u : Nat) : Int), .int .i64 P] w1 fun r w' => r = .returned (.float .f64 ((P + 1074).toNat * 2 ^ 52 + st + u)) ∧ G w1 w') := fun w1 => by
    have h := make_c ((st + u : Nat) : Int) P w1 (by omega) (by omega) (by omega) (by omega)
    rw [if_neg (by omega), Int.natAbs_natCast, show clamp P = P from by unfold clamp; omega, hfin] at h
    exact h
  have hfb : (P + 1074).toNat * 2 ^ 52 + st + u < 2 ^ 63 := by
    have : (P + 1074).toNat ≤ 2045 := by omega
    omega
  have hw0 : FT.wrd false ((P + 1074).toNat * 2 ^ 52 + st + u) = (P + 1074).toNat * 2 ^ 52 + st + u := rfl
  obtain ⟨fl, hfl⟩ : ∃ fl, fl = (P + 1074).toNat * 2 ^ 52 + st + u := ⟨_, rfl⟩
  rw [← hfl] at HMK hfb hw0 ⊢
  clear hfin hfl
  have hng := negFloat_eq fl (by clear hu; omega)
  have hng2 : negV fl = FT.wrd true fl := by
    have h1 : FT.neg fl = false := by unfold FT.neg; simp; clear hu; omega
    unfold negV
    rw [if_neg (by rw [h1]; simp)]
    rfl
  rw [hng2] at hng
  clear hng2
  obtain ⟨fn, hfn⟩ : ∃ fn, fn = FT.wrd true fl := ⟨_, rfl⟩
  rw [← hfn] at hng
  have HNG : Hid (Op.negFloat .f64 fl = fn) := hng
  have HNE : Hid (Ending.returned (.tuple #[.float .f64 fn, .int .i64 0]) = .returned (.tuple #[.float .f64 (FT.wrd true fl), .int .i64 0])) := by show Ending.returned (.tuple #[.float .f64 fn, .int .i64 0]) = .returned (.tuple #[.float .f64 (FT.wrd true fl), .int .i64 0]); rw [hfn]
  have HQ1 : Hid (∀ w1 v1 v2, G w w1 → Num w1 v1 x.num.natAbs → Num w1 v2 x.den → _) := HQ
  have HC1 : Hid (∀ w1, _) := HC
  have HX1 : Hid (Num w (.slice a k c) x.num.natAbs) := hx1
  have HFR : Hid (∀ args w, (callFunc FR args).run Tryz.prog w = .ok (.enter FR args) w) := HE
  have hP4 : -9223372036854775808 ≤ P := by omega
  have hP5 : P ≤ 9223372036854775807 := by omega
  have HST : Hid (st < 2 ^ 53) := hst
  have HLL : Hid (l < 4) := hl
  have HU : Hid (u = if l ≠ 0 ∧ onw m s (st % 2 == 1) l = true then 1 else 0) := hu
  have hsti : (st : Int) < 9007199254740992 := by omega
  have hli : (l : Int) < 4 := by omega
  generalize x.num.sign = z at *
  generalize x.num.natAbs = xn at *
  obtain ⟨d, hd⟩ : ∃ d, d = x.den := ⟨_, rfl⟩
  rw [← hd] at HB HQ1
  clear hfb hw0 hng hfn HQ HC HE hx1 hx2 hs hd hst hl hu hP1 hP2 hP3 hm h0
  go_enter Tryz.func82, Tryz.ntmps82
  go_wp2_with fail
  have g0 : G w (w.alloc (.cells #[.bool s, .slice a k c, .slice a' k' c'] 28)) := ((G.refl w).alloc _)
  have R0 : Hid (Rec (w.alloc (.cells #[.bool s, .slice a k c, .slice a' k' c'] 28)) (w.heap.size) [.bool s, .slice a k c, .slice a' k' c']) := by
    have h := Rec.new3 w (.bool s) (.slice a k c) (.slice a' k' c') 28
    exact h
  have hz0 : (w.alloc (.cells #[.bool s, .slice a k c, .slice a' k' c'] 28)).heap.size = w.heap.size + 1 := by simp
  generalize (w.alloc (.cells #[.bool s, .slice a k c, .slice a' k' c'] 28)) = w0 at *
  refine Calls.mono (P := Tryz.prog) (HR.out w0) ?_
  intro e1 w1 hs
  obtain ⟨F, caps, rfl, g1, hclo, hcf0⟩ := hs
  have HCF : Hid (∀ args w2, (callFunc F args).run Tryz.prog w2 = .ok (.enter F args) w2) := hcf0
  clear hcf0
  have HCL : Hid (∀ w2, G w1 w2 → ∀ (odd : Bool) (l : Nat), l < 4 → Calls Tryz.prog F (#[.bool odd, .int .i64 (l : Int)] ++ caps) w2 fun e w3 => e = .returned (.bool (onw m s odd l)) ∧ G w2 w3) := hclo
  have g01 := G.trans g0 g1
  have S0 : Hid (Rec _ _ _) := Rec.G R0.out (g1)
  clear hclo g0 g1 R0 HR
  have hSS0 := Rec.f3 (Rec.G S0.out (G.refl _))
  have hSS0_0 := hSS0.1
  have hSS0_1 := hSS0.2.1
  have hSS0_2 := hSS0.2.2.1
  have hSS0_3 := hSS0.2.2.2.1
  have hSS0_4 := hSS0.2.2.2.2.1
  have hSS0_5 := hSS0.2.2.2.2.2
  clear hSS0
  have hfn := func_nil F caps w1
  go_wp2_with fail
  clear hfn
  refine Calls.mono (P := Tryz.prog) (HSG.out w1 g01) ?_
  rintro e1 w2 ⟨rfl, g2⟩
  have g02 := G.trans g01 g2
  have T0 : Hid (Rec _ _ _) := Rec.G S0.out (g2)
  clear hSS0_0 hSS0_1 hSS0_2 hSS0_3 hSS0_4 hSS0_5 S0 HSG
  go_wp2_with fail
  refine region_each 15 0 #[true, true, true, true, true, true, true, true, true, true, true, true, true, true, true] [.is (.func (.func FR) #[] #[]), .is (.pointer (some ⟨w.heap.size, 0, none⟩)), .is (.pointer (some ⟨w.heap.size, 1, none⟩)), .is (.slice a k c), .is (.agg #[.bool s, .slice a k c, .slice a' k' c']), .any (fun v w' => Num w' v (d)), .is (fv), .is (.tuple #[.int .u64 (st : Int), .int .i64 P, .int .i64 (l : Int)]), .is (.tuple #[.int .u64 (st : Int), .int .i64 P, .int .i64 (l : Int)]), .is (.int .u64 (st : Int)), .is (.int .i64 P), .is (.int .i64 (l : Int)), .is (.int .u64 (st : Int)), .is (.int .i64 P), .is (.int .i64 (l : Int))] [some 24, some 25, some 26, some 27, some 28, some 29, some 30, some 31, some 23, some 32, some 33, some 34, some 9, some 10, some 11] (by kernel_rfl) (by kernel_rfl) rfl (by kernel_rfl) (by repeat (first | exact trivial | refine ⟨fun _ _ _ g h => by first | exact h.G g | exact fun w3 g3 => h w3 (G.trans g g3), ?_⟩)) (by kernel_rfl) (by kernel_rfl) ?_
  refine Letters.is ?_
  refine Letters.is ?_
  refine Letters.is ?_
  refine Letters.is ?_
  refine Letters.is ?_
  refine Letters.any fun v5 => ?_
  refine Letters.is ?_
  refine Letters.is ?_
  refine Letters.is ?_
  refine Letters.is ?_
  refine Letters.is ?_
  refine Letters.is ?_
  refine Letters.is ?_
  refine Letters.is ?_
  refine Letters.is ?_
  refine Letters.nil ?_
  intro A hA
  simp only [fillD, Act.put, List.setIfInBounds_toArray, List.set_cons_zero, List.set_cons_succ] at hA
  subst hA
  refine ⟨?_, ?_⟩
  · skip
    refine Eaches.cons rfl ?_ ?_
    · intro W hW hD K hK
      clear hD
      go_simp
      exact hK.out _ _ ⟨_, by first | (simp only [Act.put, List.setIfInBounds_toArray, List.set_cons_zero, List.set_cons_succ]; done) | simp only [Act.put, List.setIfInBounds_toArray, List.set_cons_zero, List.set_cons_succ, *], G.refl _, rfl⟩
    refine Eaches.cons rfl ?_ ?_
    · intro W hW hD K hK
      clear hD
      go_simp
      exact hK.out _ _ ⟨_, by first | (simp only [Act.put, List.setIfInBounds_toArray, List.set_cons_zero, List.set_cons_succ]; done) | simp only [Act.put, List.setIfInBounds_toArray, List.set_cons_zero, List.set_cons_succ, *], G.refl _, rfl⟩
    refine Eaches.cons rfl ?_ ?_
    · intro W hW hD K hK
      clear hD
      go_simp
      exact hK.out _ _ ⟨_, by first | (simp only [Act.put, List.setIfInBounds_toArray, List.set_cons_zero, List.set_cons_succ]; done) | simp only [Act.put, List.setIfInBounds_toArray, List.set_cons_zero, List.set_cons_succ, *], G.refl _, rfl⟩
    refine Eaches.cons rfl ?_ ?_
    · intro W hW hD K hK
      clear hD
      have hT0 := Rec.f3 (Rec.G T0.out hW)
      have hT0_0 := hT0.1
      have hT0_1 := hT0.2.1
      have hT0_2 := hT0.2.2.1
      clear hT0
      go_simp
      exact hK.out _ _ ⟨_, by first | (simp only [Act.put, List.setIfInBounds_toArray, List.set_cons_zero, List.set_cons_succ]; done) | simp only [Act.put, List.setIfInBounds_toArray, List.set_cons_zero, List.set_cons_succ, *], G.refl _, rfl⟩
    refine Eaches.cons rfl ?_ ?_
    · intro W hW hD K hK
      clear hD
      have hT0 := Rec.f3 (Rec.G T0.out hW)
      have hT0_0 := hT0.1
      have hT0_1 := hT0.2.1
      have hT0_2 := hT0.2.2.1
      clear hT0
      go_simp
      exact hK.out _ _ ⟨_, by first | (simp only [Act.put, List.setIfInBounds_toArray, List.set_cons_zero, List.set_cons_succ]; done) | simp only [Act.put, List.setIfInBounds_toArray, List.set_cons_zero, List.set_cons_succ, *], G.refl _, rfl⟩
    refine Eaches.cons rfl ?_ ?_
    · intro W hW hD K hK
      clear hD
      go_simp
      go_wp2_with (go_at_call 72; refine Calls.mono (P := Tryz.prog) (HB.out W (G.trans g02 hW)) ?_; intro e w9 hs; obtain ⟨u9, rfl, g9, hn9⟩ := hs)
      exact hK.out _ _ ⟨_, by first | (simp only [Act.put, List.setIfInBounds_toArray, List.set_cons_zero, List.set_cons_succ]; done) | simp only [Act.put, List.setIfInBounds_toArray, List.set_cons_zero, List.set_cons_succ, *], g9, hn9⟩
    refine Eaches.cons rfl ?_ ?_
    · intro W hW hD K hK
      have h5 := Deps.get (v := v5) 5 hD rfl rfl (by kernel_rfl)
      clear hD
      have hcf := HFR.out #[.slice a k c, v5] W
      go_simp
      go_wp2_with (refine Calls.mono (P := Tryz.prog) (HQ1.out W (.slice a k c) v5 (G.trans g02 hW) (HX1.out.G (G.trans g02 hW)) h5) ?_; intro e w9 hs; obtain ⟨rfl, g9⟩ := hs)
      exact hK.out _ _ ⟨_, by first | (simp only [Act.put, List.setIfInBounds_toArray, List.set_cons_zero, List.set_cons_succ]; done) | simp only [Act.put, List.setIfInBounds_toArray, List.set_cons_zero, List.set_cons_succ, *], g9, rfl⟩
    refine Eaches.cons rfl ?_ ?_
    · intro W hW hD K hK
      clear hD
      go_simp
      go_wp2_with (go_at_call 168; refine Calls.mono (P := Tryz.prog) (HC1.out W) ?_; intro e w9 hs; obtain ⟨rfl, g9⟩ := hs)
      exact hK.out _ _ ⟨_, by first | (simp only [Act.put, List.setIfInBounds_toArray, List.set_cons_zero, List.set_cons_succ]; done) | simp only [Act.put, List.setIfInBounds_toArray, List.set_cons_zero, List.set_cons_succ, *], g9, rfl⟩
    refine Eaches.cons rfl ?_ ?_
    · intro W hW hD K hK
      clear hD
      go_simp
      exact hK.out _ _ ⟨_, by first | (simp only [Act.put, List.setIfInBounds_toArray, List.set_cons_zero, List.set_cons_succ]; done) | simp only [Act.put, List.setIfInBounds_toArray, List.set_cons_zero, List.set_cons_succ, *], G.refl _, rfl⟩
    refine Eaches.cons rfl ?_ ?_
    · intro W hW hD K hK
      clear hD
      go_simp
      exact hK.out _ _ ⟨_, by first | (simp only [Act.put, List.setIfInBounds_toArray, List.set_cons_zero, List.set_cons_succ]; done) | simp only [Act.put, List.setIfInBounds_toArray, List.set_cons_zero, List.set_cons_succ, *], G.refl _, rfl⟩
    refine Eaches.cons rfl ?_ ?_
    · intro W hW hD K hK
      clear hD
      go_simp
      exact hK.out _ _ ⟨_, by first | (simp only [Act.put, List.setIfInBounds_toArray, List.set_cons_zero, List.set_cons_succ]; done) | simp only [Act.put, List.setIfInBounds_toArray, List.set_cons_zero, List.set_cons_succ, *], G.refl _, rfl⟩
    refine Eaches.cons rfl ?_ ?_
    · intro W hW hD K hK
      clear hD
      go_simp
      exact hK.out _ _ ⟨_, by first | (simp only [Act.put, List.setIfInBounds_toArray, List.set_cons_zero, List.set_cons_succ]; done) | simp only [Act.put, List.setIfInBounds_toArray, List.set_cons_zero, List.set_cons_succ, *], G.refl _, rfl⟩
    refine Eaches.cons rfl ?_ ?_
    · intro W hW hD K hK
      clear hD
      go_simp
      exact hK.out _ _ ⟨_, by first | (simp only [Act.put, List.setIfInBounds_toArray, List.set_cons_zero, List.set_cons_succ]; done) | simp only [Act.put, List.setIfInBounds_toArray, List.set_cons_zero, List.set_cons_succ, *], G.refl _, rfl⟩
    refine Eaches.cons rfl ?_ ?_
    · intro W hW hD K hK
      clear hD
      go_simp
      exact hK.out _ _ ⟨_, by first | (simp only [Act.put, List.setIfInBounds_toArray, List.set_cons_zero, List.set_cons_succ]; done) | simp only [Act.put, List.setIfInBounds_toArray, List.set_cons_zero, List.set_cons_succ, *], G.refl _, rfl⟩
    refine Eaches.cons rfl ?_ ?_
    · intro W hW hD K hK
      clear hD
      go_simp
      exact hK.out _ _ ⟨_, by first | (simp only [Act.put, List.setIfInBounds_toArray, List.set_cons_zero, List.set_cons_succ]; done) | simp only [Act.put, List.setIfInBounds_toArray, List.set_cons_zero, List.set_cons_succ, *], G.refl _, rfl⟩
    exact Eaches.nil
  intro w3 g3 hH
  clear hH
  refine wpAny_done (by kernel_rfl) ?_ _
  have g03 := G.trans g02 g3
  have g13 := G.trans g2 g3
  have U0 : Hid (Rec _ _ _) := Rec.G T0.out (g3)
  clear T0 HB HQ1 HC1 HX1 g02 g2 g3
  by_cases hl0 : l = 0
  · have hl1 : ((l : Int) != 0) = false := by rw [hl0]; rfl
    have hu0 : u = 0 := by rw [HU.out, if_neg (by rintro ⟨h, -⟩; exact h hl0)]
    subst hu0
    rw [Nat.add_zero] at HMK
    have g04 := g03
    have hw5 : IntKind.i64.wrap (st : Int) = st := by rw [IntKind.wrap_i64]; omega
    clear HU HCL hl0 g13 g03
    have hSU0 := Rec.f3 (Rec.G U0.out (G.refl _))
    have hSU0_0 := hSU0.1
    have hSU0_1 := hSU0.2.1
    have hSU0_2 := hSU0.2.2.1
    have hSU0_3 := hSU0.2.2.2.1
    have hSU0_4 := hSU0.2.2.2.2.1
    have hSU0_5 := hSU0.2.2.2.2.2
    clear hSU0
    clear hSU0_3 hSU0_4 hSU0_5
    go_wp2_with fail
    refine Calls.mono (P := Tryz.prog) (HMK.out _) ?_
    rintro e9 w9 ⟨rfl, g9⟩
    have g09 := G.trans g04 g9
    have X0 : Hid (Rec _ _ _) := Rec.G U0.out (g9)
    have hx0 := Rec.f3 X0.out
    have hx1 := hx0.1
    clear HMK g04 g9 hx0
    cases s
    · go_wp2_with fail
      go_ret2
      exact ⟨rfl, g09⟩
    · have hng := HNG.out
      go_wp2_with fail
      go_ret2
      exact ⟨HNE.out, g09⟩
  · have hl1 : ((l : Int) != 0) = true := by simp; exact hl0
    obtain ⟨odd, ho⟩ : ∃ odd, odd = (st % 2 == 1) := ⟨_, rfl⟩
    have hod : ((st : Int) % 2 == 1) = odd := by rw [ho, Bool.eq_iff_iff]; simp; omega
    have hst2 : (0 : Int) ≤ st := by omega
    have hcl := HCL.out w3 g13 odd l HLL.out
    rw [ho] at hcl
    have hu : u = if onw m s (st % 2 == 1) l = true then 1 else 0 := by rw [HU.out]; simp [hl0]
    generalize onw m s (st % 2 == 1) l = ob at *
    rw [← ho] at hcl
    have HCL3 : Hid _ := hcl
    have HU2 : Hid (u = if ob = true then 1 else 0) := hu
    have hcf := HCF.out (#[.bool odd, .int .i64 (l : Int)] ++ caps) w3
    clear HU HCL hl0 g13 ho hcl hu
    have hSU0 := Rec.f3 (Rec.G U0.out (G.refl _))
    have hSU0_0 := hSU0.1
    have hSU0_1 := hSU0.2.1
    have hSU0_2 := hSU0.2.2.1
    have hSU0_3 := hSU0.2.2.2.1
    have hSU0_4 := hSU0.2.2.2.2.1
    have hSU0_5 := hSU0.2.2.2.2.2
    clear hSU0
    clear hSU0_3 hSU0_4 hSU0_5
    go_wp2_with fail
    refine Calls.mono (P := Tryz.prog) HCL3.out ?_
    rintro e8 w8 ⟨rfl, g8⟩
    have g04 := G.trans g03 g8
    have V0 : Hid (Rec _ _ _) := Rec.G U0.out (g8)
    clear hcf HCL3 U0 g03 g8 hSU0_0 hSU0_1 hSU0_2
    have U0 : Hid (Rec w8 w.heap.size [.bool s, .slice a k c, .slice a' k' c']) := V0.out
    clear V0
    cases ob
    · have hu0 : u = 0 := HU2.out
      subst hu0
      rw [Nat.add_zero] at HMK
      have hw5 : IntKind.i64.wrap (st : Int) = st := by rw [IntKind.wrap_i64]; omega
      clear HU2
      go_wp2_with fail
      refine Calls.mono (P := Tryz.prog) (HMK.out _) ?_
      rintro e9 w9 ⟨rfl, g9⟩
      have g09 := G.trans g04 g9
      have X0 : Hid (Rec _ _ _) := Rec.G U0.out (g9)
      have hx0 := Rec.f3 X0.out
      have hx1 := hx0.1
      clear HMK g04 g9 hx0
      cases s
      · go_wp2_with fail
        go_ret2
        exact ⟨rfl, g09⟩
      · have hng := HNG.out
        go_wp2_with fail
        go_ret2
        exact ⟨HNE.out, g09⟩
    · have hu0 : u = 1 := HU2.out
      subst hu0
      have hw5 : IntKind.i64.wrap ((st : Int) + 1) = (st : Int) + 1 := by rw [IntKind.wrap_i64]; omega
      have HMK' : Hid (∀ w1, Calls Tryz.prog 169 #[.int .i64 ((st : Int) + 1), .int .i64 P] w1 fun r w' => r = .returned (.float .f64 fl) ∧ G w1 w') := fun w1 => by
        have h := HMK.out w1
        rw [show ((st + 1 : Nat) : Int) = (st : Int) + 1 from by omega] at h
        exact h
      clear HU2 HMK
      have HMK := HMK'
      clear HMK'
      go_wp2_with fail
      refine Calls.mono (P := Tryz.prog) (HMK.out _) ?_
      rintro e9 w9 ⟨rfl, g9⟩
      have g09 := G.trans g04 g9
      have X0 : Hid (Rec _ _ _) := Rec.G U0.out (g9)
      have hx0 := Rec.f3 X0.out
      have hx1 := hx0.1
      clear HMK g04 g9 hx0
      cases s
      · go_wp2_with fail
        go_ret2
        exact ⟨rfl, g09⟩
      · have hng := HNG.out
        go_wp2_with fail
        go_ret2
        exact ⟨HNE.out, g09⟩
end Go.Proofs.YtahfkkkfpcdjaabGreatDoor.EN
namespace Go.Proofs.YtahfkkkfpcdjaabGreatDoor.EN
open Go.ChangeShapes Go.WideShapes Go.ChangeAt Go.RowKit

/-- A fraction above 0 rounded: the float's place. -/
def rdV (m : Int) (neg : Bool) (A B : Nat) : Nat := tV A B + if lV A B ≠ 0 ∧ onw m neg (tV A B % 2 == 1) (lV A B) = true then 1 else 0

set_option maxRecDepth 10000 in
theorem rounded_zero_c (w : World) (v : Value) (m : Int) (FR : Nat) (hm : m = 1 ∨ m = 2 ∨ m = 3 ∨ m = 4) (hx : QIs w v 0) :
    Calls Tryz.prog 82 #[v, .int .i64 m, .func (.func FR) #[] #[]] w fun r w' => r = .returned (.tuple #[.float .f64 0, .int .i64 0]) ∧ G w w' := by
  have HSG : Hid (∀ w1, G w w1 → _) := fun w1 g => qsign_c w1 v 0 (hx.G g)
  have hz : ((0 : Rat).num.sign == 0) = true := rfl
  obtain ⟨a, k, c, a', k', c', rfl, -, -⟩ := hx
  have HR : Hid (∀ w1, _) := fun w1 => rule_c w1 m (decide ((0 : Rat).num < 0)) hm
  generalize decide ((0 : Rat).num < 0) = s at *
  generalize (0 : Rat).num.sign = z at *
  clear hm
  go_enter Tryz.func82, Tryz.ntmps82
  go_wp2_with fail
  have g0 : G w (w.alloc (.cells #[.bool s, .slice a k c, .slice a' k' c'] 28)) := ((G.refl w).alloc _)
  have R0 : Hid (Rec (w.alloc (.cells #[.bool s, .slice a k c, .slice a' k' c'] 28)) (w.heap.size) [.bool s, .slice a k c, .slice a' k' c']) := by
    have h := Rec.new3 w (.bool s) (.slice a k c) (.slice a' k' c') 28
    exact h
  have hz0 : (w.alloc (.cells #[.bool s, .slice a k c, .slice a' k' c'] 28)).heap.size = w.heap.size + 1 := by simp
  generalize (w.alloc (.cells #[.bool s, .slice a k c, .slice a' k' c'] 28)) = w0 at *
  refine Calls.mono (P := Tryz.prog) (HR.out w0) ?_
  intro e1 w1 hs
  obtain ⟨F, caps, rfl, g1, -, -⟩ := hs
  have g01 := G.trans g0 g1
  have S0 : Hid (Rec _ _ _) := Rec.G R0.out (g1)
  clear g0 g1 R0 HR
  have hSS0 := Rec.f3 (Rec.G S0.out (G.refl _))
  have hSS0_0 := hSS0.1
  have hSS0_1 := hSS0.2.1
  have hSS0_2 := hSS0.2.2.1
  have hSS0_3 := hSS0.2.2.2.1
  have hSS0_4 := hSS0.2.2.2.2.1
  have hSS0_5 := hSS0.2.2.2.2.2
  clear hSS0
  have hfn := func_nil F caps w1
  go_wp2_with fail
  clear hfn
  refine Calls.mono (P := Tryz.prog) (HSG.out w1 g01) ?_
  rintro e1 w2 ⟨rfl, g2⟩
  go_wp2_with fail
  go_ret2
  exact ⟨rfl, G.trans g01 g2⟩

theorem float_c (w : World) (v : Value) (x : Rat) (m : Int) (K : Nat) (hK : K ≤ 15000) (hK1 : 1 ≤ K) (hm : m = 1 ∨ m = 2 ∨ m = 3 ∨ m = 4) (hx : QIs w v x) (h0 : x ≠ 0) (hb : QB x K) :
    Calls Tryz.prog 23 #[v, .int .i64 m] w fun r w' => r = .returned (.tuple #[.float .f64 (FT.wrd (decide (x.num < 0)) (rdV m (decide (x.num < 0)) x.num.natAbs x.den)), .int .i64 0]) ∧ G w w' := by
  have hA : x.num.natAbs ≠ 0 := by
    intro h
    exact h0 (Rat.num_eq_zero.1 (by omega))
  have hB := x.den_nz
  have lA := blen_le' hb.1
  have lB := blen_le' hb.2
  obtain ⟨st, P, h1, h2, h3, h4, h5, h6, -⟩ := cut_c w x.num.natAbs x.den hA hB (by omega) (by omega)
  have hodd : (st % 2 == 1) = (tV x.num.natAbs x.den % 2 == 1) := by
    rw [h5]
    have : ((P + 1074).toNat * 2 ^ 52 + st) % 2 = st % 2 := by omega
    rw [this]
  have HRD : Hid (∀ w1, G w w1 → Calls Tryz.prog 82 #[v, .int .i64 m, .func (.func 83) #[] #[]] w1 fun r w' => r = .returned (.tuple #[.float .f64 (FT.wrd (decide (x.num < 0)) (rdV m (decide (x.num < 0)) x.num.natAbs x.den)), .int .i64 0]) ∧ G w1 w') := fun w1 g => by
    have h := rounded_c w1 v x m 83 _ st P (lV x.num.natAbs x.den) hm (hx.G g) h0 h1 h2 h3 h4 h6 (fun w2 v1 v2 _ k1 k2 => quotient_c w2 v1 v2 _ _ K hK hK1 k1 k2 hb.1 hb.2 hA hB) (fun _ _ => by kernel_rfl) (fun w2 => by
      obtain ⟨st', P', j1, j2, j3, j4, j5, j6, hc⟩ := cut_c w2 x.num.natAbs x.den hA hB (by omega) (by omega)
      have e1 : P' = P ∧ st' = st := by
        rw [h5] at j5
        rcases h4 with h4 | h4 <;> rcases j4 with j4 | j4 <;> (constructor <;> omega)
      obtain ⟨rfl, rfl⟩ := e1
      exact hc)
    rw [hodd, ← h5] at h
    exact h
  unfold rdV at HRD ⊢
  generalize tV x.num.natAbs x.den + (if lV x.num.natAbs x.den ≠ 0 ∧ onw m (decide (x.num < 0)) (tV x.num.natAbs x.den % 2 == 1) (lV x.num.natAbs x.den) = true then 1 else 0) = r at *
  clear h0 hb hA hB lA lB h1 h2 h3 h4 h5 h6 hodd hm
  generalize FT.wrd (decide (x.num < 0)) r = fl at *
  obtain ⟨a, k, c, a', k', c', rfl, -, -⟩ := hx
  generalize decide (x.num < 0) = s at *
  go_enter Tryz.func23, Tryz.ntmps23
  go_wp2_with fail
  have g0 : G w (w.alloc (.cells #[.bool s, .slice a k c, .slice a' k' c'] 28)) := ((G.refl w).alloc _)
  have R0 : Hid (Rec (w.alloc (.cells #[.bool s, .slice a k c, .slice a' k' c'] 28)) (w.heap.size) [.bool s, .slice a k c, .slice a' k' c']) := by
    have h := Rec.new3 w (.bool s) (.slice a k c) (.slice a' k' c') 28
    exact h
  have hz0 : (w.alloc (.cells #[.bool s, .slice a k c, .slice a' k' c'] 28)).heap.size = w.heap.size + 1 := by simp
  generalize (w.alloc (.cells #[.bool s, .slice a k c, .slice a' k' c'] 28)) = w0 at *
  refine Calls.mono (P := Tryz.prog) (HRD.out w0 g0) ?_
  rintro e1 w1 ⟨rfl, g1⟩
  go_wp2_with fail
  go_ret2
  exact ⟨rfl, G.trans g0 g1⟩
theorem float_zero_c (w : World) (v : Value) (m : Int) (hm : m = 1 ∨ m = 2 ∨ m = 3 ∨ m = 4) (hx : QIs w v 0) :
    Calls Tryz.prog 23 #[v, .int .i64 m] w fun r w' => r = .returned (.tuple #[.float .f64 0, .int .i64 0]) ∧ G w w' := by
  have HRD : Hid (∀ w1, G w w1 → _) := fun w1 g => rounded_zero_c w1 v m 83 hm (hx.G g)
  obtain ⟨x, h⟩ : ∃ x : Rat, x = 0 := ⟨_, rfl⟩
  rw [← h] at hx
  clear h hm
  obtain ⟨a, k, c, a', k', c', rfl, -, -⟩ := hx
  generalize decide (x.num < 0) = s at *
  go_enter Tryz.func23, Tryz.ntmps23
  go_wp2_with fail
  have g0 : G w (w.alloc (.cells #[.bool s, .slice a k c, .slice a' k' c'] 28)) := ((G.refl w).alloc _)
  have R0 : Hid (Rec (w.alloc (.cells #[.bool s, .slice a k c, .slice a' k' c'] 28)) (w.heap.size) [.bool s, .slice a k c, .slice a' k' c']) := by
    have h := Rec.new3 w (.bool s) (.slice a k c) (.slice a' k' c') 28
    exact h
  have hz0 : (w.alloc (.cells #[.bool s, .slice a k c, .slice a' k' c'] 28)).heap.size = w.heap.size + 1 := by simp
  generalize (w.alloc (.cells #[.bool s, .slice a k c, .slice a' k' c'] 28)) = w0 at *
  refine Calls.mono (P := Tryz.prog) (HRD.out w0 g0) ?_
  rintro e1 w1 ⟨rfl, g1⟩
  go_wp2_with fail
  go_ret2
  exact ⟨rfl, G.trans g0 g1⟩
end Go.Proofs.YtahfkkkfpcdjaabGreatDoor.EN
namespace Go.Proofs.YtahfkkkfpcdjaabGreatDoor.EN
open Go.ChangeShapes Go.WideShapes Go.ChangeAt Go.RowKit

def fex (b : Nat) : Nat := b / 2 ^ 52 % 2 ^ 11
def fmag (b : Nat) : Nat := if fex b = 0 then b % 2 ^ 52 else 2 ^ 52 + b % 2 ^ 52
/-- What a finite float is. -/
def FQ (b : Nat) : Rat := mkRat (frN (FT.neg b) (fmag b) (fex b)) (frD (fex b))

theorem of_nan_c (w : World) (b : Nat) (h0 : b < 2 ^ 64) (he : fex b = 2047) :
    Calls Tryz.prog 15 #[.float .f64 b] w (RetQE w 0 4) := by
  have HW : Hid (∀ w1, _) := fun w1 => whole_nan_c b (b % 2 ^ 52) w1 h0 he rfl
  clear h0 he
  go_enter Tryz.func15, Tryz.ntmps15
  go_wp2_with fail
  have g0 : G w (w.alloc (.cells #[.bool false, .slice none 0 0, .slice none 0 0] 28)) := ((G.refl w).alloc _)
  have R0 : Hid (Rec (w.alloc (.cells #[.bool false, .slice none 0 0, .slice none 0 0] 28)) (w.heap.size) [.bool false, .slice none 0 0, .slice none 0 0]) := by
    have h := Rec.new3 w (.bool false) (.slice none 0 0) (.slice none 0 0) 28
    exact h
  have hz0 : (w.alloc (.cells #[.bool false, .slice none 0 0, .slice none 0 0] 28)).heap.size = w.heap.size + 1 := by simp
  generalize (w.alloc (.cells #[.bool false, .slice none 0 0, .slice none 0 0] 28)) = w0 at *
  refine Calls.mono (P := Tryz.prog) (HW.out w0) ?_
  rintro e1 w1 ⟨rfl, g1⟩
  have hS := Rec.f3 (Rec.G R0.out ((g1)))
  have hS_0 := hS.1
  have hS_1 := hS.2.1
  have hS_2 := hS.2.2.1
  have hS_3 := hS.2.2.2.1
  have hS_4 := hS.2.2.2.2.1
  have hS_5 := hS.2.2.2.2.2
  clear hS
  go_wp2_with fail
  have hT : Hid (Rec (World.setCell (World.setCell (World.setCell w1 ⟨w.heap.size, 0, none⟩ (.bool false)) ⟨w.heap.size, 1, none⟩ (.slice none 0 0)) ⟨w.heap.size, 2, none⟩ (.slice none 0 0)) (w.heap.size) [.bool false, .slice none 0 0, .slice none 0 0]) := Rec.set3 (Rec.G R0.out (g1))
  have g9 := Rec.g3 (b := w.heap.size) (u := .bool false) (v := .slice none 0 0) (x := .slice none 0 0) (G.trans g0 g1) (by omega)
  generalize (World.setCell (World.setCell (World.setCell w1 ⟨w.heap.size, 0, none⟩ (.bool false)) ⟨w.heap.size, 1, none⟩ (.slice none 0 0)) ⟨w.heap.size, 2, none⟩ (.slice none 0 0)) = w9 at *
  have hF := Rec.f3 (Rec.G hT.out ((G.refl _)))
  have hF_0 := hF.1
  have hF_1 := hF.2.1
  have hF_2 := hF.2.2.1
  have hF_3 := hF.2.2.2.1
  have hF_4 := hF.2.2.2.2.1
  have hF_5 := hF.2.2.2.2.2
  clear hF
  refine bodyPost_ret (v := .tuple #[.agg #[.bool false, .slice none 0 0, .slice none 0 0], .int .i64 4]) (by simp [results, Tryz.results15, go_sem, *]) rfl ?_
  exact ⟨_, rfl, g9, q_zero w9⟩

theorem of_go (w : World) (b : Nat) (m e : Int) (q : Rat) (HW : ∀ w1, G w w1 → Calls Tryz.prog 69 #[.float .f64 b] w1 fun r w' => r = .returned (.tuple #[.int .i64 m, .int .i64 e, .int .i64 0]) ∧ G w1 w')
    (HS : ∀ w1, Calls Tryz.prog 70 #[.int .i64 m, .int .i64 e] w1 (RetQ w1 q)) :
    Calls Tryz.prog 15 #[.float .f64 b] w (RetQE w q 0) := by
  have HW1 : Hid (∀ w1, G w w1 → _) := HW
  have HS1 : Hid (∀ w1, _) := HS
  clear HW HS
  go_enter Tryz.func15, Tryz.ntmps15
  go_wp2_with fail
  have g0 : G w (w.alloc (.cells #[.bool false, .slice none 0 0, .slice none 0 0] 28)) := ((G.refl w).alloc _)
  have R0 : Hid (Rec (w.alloc (.cells #[.bool false, .slice none 0 0, .slice none 0 0] 28)) (w.heap.size) [.bool false, .slice none 0 0, .slice none 0 0]) := by
    have h := Rec.new3 w (.bool false) (.slice none 0 0) (.slice none 0 0) 28
    exact h
  have hz0 : (w.alloc (.cells #[.bool false, .slice none 0 0, .slice none 0 0] 28)).heap.size = w.heap.size + 1 := by simp
  generalize (w.alloc (.cells #[.bool false, .slice none 0 0, .slice none 0 0] 28)) = w0 at *
  refine Calls.mono (P := Tryz.prog) (HW1.out w0 g0) ?_
  rintro e1 w1 ⟨rfl, g1⟩
  go_wp2_with fail
  refine Calls.mono (P := Tryz.prog) (HS1.out w1) ?_
  intro e1 w2 hs
  obtain ⟨v, rfl, g2, hv⟩ := hs
  clear HW1 HS1
  obtain ⟨a8, k8, c8, a9, k9, c9, rfl, hm8, hm9⟩ := hv
  have HN8 : Hid (Num w2 (.slice a8 k8 c8) (q).num.natAbs) := hm8
  have HN9 : Hid (Num w2 (.slice a9 k9 c9) (lowOf (q).den)) := hm9
  obtain ⟨t9, ht9⟩ : ∃ t, t = decide ((q).num < 0) := ⟨_, rfl⟩
  rw [← ht9]
  have HT9 : Hid (t9 = decide ((q).num < 0)) := ht9
  clear hm8 hm9 ht9
  have hS := Rec.f3 (Rec.G R0.out ((G.trans g1 g2)))
  have hS_0 := hS.1
  have hS_1 := hS.2.1
  have hS_2 := hS.2.2.1
  have hS_3 := hS.2.2.2.1
  have hS_4 := hS.2.2.2.2.1
  have hS_5 := hS.2.2.2.2.2
  clear hS
  have HN8' : Num _ _ _ := num_set3 (u1 := .bool t9) (u2 := .slice a8 k8 c8) (u3 := .slice a9 k9 c9) HN8.out (Rec.G R0.out (G.trans g1 g2)) trivial trivial trivial
  have HN9' : Num _ _ _ := num_set3 (u1 := .bool t9) (u2 := .slice a8 k8 c8) (u3 := .slice a9 k9 c9) HN9.out (Rec.G R0.out (G.trans g1 g2)) trivial trivial trivial
  go_wp2_with fail
  have hT : Hid (Rec (World.setCell (World.setCell (World.setCell w2 ⟨w.heap.size, 0, none⟩ (.bool t9)) ⟨w.heap.size, 1, none⟩ (.slice a8 k8 c8)) ⟨w.heap.size, 2, none⟩ (.slice a9 k9 c9)) (w.heap.size) [.bool t9, .slice a8 k8 c8, .slice a9 k9 c9]) := Rec.set3 (Rec.G R0.out (G.trans g1 g2))
  have g9 := Rec.g3 (b := w.heap.size) (u := .bool t9) (v := .slice a8 k8 c8) (x := .slice a9 k9 c9) (G.trans g0 (G.trans g1 g2)) (by omega)
  generalize (World.setCell (World.setCell (World.setCell w2 ⟨w.heap.size, 0, none⟩ (.bool t9)) ⟨w.heap.size, 1, none⟩ (.slice a8 k8 c8)) ⟨w.heap.size, 2, none⟩ (.slice a9 k9 c9)) = w9 at *
  have hF := Rec.f3 (Rec.G hT.out ((G.refl _)))
  have hF_0 := hF.1
  have hF_1 := hF.2.1
  have hF_2 := hF.2.2.1
  have hF_3 := hF.2.2.2.1
  have hF_4 := hF.2.2.2.2.1
  have hF_5 := hF.2.2.2.2.2
  clear hF
  refine bodyPost_ret (v := .tuple #[.agg #[.bool t9, .slice a8 k8 c8, .slice a9 k9 c9], .int .i64 0]) (by simp [results, Tryz.results15, go_sem, *]) rfl ?_
  exact ⟨_, rfl, g9, a8, k8, c8, a9, k9, c9, by rw [← HT9.out], HN8', HN9'⟩

theorem fq_eq {s : Bool} {j k ex mag : Nat} (hm : mag = (2 * j + 1) * 2 ^ k) : mk2 (if s then -(2 * (j : Int) + 1) else 2 * (j : Int) + 1) ((max ex 1 : Nat) - 1075 + k) = mkRat (frN s mag ex) (frD ex) := by
  unfold mk2 frN frD frS
  rw [Rat.mkRat_eq_iff (by have := Nat.two_pow_pos (-(((max ex 1 : Nat) : Int) - 1075 + k)).toNat; omega) (by have := Nat.two_pow_pos (1075 - max ex 1); omega)]
  have e : ∀ X Y : Int, X * ((2 ^ k : Nat) : Int) = Y → X * ((2 ^ (((max ex 1 : Nat) : Int) - 1075 + k).toNat : Nat) : Int) * ((2 ^ (1075 - max ex 1) : Nat) : Int) = Y * 2 ^ (max ex 1 - 1075) * ((2 ^ (-(((max ex 1 : Nat) : Int) - 1075 + k)).toNat : Nat) : Int) := by
    intro X Y h
    rw [← h, Int.mul_assoc, Int.mul_assoc, Int.mul_assoc, FT.ipow, ← Int.natCast_mul, ← Int.natCast_mul, ← Int.natCast_mul, ← Nat.pow_add, ← Nat.pow_add, ← Nat.pow_add]
    congr 3
    omega
  cases s
  · simp only [Bool.false_eq_true, if_false]
    refine e _ _ ?_
    rw [hm]; push_cast; rfl
  · simp only [if_true]
    refine e _ _ ?_
    rw [hm]; push_cast; rw [Int.neg_mul]

theorem of_c (w : World) (b : Nat) (hT : Tab w) (h0 : b < 2 ^ 64) (he : fex b < 2047) :
    Calls Tryz.prog 15 #[.float .f64 b] w (RetQE w (FQ b) 0) := by
  have hex : b / 2 ^ 52 % 2 ^ 11 = fex b := rfl
  have hfr : b % 2 ^ 52 < 2 ^ 52 := Nat.mod_lt _ (by omega)
  have hmb : fmag b < 2 ^ 53 := by unfold fmag; split <;> omega
  by_cases hm : fmag b = 0
  · have h1 : fex b = 0 := by
      unfold fmag at hm
      split at hm
      · assumption
      · omega
    have h2 : b % 2 ^ 52 = 0 := by unfold fmag at hm; rwa [if_pos h1] at hm
    have hq : FQ b = mk2 0 0 := by
      unfold FQ mk2
      rw [hm]
      unfold frN frS
      simp
    rw [hq]
    exact of_go w b 0 0 _ (fun w1 _ => whole_zero_c b w1 h0 (hex.trans h1) h2) (fun w1 => shifted_c w1 0 0 (by omega) (by omega) (by omega) (by omega) (Or.inl rfl))
  · obtain ⟨j, k, hj⟩ := odd_twos (fmag b) (by omega)
    have hj2 : 2 * j + 1 ≤ fmag b := by
      rw [hj]; exact Nat.le_mul_of_pos_right _ (Nat.two_pow_pos k)
    have hk : k < 53 := by
      have : 2 ^ k ≤ fmag b := by rw [hj]; exact Nat.le_mul_of_pos_left _ (by omega)
      exact (Nat.pow_lt_pow_iff_right (by omega : 1 < 2)).1 (Nat.lt_of_le_of_lt this hmb)
    have hq : FQ b = mk2 (if FT.neg b then -(2 * (j : Int) + 1) else 2 * (j : Int) + 1) ((max (fex b) 1 : Nat) - 1075 + k) := (fq_eq hj).symm
    rw [hq]
    refine of_go w b _ _ _ (fun w1 g => whole_c b (fex b) (b % 2 ^ 52) (fmag b) j k w1 (hT.G g) h0 rfl rfl he rfl hj) (fun w1 => shifted_c w1 _ _ ?_ ?_ ?_ ?_ ?_)
    · split <;> omega
    · split <;> omega
    · omega
    · omega
    · right; split <;> omega
end Go.Proofs.YtahfkkkfpcdjaabGreatDoor.EN
namespace Go.Proofs.YtahfkkkfpcdjaabGreatDoor.EN
open Go.ChangeShapes Go.WideShapes Go.ChangeAt Go.RowKit

theorem v_place {p Q : Nat} (h : Q ≤ 2 ^ 53) (h2 : 2 ^ 52 ≤ Q ∨ p = 0) : FT.v (p * 2 ^ 52 + Q) = Q * 2 ^ p := by
  by_cases h3 : Q < 2 ^ 52
  · have hp : p = 0 := by omega
    subst hp
    rw [Nat.zero_mul, Nat.zero_add, FT.v_sub h3, Nat.pow_zero, Nat.mul_one]
  · by_cases h4 : Q < 2 ^ 53
    · rw [show p * 2 ^ 52 + Q = (p + 1) * 2 ^ 52 + (Q - 2 ^ 52) from by omega, FT.v_nor' _ _ (by omega) (by omega), Nat.add_sub_cancel, show 2 ^ 52 + (Q - 2 ^ 52) = Q from by omega]
    · have hQ : Q = 2 ^ 53 := by omega
      subst hQ
      rw [show p * 2 ^ 52 + 2 ^ 53 = (p + 2) * 2 ^ 52 + 0 from by omega, FT.v_nor' _ _ (by omega) (by omega), show p + 2 - 1 = p + 1 from by omega, Nat.pow_succ 2 p, Nat.add_zero, show (2 : Nat) ^ 53 = 2 ^ 52 * 2 from rfl]
      ac_rfl

theorem last_bounds {A B : Nat} (hA : A ≠ 0) (hB : B ≠ 0) {P : Int} (hP : P = lastP A B) :
    upP A P < 2 ^ 53 * loP B P ∧ (P = -1074 ∨ 2 ^ 52 * loP B P ≤ upP A P) := by
  have hP' : P = max (expo A B - 52) (-1074) := hP
  have k1 := expo_lt hA hB ((-P).toNat + (-expo A B).toNat) (by omega)
  have k2 := expo_le hA hB ((-P).toNat + (-expo A B).toNat) (by omega)
  generalize expo A B = x at *
  unfold upP loP
  constructor
  · have h1 : ((((-P).toNat + (-x).toNat : Nat) : Int) + (x + 1)).toNat ≤ P.toNat + 53 + (-x).toNat := by omega
    have h2 := Nat.lt_of_lt_of_le k1 (Nat.mul_le_mul_left B (Nat.pow_le_pow_right (by omega : 0 < 2) h1))
    rw [Nat.pow_add, Nat.pow_add 2 _ (-x).toNat, ← Nat.mul_assoc, ← Nat.mul_assoc] at h2
    have h3 := Nat.lt_of_mul_lt_mul_right h2
    rw [Nat.pow_add] at h3
    calc _ < _ := h3
      _ = _ := by ac_rfl
  · by_cases h0 : P = -1074
    · exact Or.inl h0
    · refine Or.inr ?_
      have h1 : P.toNat + 52 + (-x).toNat ≤ ((((-P).toNat + (-x).toNat : Nat) : Int) + x).toNat := by omega
      have h2 := Nat.le_trans (Nat.mul_le_mul_left B (Nat.pow_le_pow_right (by omega : 0 < 2) h1)) k2
      rw [Nat.pow_add 2 (-P).toNat, Nat.pow_add 2 _ (-x).toNat, ← Nat.mul_assoc, ← Nat.mul_assoc] at h2
      have h3 := Nat.le_of_mul_le_mul_right h2 (Nat.two_pow_pos _)
      rw [Nat.pow_add] at h3
      calc _ = _ := by ac_rfl
        _ ≤ _ := h3

theorem left_zero {R D : Nat} (h : leftN R D = 0) : R = 0 := by
  unfold leftN at h
  split at h
  · assumption
  · split at h
    · omega
    · split at h <;> omega

/-- Where a ratio lies among the floats. -/
theorem tV_facts {A B : Nat} (hA : A ≠ 0) (hB : B ≠ 0) :
    tV A B < 2047 * 2 ^ 52 ∧ FT.v (tV A B) * B ≤ A * 2 ^ 1074 ∧ (lV A B = 0 → FT.v (tV A B) * B = A * 2 ^ 1074) ∧ (tV A B + 1 < 2047 * 2 ^ 52 → A * 2 ^ 1074 ≤ FT.v (tV A B + 1) * B) := by
  obtain ⟨P, hP⟩ : ∃ P, P = lastP A B := ⟨_, rfl⟩
  have hlo : -1074 ≤ P := by rw [hP]; unfold lastP; omega
  unfold tV lV
  rw [← hP]
  by_cases hbig : 971 < P
  · rw [if_pos hbig, if_pos hbig]
    refine ⟨by omega, ?_, fun h => by omega, fun h => by omega⟩
    have k2 := expo_le hA hB 1074 (by have : P = max (expo A B - 52) (-1074) := hP; omega)
    obtain ⟨n, hn⟩ : ∃ n : Nat, n = 2045 := ⟨_, rfl⟩
    have hx : 53 + n ≤ (((1074 : Nat) : Int) + expo A B).toNat := by have : P = max (expo A B - 52) (-1074) := hP; omega
    have h1 : FT.v (2047 * 2 ^ 52 - 1) ≤ 2 ^ (((1074 : Nat) : Int) + expo A B).toNat := by
      rw [show 2047 * 2 ^ 52 - 1 = 2046 * 2 ^ 52 + (2 ^ 52 - 1) from rfl, FT.v_nor' _ _ (by omega) (by omega)]
      refine Nat.le_trans ?_ (Nat.pow_le_pow_right (by omega : 0 < 2) hx)
      rw [show 2046 - 1 = n from by omega, Nat.pow_add]
      exact Nat.mul_le_mul_right _ (by omega)
    refine Nat.le_trans (Nat.mul_le_mul_right B h1) ?_
    rw [Nat.mul_comm]
    exact k2
  · rw [if_neg hbig, if_neg hbig]
    obtain ⟨b1, b2⟩ := last_bounds hA hB hP
    have hD : 0 < loP B P := Nat.mul_pos (Nat.pos_of_ne_zero hB) (Nat.two_pow_pos _)
    have hQ1 : upP A P / loP B P < 2 ^ 53 := (Nat.div_lt_iff_lt_mul hD).2 b1
    have hQ2 : 2 ^ 52 ≤ upP A P / loP B P ∨ (P + 1074).toNat = 0 := by
      rcases b2 with h | h
      · exact Or.inr (by omega)
      · exact Or.inl ((Nat.le_div_iff_mul_le hD).2 h)
    have hm := Nat.div_add_mod (upP A P) (loP B P)
    have hl := Nat.mod_lt (upP A P) hD
    have hv : FT.v ((P + 1074).toNat * 2 ^ 52 + upP A P / loP B P) = upP A P / loP B P * 2 ^ (P + 1074).toNat := v_place (Nat.le_of_lt hQ1) hQ2
    have hv1 : FT.v ((P + 1074).toNat * 2 ^ 52 + upP A P / loP B P + 1) = (upP A P / loP B P + 1) * 2 ^ (P + 1074).toNat := by
      rw [Nat.add_assoc]
      exact v_place hQ1 (by omega)
    rw [hv, hv1]
    have scale : ∀ X : Nat, X * 2 ^ (P + 1074).toNat * B = X * loP B P * 2 ^ (1074 - (-P).toNat) := fun X => by
      unfold loP
      rw [show (P + 1074).toNat = P.toNat + (1074 - (-P).toNat) from by omega, Nat.pow_add]
      ac_rfl
    have hup : A * 2 ^ 1074 = upP A P * 2 ^ (1074 - (-P).toNat) := by
      unfold upP
      rw [Nat.mul_assoc, ← Nat.pow_add, show (-P).toNat + (1074 - (-P).toNat) = 1074 from by omega]
    rw [scale, scale, hup]
    generalize 2 ^ (1074 - (-P).toNat) = S
    have e1 : upP A P / loP B P * loP B P = loP B P * (upP A P / loP B P) := Nat.mul_comm _ _
    refine ⟨?_, Nat.mul_le_mul_right _ (by omega), fun h => ?_, fun _ => Nat.mul_le_mul_right _ (by rw [Nat.add_mul, Nat.one_mul]; omega)⟩
    · have h3 : (P + 1074).toNat ≤ 2045 := by omega
      generalize upP A P / loP B P = Q at *
      generalize (P + 1074).toNat = p at *
      omega
    · have h0 := left_zero h
      rw [h0] at hm
      have h4 : upP A P / loP B P * loP B P = upP A P := by omega
      rw [h4]

/-- A finite float as a ratio. -/
theorem fq_v (s : Bool) {V : Nat} (h : V < 2047 * 2 ^ 52) : FQ (FT.wrd s V) = mkRat (if s then -(FT.v V : Int) else FT.v V) (2 ^ 1074) ∧ fex (FT.wrd s V) < 2047 := by
  have e1 : fex (FT.wrd s V) = V / 2 ^ 52 := by
    unfold fex FT.wrd
    cases s <;> simp only [if_true, Bool.false_eq_true, if_false] <;> omega
  have e2 : FT.wrd s V % 2 ^ 52 = V % 2 ^ 52 := by
    unfold FT.wrd
    cases s <;> simp only [if_true, Bool.false_eq_true, if_false] <;> omega
  have e3 : FT.neg (FT.wrd s V) = s := by
    unfold FT.neg FT.wrd
    cases s
    · simp only [Bool.false_eq_true, if_false, beq_eq_false_iff_ne, ne_eq]; omega
    · simp only [if_true, beq_iff_eq]; omega
  refine ⟨?_, by rw [e1]; omega⟩
  have hm : fmag (FT.wrd s V) * 2 ^ (max (V / 2 ^ 52) 1 - 1) = FT.v V := by
    unfold fmag
    rw [e1, e2]
    by_cases h1 : V < 2 ^ 52
    · rw [FT.v_sub h1, if_pos (by omega), show max (V / 2 ^ 52) 1 - 1 = 0 from by omega, Nat.pow_zero, Nat.mul_one]
      omega
    · rw [FT.v_nor h1, if_neg (by omega), show max (V / 2 ^ 52) 1 = V / 2 ^ 52 from by omega]
  unfold FQ
  rw [e1, e3]
  rw [← hm]
  clear hm e1 e2 e3
  obtain ⟨E, hE⟩ : ∃ E : Nat, E = 1074 := ⟨_, rfl⟩
  rw [← hE]
  generalize fmag (FT.wrd s V) = m
  generalize V / 2 ^ 52 = x
  unfold frN frD frS
  rw [Rat.mkRat_eq_iff (by have := Nat.two_pow_pos (1075 - max x 1); omega) (by have := Nat.two_pow_pos E; omega)]
  have k : ∀ z : Int, z * 2 ^ (max x 1 - 1075) * ((2 ^ E : Nat) : Int) = z * ((2 ^ (max x 1 - 1) : Nat) : Int) * ((2 ^ (1075 - max x 1) : Nat) : Int) := fun z => by
    rw [Int.mul_assoc, Int.mul_assoc]
    refine congrArg (z * ·) ?_
    rw [FT.ipow, ← Int.natCast_mul, ← Int.natCast_mul, ← Nat.pow_add, ← Nat.pow_add, show max x 1 - 1075 + E = max x 1 - 1 + (1075 - max x 1) from by omega]
  cases s
  · simp only [Bool.false_eq_true, if_false]
    rw [Int.natCast_mul]
    exact k (m : Int)
  · simp only [if_true]
    rw [Int.natCast_mul, ← Int.neg_mul]
    exact k (-(m : Int))

theorem cmp_le {x q : Rat} {z : Int} {D : Nat} (hD : 0 < D) (h : x = mkRat z D) (hz : z * q.den ≤ q.num * D) : (x.num * q.den - q.num * x.den).sign ≤ 0 := by
  have h1 := mk_cross hD h
  have h2 : (x.num * q.den - q.num * x.den) * (D : Int) ≤ 0 := by
    have h3 : (x.num * q.den - q.num * x.den) * (D : Int) = x.den * (z * q.den - q.num * D) := by
      rw [Int.sub_mul, Int.mul_sub, show x.num * (q.den : Int) * D = x.num * D * q.den from by ac_rfl, ← h1]
      congr 1 <;> ac_rfl
    rw [h3]
    exact Int.mul_nonpos_of_nonneg_of_nonpos (by omega) (by omega)
  have h5 : ¬ 0 < x.num * q.den - q.num * x.den := fun h6 => by
    have := Int.mul_pos h6 (show (0 : Int) < D by omega)
    omega
  rcases Int.lt_trichotomy (x.num * q.den - q.num * x.den) 0 with h6 | h6 | h6
  · rw [Int.sign_eq_neg_one_of_neg h6]; omega
  · rw [h6]; decide
  · exact absurd h6 h5
theorem cmp_ge {x q : Rat} {z : Int} {D : Nat} (hD : 0 < D) (h : x = mkRat z D) (hz : q.num * D ≤ z * q.den) : 0 ≤ (x.num * q.den - q.num * x.den).sign := by
  have h1 := mk_cross hD h
  have h2 : 0 ≤ (x.num * q.den - q.num * x.den) * (D : Int) := by
    have h3 : (x.num * q.den - q.num * x.den) * (D : Int) = x.den * (z * q.den - q.num * D) := by
      rw [Int.sub_mul, Int.mul_sub, show x.num * (q.den : Int) * D = x.num * D * q.den from by ac_rfl, ← h1]
      congr 1 <;> ac_rfl
    rw [h3]
    exact Int.mul_nonneg (by omega) (by omega)
  have h5 : ¬ x.num * q.den - q.num * x.den < 0 := fun h6 => by
    have := Int.mul_neg_of_neg_of_pos h6 (show (0 : Int) < D by omega)
    omega
  rcases Int.lt_trichotomy (x.num * q.den - q.num * x.den) 0 with h6 | h6 | h6
  · exact absurd h6 h5
  · rw [h6]; decide
  · rw [Int.sign_eq_one_of_pos h6]; omega
end Go.Proofs.YtahfkkkfpcdjaabGreatDoor.EN
namespace Go.Proofs.YtahfkkkfpcdjaabGreatDoor.EN
open Go.ChangeShapes Go.WideShapes Go.ChangeAt Go.RowKit

theorem wrd_nan (s : Bool) {V : Nat} (h : V ≤ 2047 * 2 ^ 52) : FT.nan (FT.wrd s V) = false := by
  unfold FT.nan
  rw [FT.wrd_rung s V (by omega)]
  exact decide_eq_false (by unfold FT.infR; omega)
theorem ord_wrd (s : Bool) {V W : Nat} (hV : V ≤ 2047 * 2 ^ 52) (hW : W ≤ 2047 * 2 ^ 52) : (FloatKind.f64.format.order (FT.wrd s V) (FT.wrd s W) == some .eq) = decide (V = W) := by
  rw [FT.ord_f, wrd_nan s hV, wrd_nan s hW]
  unfold FT.key
  rw [FT.wrd_neg s V (by omega), FT.wrd_neg s W (by omega), FT.wrd_rung s V (by omega), FT.wrd_rung s W (by omega)]
  simp only [Bool.or_self, Bool.false_eq_true, if_false]
  by_cases h : V = W
  · subst h
    rw [decide_eq_true rfl]
    simp
  · rw [decide_eq_false h]
    have : ∀ x y : Int, x ≠ y → (some (compare x y) == some Ordering.eq) = false := by
      intro x y hxy
      rcases Int.lt_trichotomy x y with h1 | h1 | h1
      · rw [Int.compare_eq_lt.2 h1]; rfl
      · exact absurd h1 hxy
      · rw [Int.compare_eq_gt.2 h1]; rfl
    cases s
    · exact this _ _ (by simp; omega)
    · exact this _ _ (by simp; omega)

/-- The place of a number's float that is rounded so. -/
theorem rd_le (m : Int) (s : Bool) {A B : Nat} (hA : A ≠ 0) (hB : B ≠ 0) : rdV m s A B ≤ 2047 * 2 ^ 52 := by
  have := (tV_facts hA hB).1
  unfold rdV
  split <;> omega
theorem rd_case (m : Int) (s : Bool) (A B : Nat) : rdV m s A B = tV A B ∨ (rdV m s A B = tV A B + 1 ∧ lV A B ≠ 0) := by
  unfold rdV
  split
  · rename_i h; exact Or.inr ⟨rfl, h.1⟩
  · exact Or.inl rfl
theorem rd_down (s : Bool) (A B : Nat) : rdV 2 s A B = if lV A B ≠ 0 ∧ s = true then tV A B + 1 else tV A B := by
  unfold rdV onw
  simp only [show ((2 : Int) = 1) = False from by simp, if_false, if_true]
  split <;> rfl
theorem rd_up (s : Bool) (A B : Nat) : rdV 3 s A B = if lV A B ≠ 0 ∧ s = false then tV A B + 1 else tV A B := by
  unfold rdV onw
  simp only [show ((3 : Int) = 1) = False from by simp, show ((3 : Int) = 2) = False from by simp, if_false, if_true, Bool.not_eq_true']
  split <;> rfl
theorem rd_in (s : Bool) (A B : Nat) : rdV 4 s A B = tV A B := by
  unfold rdV onw
  simp only [show ((4 : Int) = 1) = False from by simp, show ((4 : Int) = 2) = False from by simp, show ((4 : Int) = 3) = False from by simp, if_false, Bool.false_eq_true, and_false, Nat.add_zero]
theorem near_is (s : Bool) (A B : Nat) : rdV 1 s A B = rdV 2 s A B ∨ rdV 1 s A B = rdV 3 s A B := by
  rw [rd_down, rd_up]
  rcases rd_case 1 s A B with h | ⟨h, hl⟩ <;> rw [h]
  · cases s
    · exact Or.inl (by simp)
    · exact Or.inr (by simp)
  · cases s
    · exact Or.inr (by simp [hl])
    · exact Or.inl (by simp [hl])
theorem in_is (s : Bool) (A B : Nat) : rdV 4 s A B = min (rdV 2 s A B) (rdV 3 s A B) := by
  rw [rd_down, rd_up, rd_in]
  cases s <;> simp <;> split <;> omega
/-- No float lies between. -/
theorem next_is (s : Bool) {A B : Nat} (hA : A ≠ 0) (hB : B ≠ 0) (h : rdV 2 s A B ≠ rdV 3 s A B) : upV (FT.wrd s (rdV 2 s A B)) = FT.wrd s (rdV 3 s A B) := by
  have ht := (tV_facts hA hB).1
  rw [rd_down, rd_up] at h
  rw [rd_down, rd_up]
  have hl : lV A B ≠ 0 := by
    intro h0
    simp [h0] at h
  clear h
  cases s
  · simp only [hl, ne_eq, not_false_iff, Bool.false_eq_true, and_false, if_false, and_true, if_true]
    unfold upV
    rw [wrd_nan false (by omega), FT.wrd_rung false _ (by omega), FT.wrd_neg false _ (by omega)]
    unfold FT.wrd FT.infR
    simp only [Bool.false_eq_true, if_false]
    rw [if_neg (by omega)]
    split <;> omega
  · simp only [hl, ne_eq, not_false_iff, Bool.true_eq_false, and_false, if_false, and_true, if_true]
    unfold upV
    rw [wrd_nan true (by omega), FT.wrd_rung true _ (by omega), FT.wrd_neg true _ (by omega)]
    unfold FT.wrd FT.infR
    simp only [if_true, Bool.false_eq_true, if_false]
    rw [if_neg (by omega), if_neg (by omega)]
    omega

theorem down_is {q : Rat} (h0 : q ≠ 0) (h : rdV 2 (decide (q.num < 0)) q.num.natAbs q.den < 2047 * 2 ^ 52) :
    ((FQ (FT.wrd (decide (q.num < 0)) (rdV 2 (decide (q.num < 0)) q.num.natAbs q.den))).num * q.den - q.num * (FQ (FT.wrd (decide (q.num < 0)) (rdV 2 (decide (q.num < 0)) q.num.natAbs q.den))).den).sign ≤ 0 := by
  have hA : q.num.natAbs ≠ 0 := fun h1 => h0 (Rat.num_eq_zero.1 (by omega))
  obtain ⟨t1, t2, t3, t4⟩ := tV_facts hA q.den_nz
  obtain ⟨n, hn⟩ : ∃ n : Nat, n = 1074 := ⟨_, rfl⟩
  obtain ⟨E, hE⟩ : ∃ E : Nat, E = 2 ^ n := ⟨_, rfl⟩
  have hE0 : 0 < E := by rw [hE]; exact Nat.two_pow_pos _
  have hf := (fq_v (decide (q.num < 0)) h).1
  rw [← hn, ← hE] at hf t2 t3 t4
  refine cmp_le hE0 hf ?_
  clear hf hE hn
  rw [rd_down] at h ⊢
  by_cases hs : q.num < 0
  · rw [decide_eq_true hs] at h ⊢
    rw [if_pos rfl]
    have k : ∀ V : Nat, q.num.natAbs * E ≤ V * q.den → -(V : Int) * q.den ≤ q.num * E := fun V hV => by
      have h1 : ((q.num.natAbs * E : Nat) : Int) ≤ ((V * q.den : Nat) : Int) := by omega
      rw [Int.natCast_mul, Int.natCast_mul, show ((q.num.natAbs : Nat) : Int) = -q.num from by omega, Int.neg_mul] at h1
      rw [Int.neg_mul]
      omega
    refine k _ ?_
    split at h
    · rename_i hl
      rw [if_pos hl]
      exact t4 h
    · rename_i hl
      rw [if_neg hl]
      have hl0 : lV q.num.natAbs q.den = 0 := by
        by_cases hz : lV q.num.natAbs q.den = 0
        · exact hz
        · exact absurd ⟨hz, rfl⟩ hl
      exact Nat.le_of_eq (t3 hl0).symm
  · rw [decide_eq_false hs]
    simp only [Bool.false_eq_true, and_false, if_false]
    have h1 : ((FT.v (tV q.num.natAbs q.den) * q.den : Nat) : Int) ≤ ((q.num.natAbs * E : Nat) : Int) := by omega
    rw [Int.natCast_mul, Int.natCast_mul, show ((q.num.natAbs : Nat) : Int) = q.num from by omega] at h1
    exact h1
theorem up_is {q : Rat} (h0 : q ≠ 0) (h : rdV 3 (decide (q.num < 0)) q.num.natAbs q.den < 2047 * 2 ^ 52) :
    0 ≤ ((FQ (FT.wrd (decide (q.num < 0)) (rdV 3 (decide (q.num < 0)) q.num.natAbs q.den))).num * q.den - q.num * (FQ (FT.wrd (decide (q.num < 0)) (rdV 3 (decide (q.num < 0)) q.num.natAbs q.den))).den).sign := by
  have hA : q.num.natAbs ≠ 0 := fun h1 => h0 (Rat.num_eq_zero.1 (by omega))
  obtain ⟨t1, t2, t3, t4⟩ := tV_facts hA q.den_nz
  obtain ⟨n, hn⟩ : ∃ n : Nat, n = 1074 := ⟨_, rfl⟩
  obtain ⟨E, hE⟩ : ∃ E : Nat, E = 2 ^ n := ⟨_, rfl⟩
  have hE0 : 0 < E := by rw [hE]; exact Nat.two_pow_pos _
  have hf := (fq_v (decide (q.num < 0)) h).1
  rw [← hn, ← hE] at hf t2 t3 t4
  refine cmp_ge hE0 hf ?_
  clear hf hE hn
  rw [rd_up] at h ⊢
  by_cases hs : q.num < 0
  · rw [decide_eq_true hs]
    simp only [Bool.true_eq_false, and_false, if_false, if_true]
    have h1 : ((FT.v (tV q.num.natAbs q.den) * q.den : Nat) : Int) ≤ ((q.num.natAbs * E : Nat) : Int) := by omega
    rw [Int.natCast_mul, Int.natCast_mul, show ((q.num.natAbs : Nat) : Int) = -q.num from by omega, Int.neg_mul] at h1
    rw [Int.neg_mul]
    omega
  · rw [decide_eq_false hs] at h ⊢
    rw [if_neg (show ¬ (false = true) from by simp)]
    have k : ∀ V : Nat, q.num.natAbs * E ≤ V * q.den → q.num * E ≤ (V : Int) * q.den := fun V hV => by
      have h1 : ((q.num.natAbs * E : Nat) : Int) ≤ ((V * q.den : Nat) : Int) := by omega
      rw [Int.natCast_mul, Int.natCast_mul, show ((q.num.natAbs : Nat) : Int) = q.num from by omega] at h1
      exact h1
    refine k _ ?_
    split at h
    · rename_i hl
      rw [if_pos hl]
      exact t4 h
    · rename_i hl
      rw [if_neg hl]
      have hl0 : lV q.num.natAbs q.den = 0 := by
        by_cases hz : lV q.num.natAbs q.den = 0
        · exact hz
        · exact absurd ⟨hz, rfl⟩ hl
      exact Nat.le_of_eq (t3 hl0).symm
end Go.Proofs.YtahfkkkfpcdjaabGreatDoor.EN
