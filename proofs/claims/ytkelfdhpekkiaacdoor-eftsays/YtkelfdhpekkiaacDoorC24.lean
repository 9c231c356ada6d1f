/- What is proved here: contracts of the reference: ratios of floats in units of the lowest place, over this seat's translation.
What is proved here: the reference's fused product, over this seat's translation.
What is proved here: the reference's fused product for all words, and float operations that have no answer, over this seat's translation.
What is proved here: contracts of package eft: finite, holds, over this seat's translation.
What is proved here: contracts of package eft: holds, over this seat's translation.
What is proved here: contracts of package eft: Sum, over this seat's translation.
What is proved here: contracts of package eft: Prod, Quo, Root, over this seat's translation.
What is proved here: the closed fact of the laws of package eft, over this seat's translation.
What is proved here: contracts of package math's Sqrt and of package eft's Root, over this seat's translation.
What is proved here: the reference's Lost, over this seat's translation.
What is proved here: the reference's Lost, its walk, over this seat's translation.
What is proved here: the law's comparison 'held', over this seat's translation.
What is proved here: new Rats (of the reference) in a region that draws its order, over this seat's translation. -/
import Derived.Test.YtkelfdhpekkiaacDoorC22
import Derived.Test.YtkelfdhpekkiaacDoorC22
import Derived.Test.YtkelfdhpekkiaacDoorC21
import Derived.Test.YtkelfdhpekkiaacDoorC23
import Derived.Test.YtkelfdhpekkiaacDoorC16
import Derived.Test.YtkelfdhpekkiaacDoorC22
import Derived.Test.YtkelfdhpekkiaacDoorC11
namespace Go.Proofs.YtkelfdhpekkiaacDoor
open Go.ChangeShapes Go.WideShapes Go.ChangeAt Go.RowKit
open BN
open EA (Z)

theorem low2 {N : Int} {D g : Nat} (hD : 0 < D) (hg : g = Nat.gcd N.natAbs D) :
    Int.tdiv N g * (D : Int) = N * ((D / g : Nat) : Int) ∧ 0 < D / g ∧ (Int.tdiv N g).natAbs ≤ N.natAbs ∧ D / g ≤ D := by
  have hg0 : 0 < g := by rw [hg]; exact Nat.gcd_pos_of_pos_right _ hD
  obtain ⟨a, ha⟩ : (g : Int) ∣ N := Int.ofNat_dvd_left.2 (by rw [hg]; exact Nat.gcd_dvd_left _ _)
  obtain ⟨d, hd⟩ : g ∣ D := by rw [hg]; exact Nat.gcd_dvd_right _ _
  have h1 : Int.tdiv N g = a := by rw [ha]; exact Int.mul_tdiv_cancel_left _ (by omega)
  have h2 : D / g = d := by rw [hd, Nat.mul_div_cancel_left _ hg0]
  have hd0 : d ≠ 0 := by intro h; rw [h, Nat.mul_zero] at hd; omega
  refine ⟨?_, by omega, ?_, Nat.div_le_self _ _⟩
  · rw [h1, h2, hd, ha]; push_cast; ac_rfl
  · rw [h1, ha, Int.natAbs_mul, Int.natAbs_natCast]; exact Nat.le_mul_of_pos_left _ hg0

/-- A ratio that is z in units of 1 / 2^u. -/
structure Un (u : Nat) (A : Int) (B : Nat) (z : Int) : Prop where
  pos : 0 < B
  eq : A * ((2 ^ u : Nat) : Int) = z * (B : Int)

/-- The reference's ratio of a finite float. -/
theorem ratZ (b u K : Nat) (h0 : b < 2 ^ 64) (hf : FT.rung b < FT.infR) (hu : u = 1074) (hK : K = 40) :
    ∃ A B, (∀ w, Calls Tryd.prog 11 #[.float .f64 b] w (RetR w A B)) ∧ Un u A B (Z b) ∧ A.natAbs < 2 ^ (32 * K) ∧ B < 2 ^ (32 * K) := by
  obtain ⟨mag, ex, h⟩ := Fin64.of h0 hf
  have hZ := EA.fin_Z h u hu
  obtain ⟨q1, q2, q3⟩ := fr_bd (FT.neg b) mag ex K h.mag_lt h.exl hK
  obtain ⟨f1, f2, f3, f4⟩ := low2 (N := frN (FT.neg b) mag ex) q3 rfl
  refine ⟨_, _, fun w => ratF_c w b ex (b % 2 ^ 52) mag h0 h.exf rfl h.exl h.magf, ⟨f2, ?_⟩, by omega, by omega⟩
  have hD : ((frD ex : Nat) : Int) ≠ 0 := by omega
  refine Int.eq_of_mul_eq_mul_right hD ?_
  generalize Int.tdiv (frN (FT.neg b) mag ex) (Nat.gcd (frN (FT.neg b) mag ex).natAbs (frD ex) : Nat) = A at *
  generalize frD ex / Nat.gcd (frN (FT.neg b) mag ex).natAbs (frD ex) = B at *
  generalize frN (FT.neg b) mag ex = N at *
  generalize ((2 ^ u : Nat) : Int) = U at *
  rw [show A * U * (frD ex : Int) = (A * (frD ex : Int)) * U from by ac_rfl, f1, show N * (B : Int) * U = (N * U) * B from by ac_rfl, hZ]
  ac_rfl

/-- Products and sums of ratios in lowest terms. -/
theorem Un.mul {u A B A2 B2 : _} {x y : Int} (h1 : Un u A B x) (h2 : Un u A2 B2 y) :
    0 < B * B2 / Nat.gcd (A * A2).natAbs (B * B2) ∧ (Int.tdiv (A * A2) (Nat.gcd (A * A2).natAbs (B * B2) : Nat)) * (((2 ^ u : Nat) : Int) * ((2 ^ u : Nat) : Int)) = x * y * ((B * B2 / Nat.gcd (A * A2).natAbs (B * B2) : Nat) : Int) := by
  have hB : 0 < B * B2 := Nat.mul_pos h1.pos h2.pos
  obtain ⟨f1, f2, -, -⟩ := low2 (N := A * A2) hB rfl
  refine ⟨f2, ?_⟩
  have e1 := h1.eq
  have e2 := h2.eq
  have hBi : ((B * B2 : Nat) : Int) ≠ 0 := by omega
  refine Int.eq_of_mul_eq_mul_right hBi ?_
  generalize Int.tdiv (A * A2) (Nat.gcd (A * A2).natAbs (B * B2) : Nat) = P at *
  generalize B * B2 / Nat.gcd (A * A2).natAbs (B * B2) = Q at *
  generalize ((2 ^ u : Nat) : Int) = U at *
  rw [show P * (U * U) * ((B * B2 : Nat) : Int) = (P * ((B * B2 : Nat) : Int)) * (U * U) from by ac_rfl, f1, show A * A2 * (Q : Int) * (U * U) = (A * U) * (A2 * U) * Q from by ac_rfl, e1, e2]
  push_cast
  ac_rfl
theorem low_sum {P A2 : Int} {Q B2 : Nat} {s t V : Int} (hQ : 0 < Q) (hB2 : 0 < B2) (hs : P * V = s * (Q : Int)) (ht : A2 * V = t * (B2 : Int)) :
    0 < Q * B2 / Nat.gcd (P * (B2 : Int) + A2 * (Q : Int)).natAbs (Q * B2) ∧
    (Int.tdiv (P * (B2 : Int) + A2 * (Q : Int)) (Nat.gcd (P * (B2 : Int) + A2 * (Q : Int)).natAbs (Q * B2) : Nat)) * V = (s + t) * ((Q * B2 / Nat.gcd (P * (B2 : Int) + A2 * (Q : Int)).natAbs (Q * B2) : Nat) : Int) := by
  have hB : 0 < Q * B2 := Nat.mul_pos hQ hB2
  obtain ⟨f1, f2, -, -⟩ := low2 (N := P * (B2 : Int) + A2 * (Q : Int)) hB rfl
  refine ⟨f2, ?_⟩
  have hBi : ((Q * B2 : Nat) : Int) ≠ 0 := by omega
  refine Int.eq_of_mul_eq_mul_right hBi ?_
  generalize Int.tdiv (P * (B2 : Int) + A2 * (Q : Int)) (Nat.gcd (P * (B2 : Int) + A2 * (Q : Int)).natAbs (Q * B2) : Nat) = R at *
  generalize Q * B2 / Nat.gcd (P * (B2 : Int) + A2 * (Q : Int)).natAbs (Q * B2) = T at *
  rw [show R * V * ((Q * B2 : Nat) : Int) = (R * ((Q * B2 : Nat) : Int)) * V from by ac_rfl, f1, show (P * (B2 : Int) + A2 * (Q : Int)) * (T : Int) * V = ((P * V) * B2 + (A2 * V) * Q) * T from by simp only [Int.add_mul]; congr 1 <;> ac_rfl, hs, ht]
  push_cast
  simp only [Int.add_mul]
  congr 1 <;> ac_rfl

/-- IEEE's fused product in units. -/
theorem fma_U {x y z u : Nat} (hx : x < 2 ^ 64) (hy : y < 2 ^ 64) (hz : z < 2 ^ 64) (fx : FT.rung x < FT.infR) (fy : FT.rung y < FT.infR) (fz : FT.rung z < FT.infR) (hu : u = 1074) {A : Int} {B : Nat} (hB : 0 < B)
    (h : A * (((2 ^ u : Nat) : Int) * ((2 ^ u : Nat) : Int)) = (Z x * Z y + Z z * ((2 ^ u : Nat) : Int)) * (B : Int)) :
    Ieee.double.fma x y z = some (if A = 0 then FT.wrd ((FT.neg x ^^ FT.neg y) && FT.neg z) 0 else FT.wrd (decide (A < 0)) (flV A.natAbs B)) := by
  obtain ⟨m, e, hfx⟩ := Fin64.of hx fx
  obtain ⟨n, f, hfy⟩ := Fin64.of hy fy
  obtain ⟨l, g, hfz⟩ := Fin64.of hz fz
  have h1 := EA.fin_Z hfx u hu
  have h2 := EA.fin_Z hfy u hu
  have h3 := EA.fin_Z hfz u hu
  have hU : ((2 ^ u : Nat) : Int) ≠ 0 := by have := Nat.two_pow_pos u; omega
  refine fma_fl hfx hfy hfz (by omega) ?_
  refine Int.eq_of_mul_eq_mul_right (Int.mul_ne_zero hU hU) ?_
  generalize ((2 ^ u : Nat) : Int) = U at *
  generalize frN (FT.neg x) m e = X at *
  generalize frN (FT.neg y) n f = Y at *
  generalize frN (FT.neg z) l g = W at *
  generalize ((frD e : Nat) : Int) = E at *
  generalize ((frD f : Nat) : Int) = F at *
  generalize ((frD g : Nat) : Int) = D at *
  rw [show A * (E * F * D) * (U * U) = (A * (U * U)) * (E * F * D) from by ac_rfl, h,
    show (X * Y * D + W * (E * F)) * (B : Int) * (U * U) = ((X * U) * (Y * U) * D + (W * U) * U * (E * F)) * B from by simp only [Int.add_mul]; congr 1 <;> ac_rfl, h1, h2, h3]
  simp only [Int.add_mul]
  congr 1 <;> ac_rfl
end Go.Proofs.YtkelfdhpekkiaacDoor
namespace Go.Proofs.YtkelfdhpekkiaacDoor
open Go.ChangeShapes Go.WideShapes Go.ChangeAt Go.RowKit
open BN
open EA (Z)

/-- The reference's fused product is IEEE's; where that has no answer, it is no number. -/
def RetFma (a b c : Nat) (w : World) (e : Ending) (w' : World) : Prop := ∃ r, e = .returned (.float .f64 r) ∧ G w w' ∧ (∀ q, Ieee.double.fma a b c = some q → r = q) ∧ (Ieee.double.fma a b c = none → FT.nan r = true)

theorem fused_nan (w : World) (a b c : Nat) (h : FT.nan a = true ∨ FT.nan b = true ∨ FT.nan c = true) :
    Calls Tryd.prog 23 #[.float .f64 a, .float .f64 b, .float .f64 c] w fun e w' => e = .returned (.float .f64 FT.qnan) ∧ G w w' := by
  have n1 := FT.neq_self a
  have n2 := FT.neq_self b
  have n3 := FT.neq_self c
  have HN : Hid _ := nan_c w
  generalize FT.nan a = na at *
  generalize FT.nan b = nb at *
  generalize FT.nan c = nc at *
  cases na
  · cases nb
    · obtain rfl : nc = true := by simpa using h
      clear h
      go_enter Tryd.func23, Tryd.ntmps23
      go_wp2_with fail
      refine Calls.mono (P := Tryd.prog) HN.out ?_
      rintro e w1 ⟨rfl, g1⟩
      go_wp2_with fail
      go_ret
      exact ⟨rfl, g1⟩
    · clear h
      go_enter Tryd.func23, Tryd.ntmps23
      go_wp2_with fail
      refine Calls.mono (P := Tryd.prog) HN.out ?_
      rintro e w1 ⟨rfl, g1⟩
      go_wp2_with fail
      go_ret
      exact ⟨rfl, g1⟩
  · clear h
    go_enter Tryd.func23, Tryd.ntmps23
    go_wp2_with fail
    refine Calls.mono (P := Tryd.prog) HN.out ?_
    rintro e w1 ⟨rfl, g1⟩
    go_wp2_with fail
    go_ret
    exact ⟨rfl, g1⟩

theorem zero_sign {a b c : Nat} {U : Int} (hU : 0 < U) (h : Z a * Z b + Z c * U = 0) (ha : FT.rung a ≠ 0) (hb : FT.rung b ≠ 0) : ((FT.neg a ^^ FT.neg b) && FT.neg c) = false := by
  have ha0 : Z a ≠ 0 := fun e => ha (EA.Z_zero.1 e)
  have hb0 : Z b ≠ 0 := fun e => hb (EA.Z_zero.1 e)
  have hxs : (FT.neg a = true ∧ Z a ≤ 0) ∨ (FT.neg a = false ∧ 0 ≤ Z a) := by unfold Z; cases FT.neg a <;> simp
  have hys : (FT.neg b = true ∧ Z b ≤ 0) ∨ (FT.neg b = false ∧ 0 ≤ Z b) := by unfold Z; cases FT.neg b <;> simp
  have hcs : (FT.neg c = true ∧ Z c ≤ 0) ∨ (FT.neg c = false ∧ 0 ≤ Z c) := by unfold Z; cases FT.neg c <;> simp
  rcases hcs with ⟨c1, c2⟩ | ⟨c1, c2⟩
  · have hc3 : Z c * U ≤ 0 := Int.mul_nonpos_of_nonpos_of_nonneg c2 (by omega)
    rcases hxs with ⟨a1, a2⟩ | ⟨a1, a2⟩ <;> rcases hys with ⟨b1, b2⟩ | ⟨b1, b2⟩ <;> rw [a1, b1, c1]
    · rfl
    · have := Int.mul_neg_of_neg_of_pos (show Z a < 0 by omega) (show 0 < Z b by omega); omega
    · have := Int.mul_neg_of_pos_of_neg (show 0 < Z a by omega) (show Z b < 0 by omega); omega
    · rfl
  · rw [c1, Bool.and_false]

set_option maxRecDepth 100000 in
theorem fused_fin (w : World) (a b c : Nat) (ha : a < 2 ^ 64) (hb : b < 2 ^ 64) (hc : c < 2 ^ 64) (fa : FT.rung a < FT.infR) (fb : FT.rung b < FT.infR) (fc : FT.rung c < FT.infR) :
    Calls Tryd.prog 23 #[.float .f64 a, .float .f64 b, .float .f64 c] w (RetFma a b c w) := by
  obtain ⟨u, hu⟩ : ∃ u, u = 1074 := ⟨_, rfl⟩
  obtain ⟨K, hK⟩ : ∃ K, K = 40 := ⟨_, rfl⟩
  obtain ⟨A1, B1, HA, U1, q1, q1'⟩ := ratZ a u K ha fa hu hK
  obtain ⟨A2, B2, HB, U2, q2, q2'⟩ := ratZ b u K hb fb hu hK
  obtain ⟨A3, B3, HC, U3, q3, q3'⟩ := ratZ c u K hc fc hu hK
  have hm := U1.mul U2
  have lm := low2 (N := A1 * A2) (Nat.mul_pos U1.pos U2.pos) rfl
  have HM : Hid (∀ w bz bx b2 : _, bz < w.heap.size → bx < w.heap.size → b2 < w.heap.size → RatIs w bz 0 0 → RatIs w bx A1 B1 → RatIs w b2 A2 B2 → _) := fun w bz bx b2 h1 h2 h3 h4 h5 h6 => mulR_c w bz bx b2 0 0 A1 A2 B1 B2 K (by omega) q1 q2 q1' q2' U1.pos U2.pos h1 h2 h3 h4 h5 h6
  have hp80 : 2 ^ (32 * (2 * K)) = 2 ^ (32 * K) * 2 ^ (32 * K) := by rw [← Nat.pow_add]; congr 1; omega
  have hn1 : (A1 * A2).natAbs < 2 ^ (32 * (2 * K)) := by rw [Int.natAbs_mul, hp80]; exact Nat.mul_lt_mul'' q1 q2
  have hn2 : B1 * B2 < 2 ^ (32 * (2 * K)) := by rw [hp80]; exact Nat.mul_lt_mul'' q1' q2'
  generalize Int.tdiv (A1 * A2) (Nat.gcd (A1 * A2).natAbs (B1 * B2) : Nat) = P at *
  generalize B1 * B2 / Nat.gcd (A1 * A2).natAbs (B1 * B2) = Q at *
  have hPb : P.natAbs < 2 ^ (32 * (2 * K)) := by omega
  have hQb : Q < 2 ^ (32 * (2 * K)) := by omega
  have hU := Nat.two_pow_pos u
  have ht : A3 * (((2 ^ u : Nat) : Int) * ((2 ^ u : Nat) : Int)) = Z c * ((2 ^ u : Nat) : Int) * (B3 : Int) := by rw [← Int.mul_assoc, U3.eq]; ac_rfl
  have hs := low_sum hm.1 U3.pos hm.2 ht
  have ls := low2 (N := P * (B3 : Int) + A3 * (Q : Int)) (Nat.mul_pos hm.1 U3.pos) rfl
  have hle : 2 ^ (32 * K) ≤ 2 ^ (32 * (2 * K)) := Nat.pow_le_pow_right (by omega) (by omega)
  have HS : Hid (∀ w bz b2 : _, bz < w.heap.size → b2 < w.heap.size → RatIs w bz P Q → RatIs w b2 A3 B3 → _) := fun w bz b2 h1 h2 h3 h4 => addR_c w bz bz b2 P Q P A3 Q B3 (2 * K) (by omega) hPb (by omega) hQb (by omega) hm.1 U3.pos h1 h1 h2 h3 h3 h4
  have hp120 : 2 ^ (32 * (3 * K)) = 2 ^ (32 * (2 * K)) * 2 ^ (32 * K) := by rw [← Nat.pow_add]; congr 1; omega
  have hb1 : (P * (B3 : Int) + A3 * (Q : Int)).natAbs < 2 ^ (32 * (3 * K + 1)) := by
    have i1 : (P * (B3 : Int)).natAbs < 2 ^ (32 * (3 * K)) := by rw [Int.natAbs_mul, Int.natAbs_natCast, hp120]; exact Nat.mul_lt_mul'' hPb q3'
    have i2 : (A3 * (Q : Int)).natAbs < 2 ^ (32 * (3 * K)) := by rw [Int.natAbs_mul, Int.natAbs_natCast, hp120, Nat.mul_comm]; exact Nat.mul_lt_mul'' hQb q3
    have i3 := Int.natAbs_add_le (P * (B3 : Int)) (A3 * (Q : Int))
    have i4 : 2 ^ (32 * (3 * K + 1)) = 2 ^ (32 * (3 * K)) * 2 ^ 32 := by rw [← Nat.pow_add]; congr 1
    omega
  have hb2 : Q * B3 < 2 ^ (32 * (3 * K + 1)) := by
    have i1 : Q * B3 < 2 ^ (32 * (3 * K)) := by rw [hp120]; exact Nat.mul_lt_mul'' hQb q3'
    have i4 : 2 ^ (32 * (3 * K + 1)) = 2 ^ (32 * (3 * K)) * 2 ^ 32 := by rw [← Nat.pow_add]; congr 1
    omega
  generalize Int.tdiv (P * (B3 : Int) + A3 * (Q : Int)) (Nat.gcd (P * (B3 : Int) + A3 * (Q : Int)).natAbs (Q * B3) : Nat) = R at *
  generalize Q * B3 / Nat.gcd (P * (B3 : Int) + A3 * (Q : Int)).natAbs (Q * B3) = T at *
  have hRb : R.natAbs < 2 ^ (32 * (3 * K + 1)) := by omega
  have hTb : T < 2 ^ (32 * (3 * K + 1)) := by omega
  have hfma := fma_U ha hb hc fa fb fc hu hs.1 hs.2
  obtain ⟨V, hV⟩ : ∃ V, V = (if R = 0 then FT.wrd ((FT.neg a ^^ FT.neg b) && FT.neg c) 0 else FT.wrd (decide (R < 0)) (flV R.natAbs T)) := ⟨_, rfl⟩
  rw [← hV] at hfma
  have hrep : RetFma a b c w = fun e w' => e = .returned (.float .f64 V) ∧ G w w' := by
    funext e w'
    unfold RetFma
    rw [hfma]
    apply propext
    constructor
    · rintro ⟨r, rfl, g, h1, h2⟩
      exact ⟨by rw [h1 _ rfl], g⟩
    · rintro ⟨rfl, g⟩
      exact ⟨_, rfl, g, fun q hq => Option.some.inj hq, fun h => by cases h⟩
  rw [hrep]
  have HV : Hid _ := hV
  clear hV
  have hz : R = 0 → FT.rung a ≠ 0 → FT.rung b ≠ 0 → ((FT.neg a ^^ FT.neg b) && FT.neg c) = false := by
    intro h0 h1 h2
    have e := hs.2
    rw [h0, Int.zero_mul] at e
    rcases Int.mul_eq_zero.1 e.symm with e | e
    · exact zero_sign (by omega) e h1 h2
    · have := hs.1; omega
  have HSg : Hid (∀ w pz, RatIs w pz R T → _) := fun w pz h => signR_c w pz R T h
  have HR : R ≠ 0 → Hid (∀ w pz, pz < w.heap.size → RatIs w pz R T → _) := fun h0 w pz hp h =>
    round_core w pz R T (decide (R < 0)) (flV R.natAbs T) (flV_le _ _) h0 rfl hp h (float64_c w pz (3 * K + 1) R T (by omega) (by omega) h0 hs.1 hRb hTb (by
      have h1 : blen R.natAbs ≤ 32 * (3 * K + 1) := blen_le_iff.2 hRb
      unfold startP
      split <;> omega) hp h)
  have n1 := FT.neq_self a
  have n2 := FT.neq_self b
  have n3 := FT.neq_self c
  rw [show FT.nan a = false from decide_eq_false (by omega)] at n1
  rw [show FT.nan b = false from decide_eq_false (by omega)] at n2
  rw [show FT.nan c = false from decide_eq_false (by omega)] at n3
  have I1 : Hid _ := fun w => isinf_c a w ha
  have I2 : Hid _ := fun w => isinf_c b w hb
  have I3 : Hid _ := fun w => isinf_c c w hc
  rw [decide_eq_false (by omega)] at I1 I2 I3
  have S1 : Hid _ := fun w => signbit_c a w ha
  have S2 : Hid _ := fun w => signbit_c b w hb
  have S3 : Hid _ := fun w => signbit_c c w hc
  have C1 : Hid _ := fun w => copysign_c 0 0xBFF0000000000000 w (by omega) (by omega)
  rw [show FT.rung 0 + (if FT.neg 0xBFF0000000000000 then 2 ^ 63 else 0) = 9223372036854775808 from by decide] at C1
  have z1 := FT.eq_zero a
  have z2 := FT.eq_zero b
  have HA : Hid _ := HA
  have HB : Hid _ := HB
  have HC : Hid _ := HC
  clear hrep hfma hb1 hb2 hRb hTb hs ls lm hm hPb hQb hn1 hn2 hp80 hp120 hle ht q1 q1' q2 q2' q3 q3' U1 U2 U3 hU ha hb hc fa fb fc hu hK
  go_enter Tryd.func23, Tryd.ntmps23
  go_wp2_with fail
  refine Calls.mono (P := Tryd.prog) (I1.out _) ?_
  rintro e w1 ⟨rfl, g1⟩
  go_wp2_with fail
  refine Calls.mono (P := Tryd.prog) (I2.out _) ?_
  rintro e w2 ⟨rfl, g2⟩
  go_wp2_with fail
  refine Calls.mono (P := Tryd.prog) (I3.out _) ?_
  rintro e w3 ⟨rfl, g3⟩
  have G3 := G.trans (G.trans g1 g2) g3
  clear g1 g2 g3 I1 I2 I3 n1 n2 n3
  go_wp2_with fail
  have hz0 := rat_new w3 33
  have hga := G3.alloc (.cells #[.bool false, .slice none 0 0, .bool false, .slice none 0 0] 33)
  have hzs : w3.heap.size < (w3.alloc (.cells #[.bool false, .slice none 0 0, .bool false, .slice none 0 0] 33)).heap.size := by simp
  have hzw := G3.size
  generalize w3.alloc (.cells #[.bool false, .slice none 0 0, .bool false, .slice none 0 0] 33) = w4 at *
  generalize w3.heap.size = pz at *
  clear G3
  refine Calls.mono (P := Tryd.prog) (HA.out w4) ?_
  intro e w5 hs
  obtain ⟨pa, rfl, g5, pa1, pa2, ra⟩ := hs
  have hz5 := hz0.G hzs g5
  have hzs5 := G.lt g5 hzs
  have G5 := G.trans hga g5
  clear hz0 hzs hga g5 pa1 HA
  go_wp2_with fail
  refine Calls.mono (P := Tryd.prog) (HB.out w5) ?_
  intro e w6 hs
  obtain ⟨pb, rfl, g6, pb1, pb2, rb⟩ := hs
  have hz6 := hz5.G hzs5 g6
  have hzs6 := G.lt g6 hzs5
  have ra6 := ra.G pa2 g6
  have pa6 := G.lt g6 pa2
  have G6 := G.trans G5 g6
  have HM6 : Hid _ := HM.out w6 pz pa pb hzs6 pa6 pb2 hz6 ra6 rb
  clear hz5 hzs5 ra pa2 G5 g6 pb1 HB HM hz6 ra6 pa6 rb pb2
  go_wp2_with fail
  refine Calls.mono (P := Tryd.prog) HM6.out ?_
  intro e w7 hs
  obtain ⟨rfl, gx, r7⟩ := hs
  have G7 := GX.fresh G6 gx hzw
  have hzs7 := Nat.lt_of_lt_of_le hzs6 gx.size
  clear HM6 gx G6 hzs6
  go_wp2_with fail
  refine Calls.mono (P := Tryd.prog) (HC.out w7) ?_
  intro e w8 hs
  obtain ⟨pc, rfl, g8, pc1, pc2, rc⟩ := hs
  have r8 := r7.G hzs7 g8
  have hzs8 := G.lt g8 hzs7
  have G8 := G.trans G7 g8
  have HS8 : Hid _ := HS.out w8 pz pc hzs8 pc2 r8 rc
  clear G7 hzs7 g8 r7 r8 pc1 pc2 rc HS HC
  go_wp2_with fail
  refine Calls.mono (P := Tryd.prog) HS8.out ?_
  intro e w9 hs
  obtain ⟨rfl, gx, r9⟩ := hs
  have G9 := GX.fresh G8 gx hzw
  have hzs9 := Nat.lt_of_lt_of_le hzs8 gx.size
  have HSg9 : Hid _ := HSg.out w9 pz r9
  have HR9 : R ≠ 0 → Hid (∀ w10, G w9 w10 → _) := fun h0 w10 g => (HR h0).out w10 pz (G.lt g hzs9) (r9.G hzs9 g)
  clear gx G8 hzs8 HS8 HSg HR r9
  go_wp2_with fail
  refine Calls.mono (P := Tryd.prog) HSg9.out ?_
  rintro e w10 ⟨rfl, g10⟩
  have G10 := G.trans G9 g10
  by_cases h0 : R = 0
  · have hz' := hz h0
    have t0 : (R.sign != 0) = false := by rw [h0]; rfl
    have hv := HV.out
    rw [if_pos h0] at hv
    have HV2 : Hid _ := hv
    have hz2 : Hid (decide (FT.rung a = 0) = false → decide (FT.rung b = 0) = false → ((FT.neg a ^^ FT.neg b) && FT.neg c) = false) := fun x y => hz' (of_decide_eq_false x) (of_decide_eq_false y)
    clear hz HR9 HSg9 h0 hzs9 g10 G9 hzw HV hv hz'
    generalize R.sign = sg at *
    generalize decide (FT.rung a = 0) = za at *
    generalize decide (FT.rung b = 0) = zb at *
    generalize FT.neg a = na at *
    generalize FT.neg b = nb at *
    generalize FT.neg c = nc at *
    cases za
    · cases zb
      · have hf := hz2.out rfl rfl
        have HV3 : Hid (V = FT.wrd false 0) := by show V = _; rw [HV2.out, hf]
        clear hz2 HV2 hf
        as_aux_lemma =>
          go_wp2_with fail
          go_ret
          exact ⟨ret_float HV3.out.symm, G10⟩
      · clear hz2
        go_wp2_with fail
        refine Calls.mono (P := Tryd.prog) (S1.out _) ?_
        rintro e w11 ⟨rfl, g11⟩
        go_wp2_with fail
        refine Calls.mono (P := Tryd.prog) (S2.out _) ?_
        rintro e w12 ⟨rfl, g12⟩
        have G12 := G.trans (G.trans G10 g11) g12
        cases na
        · cases nb
          · as_aux_lemma =>
              go_wp2_with fail
              go_ret
              exact ⟨ret_float HV2.out.symm, G12⟩
          · as_aux_lemma =>
              go_wp2_with fail
              refine Calls.mono (P := Tryd.prog) (S3.out _) ?_
              rintro e w13 ⟨rfl, g13⟩
              cases nc
              · go_wp2_with fail
                go_ret
                exact ⟨ret_float HV2.out.symm, G.trans G12 g13⟩
              · go_wp2_with fail
                refine Calls.mono (P := Tryd.prog) (C1.out _) ?_
                rintro e w14 ⟨rfl, g14⟩
                go_wp2_with fail
                go_ret
                exact ⟨ret_float HV2.out.symm, G.trans (G.trans G12 g13) g14⟩
        · cases nb
          · as_aux_lemma =>
              go_wp2_with fail
              refine Calls.mono (P := Tryd.prog) (S3.out _) ?_
              rintro e w13 ⟨rfl, g13⟩
              cases nc
              · go_wp2_with fail
                go_ret
                exact ⟨ret_float HV2.out.symm, G.trans G12 g13⟩
              · go_wp2_with fail
                refine Calls.mono (P := Tryd.prog) (C1.out _) ?_
                rintro e w14 ⟨rfl, g14⟩
                go_wp2_with fail
                go_ret
                exact ⟨ret_float HV2.out.symm, G.trans (G.trans G12 g13) g14⟩
          · as_aux_lemma =>
              go_wp2_with fail
              go_ret
              exact ⟨ret_float HV2.out.symm, G12⟩
    · clear hz2
      go_wp2_with fail
      refine Calls.mono (P := Tryd.prog) (S1.out _) ?_
      rintro e w11 ⟨rfl, g11⟩
      go_wp2_with fail
      refine Calls.mono (P := Tryd.prog) (S2.out _) ?_
      rintro e w12 ⟨rfl, g12⟩
      have G12 := G.trans (G.trans G10 g11) g12
      cases na
      · cases nb
        · as_aux_lemma =>
            go_wp2_with fail
            go_ret
            exact ⟨ret_float HV2.out.symm, G12⟩
        · as_aux_lemma =>
            go_wp2_with fail
            refine Calls.mono (P := Tryd.prog) (S3.out _) ?_
            rintro e w13 ⟨rfl, g13⟩
            cases nc
            · go_wp2_with fail
              go_ret
              exact ⟨ret_float HV2.out.symm, G.trans G12 g13⟩
            · go_wp2_with fail
              refine Calls.mono (P := Tryd.prog) (C1.out _) ?_
              rintro e w14 ⟨rfl, g14⟩
              go_wp2_with fail
              go_ret
              exact ⟨ret_float HV2.out.symm, G.trans (G.trans G12 g13) g14⟩
      · cases nb
        · as_aux_lemma =>
            go_wp2_with fail
            refine Calls.mono (P := Tryd.prog) (S3.out _) ?_
            rintro e w13 ⟨rfl, g13⟩
            cases nc
            · go_wp2_with fail
              go_ret
              exact ⟨ret_float HV2.out.symm, G.trans G12 g13⟩
            · go_wp2_with fail
              refine Calls.mono (P := Tryd.prog) (C1.out _) ?_
              rintro e w14 ⟨rfl, g14⟩
              go_wp2_with fail
              go_ret
              exact ⟨ret_float HV2.out.symm, G.trans (G.trans G12 g13) g14⟩
        · as_aux_lemma =>
            go_wp2_with fail
            go_ret
            exact ⟨ret_float HV2.out.symm, G12⟩
  · have t0 : (R.sign != 0) = true := by simp; exact h0
    have HR10 : Hid _ := (HR9 h0).out w10 g10
    have hv := HV.out
    rw [if_neg h0] at hv
    have HV2 : Hid _ := hv
    clear hz HR9 HSg9 h0 hzs9 g10 G9 hzw HV hv
    generalize R.sign = sg at *
    generalize FT.wrd (decide (R < 0)) (flV R.natAbs T) = V2 at *
    go_wp2_with fail
    refine Calls.mono (P := Tryd.prog) HR10.out ?_
    rintro e w11 ⟨rfl, g11⟩
    go_wp2_with fail
    go_ret
    exact ⟨ret_float HV2.out.symm, G.trans G10 g11⟩
end Go.Proofs.YtkelfdhpekkiaacDoor
namespace Go.Proofs.YtkelfdhpekkiaacDoor
open Go.ChangeShapes Go.WideShapes Go.ChangeAt Go.RowKit
open BN
open EA (Z)

/-- A float operation that has no answer: the tape gives a word that is no number. -/
theorem run_float_none {P : Program} (w : World) (op : BinOp) (t : TypeId) (x y : Nat) (h : floatBits op .f64 x y = none) (ho : op = .add ∨ op = .sub ∨ op = .mul ∨ op = .quo) :
    (binOp op t (.float .f64 x) (.float .f64 y)).run P w = .ok (.float .f64 (nanAt x y w)) w.drew := by
  unfold floatBits at h
  rcases ho with rfl | rfl | rfl | rfl <;> simp only at h <;> simp only [binOp, Op.floatArith, h] <;> rfl

theorem read_any (b : Nat) : (FT.nan b = true ∧ ∃ f, Ieee.double.read b = .nan (FT.neg b) f) ∨ (FT.nan b = false ∧ FT.rung b = FT.infR ∧ Ieee.double.read b = .infinity (FT.neg b)) ∨
    (FT.nan b = false ∧ FT.rung b < FT.infR ∧ ∃ m p, Ieee.double.read b = .number (FT.neg b) m p) := by
  rcases Nat.lt_trichotomy (FT.rung b) FT.infR with h | h | h
  · obtain ⟨m, p, hr, _⟩ := FT.read_number h
    exact Or.inr (Or.inr ⟨decide_eq_false (by omega), h, m, p, hr⟩)
  · exact Or.inr (Or.inl ⟨decide_eq_false (by omega), h, FT.read_inf h⟩)
  · exact Or.inl ⟨decide_eq_true h, _, FT.read_nan h⟩

theorem write_inf (s : Bool) : Ieee.double.write (.infinity s) = FT.wrd s FT.infR := by
  show Ieee.double.word s _ = _
  rw [FT.word_eq, FT.infRung_eq]
  rfl

theorem fma_none {a b c : Nat} (h : FT.nan a = true ∨ FT.nan b = true ∨ FT.nan c = true) : Ieee.double.fma a b c = none := by
  unfold Ieee.Format.fma
  rcases read_any a with ⟨ha, f, ra⟩ | ⟨ha, -, ra⟩ | ⟨ha, -, m, p, ra⟩
  · rw [ra]; rfl
  all_goals
    rcases read_any b with ⟨hb, f2, rb⟩ | ⟨hb, -, rb⟩ | ⟨hb, -, m2, p2, rb⟩
    · rw [ra, rb]; rfl
    all_goals
      have hc : FT.nan c = true := by
        rcases h with h | h | h
        · rw [ha] at h; cases h
        · rw [hb] at h; cases h
        · exact h
      rcases read_any c with ⟨-, f3, rc⟩ | ⟨hc2, _⟩ | ⟨hc2, _⟩
      · rw [ra, rb, rc]
        simp only [Ieee.Datum.product]
        first
          | rfl
          | (split <;> rfl)
      · rw [hc2] at hc; cases hc
      · rw [hc2] at hc; cases hc

/-- A product with an infinite factor. -/
theorem prod_inf {a b : Nat} (ha : FT.nan a = false) (hb : FT.nan b = false) (h : FT.rung a = FT.infR ∨ FT.rung b = FT.infR) :
    (Ieee.double.read a).product (Ieee.double.read b) = none ∨ (Ieee.double.read a).product (Ieee.double.read b) = some (.infinity (FT.neg a ^^ FT.neg b)) := by
  rcases read_any a with ⟨ha2, _⟩ | ⟨-, -, ra⟩ | ⟨-, fa, m, p, ra⟩
  · rw [ha2] at ha; cases ha
  · rcases read_any b with ⟨hb2, _⟩ | ⟨-, -, rb⟩ | ⟨-, -, m2, p2, rb⟩
    · rw [hb2] at hb; cases hb
    · rw [ra, rb]; exact Or.inr rfl
    · rw [ra, rb]
      by_cases h0 : m2 = 0
      · left; simp [Ieee.Datum.product, h0]
      · right; simp [Ieee.Datum.product, h0]
  · rcases read_any b with ⟨hb2, _⟩ | ⟨-, -, rb⟩ | ⟨-, fb, m2, p2, rb⟩
    · rw [hb2] at hb; cases hb
    · rw [ra, rb]
      by_cases h0 : m = 0
      · left; simp [Ieee.Datum.product, h0]
      · right; simp [Ieee.Datum.product, h0, Bool.xor_comm]
    · omega

theorem fma_inf {a b c : Nat} (ha : FT.nan a = false) (hb : FT.nan b = false) (hc : FT.nan c = false) (h : FT.rung a = FT.infR ∨ FT.rung b = FT.infR) :
    (Ieee.double.mul a b = none ∧ Ieee.double.fma a b c = none) ∨
    (Ieee.double.mul a b = some (FT.wrd (FT.neg a ^^ FT.neg b) FT.infR) ∧ Ieee.double.fma a b c = if FT.rung c = FT.infR ∧ (FT.neg a ^^ FT.neg b) ≠ FT.neg c then none else some (FT.wrd (FT.neg a ^^ FT.neg b) FT.infR)) := by
  unfold Ieee.Format.fma Ieee.Format.mul
  rcases prod_inf ha hb h with hp | hp
  · rw [hp]; exact Or.inl ⟨rfl, rfl⟩
  · rw [hp]
    refine Or.inr ⟨by rw [← write_inf]; rfl, ?_⟩
    rw [← write_inf]
    rcases read_any c with ⟨hc2, _⟩ | ⟨-, ic, rc⟩ | ⟨-, fc, m, p, rc⟩
    · rw [hc2] at hc; cases hc
    · rw [rc]
      generalize (FT.neg a ^^ FT.neg b) = s
      generalize FT.neg c = t
      by_cases hst : s = t
      · rw [if_neg (fun x => x.2 hst), hst]
        simp [Ieee.Datum.sum]
      · rw [if_pos ⟨ic, hst⟩]
        simp [Ieee.Datum.sum, hst]
    · rw [rc, if_neg (by omega)]
      rfl

theorem fma_cinf {a b c : Nat} (hc0 : c < 2 ^ 64) (fa : FT.rung a < FT.infR) (fb : FT.rung b < FT.infR) (hc : FT.rung c = FT.infR) : Ieee.double.fma a b c = some c := by
  obtain ⟨m, p, ra, _⟩ := FT.read_number fa
  obtain ⟨m2, p2, rb, _⟩ := FT.read_number fb
  unfold Ieee.Format.fma
  rw [ra, rb, FT.read_inf hc]
  show some (Ieee.double.write (.infinity (FT.neg c))) = _
  rw [write_inf, ← hc]
  congr 1
  unfold FT.wrd
  rcases FT.neg_cases c hc0 with ⟨h1, h2⟩ | ⟨h1, h2⟩ <;> rw [h1] <;> simp <;> omega

theorem fused_cinf (w : World) (a b c : Nat) (ha : a < 2 ^ 64) (hb : b < 2 ^ 64) (hc : c < 2 ^ 64) (fa : FT.rung a < FT.infR) (fb : FT.rung b < FT.infR) (ic : FT.rung c = FT.infR) :
    Calls Tryd.prog 23 #[.float .f64 a, .float .f64 b, .float .f64 c] w fun e w' => e = .returned (.float .f64 c) ∧ G w w' := by
  have n1 := FT.neq_self a
  have n2 := FT.neq_self b
  have n3 := FT.neq_self c
  rw [show FT.nan a = false from decide_eq_false (by omega)] at n1
  rw [show FT.nan b = false from decide_eq_false (by omega)] at n2
  rw [show FT.nan c = false from decide_eq_false (by omega)] at n3
  have I1 : Hid _ := fun w => isinf_c a w ha
  have I2 : Hid _ := fun w => isinf_c b w hb
  have I3 : Hid _ := fun w => isinf_c c w hc
  rw [decide_eq_false (by omega)] at I1 I2
  rw [decide_eq_true ic] at I3
  clear ha hb hc fa fb ic
  go_enter Tryd.func23, Tryd.ntmps23
  go_wp2_with fail
  refine Calls.mono (P := Tryd.prog) (I1.out _) ?_
  rintro e w1 ⟨rfl, g1⟩
  go_wp2_with fail
  refine Calls.mono (P := Tryd.prog) (I2.out _) ?_
  rintro e w2 ⟨rfl, g2⟩
  go_wp2_with fail
  refine Calls.mono (P := Tryd.prog) (I3.out _) ?_
  rintro e w3 ⟨rfl, g3⟩
  go_wp2_with fail
  go_ret
  exact ⟨rfl, G.trans (G.trans g1 g2) g3⟩

theorem fused_inf_ab (w : World) (a b c : Nat) (ha : a < 2 ^ 64) (hb : b < 2 ^ 64) (hc : c < 2 ^ 64) (na : FT.nan a = false) (nb : FT.nan b = false) (nc : FT.nan c = false) (h : FT.rung a = FT.infR ∨ FT.rung b = FT.infR) :
    Calls Tryd.prog 23 #[.float .f64 a, .float .f64 b, .float .f64 c] w (RetFma a b c w) := by
  have n1 := FT.neq_self a
  have n2 := FT.neq_self b
  have n3 := FT.neq_self c
  rw [na] at n1
  rw [nb] at n2
  rw [nc] at n3
  have I1 : Hid _ := fun w => isinf_c a w ha
  have I2 : Hid _ := fun w => isinf_c b w hb
  have I3 : Hid _ := fun w => isinf_c c w hc
  have HN : Hid _ := fun w => nan_c w
  rcases fma_inf na nb nc h with ⟨hm, hf⟩ | ⟨hm, hf⟩
  · have hmul := fun (w : World) => run_float_none (P := Tryd.prog) w .mul 22 a b hm (Or.inr (Or.inr (Or.inl rfl)))
    have hrep : RetFma a b c w = fun e w' => ∃ r, e = .returned (.float .f64 r) ∧ G w w' ∧ FT.nan r = true := by
      funext e w'
      unfold RetFma
      rw [hf]
      apply propext
      constructor
      · rintro ⟨r, rfl, g, h1, h2⟩
        exact ⟨r, rfl, g, h2 rfl⟩
      · rintro ⟨r, rfl, g, h2⟩
        exact ⟨_, rfl, g, fun q hq => (by cases hq), fun _ => h2⟩
    rw [hrep]
    have n4 : ∀ w, (FloatKind.f64.format.order (nanAt a b w) (nanAt a b w) != some .eq) = true := fun w => by rw [FT.neq_self, nanAt_nan]
    have hq : FT.nan FT.qnan = true := by decide
    by_cases hia : FT.rung a = FT.infR
    · rw [decide_eq_true hia] at I1
      clear hrep hm hf h hia ha hb hc na nb nc I2
      go_enter Tryd.func23, Tryd.ntmps23
      go_wp2_with fail
      refine Calls.mono (P := Tryd.prog) (I1.out _) ?_
      rintro e w1 ⟨rfl, g1⟩
      go_wp2_with fail
      refine Calls.mono (P := Tryd.prog) (HN.out _) ?_
      rintro e w2 ⟨rfl, g2⟩
      go_wp2_with fail
      go_ret
      exact ⟨_, rfl, G.trans g1.drew g2, hq⟩
    · rw [decide_eq_false hia] at I1
      rw [decide_eq_true (by omega)] at I2
      clear hrep hm hf h hia ha hb hc na nb nc
      go_enter Tryd.func23, Tryd.ntmps23
      go_wp2_with fail
      refine Calls.mono (P := Tryd.prog) (I1.out _) ?_
      rintro e w0 ⟨rfl, g0⟩
      go_wp2_with fail
      refine Calls.mono (P := Tryd.prog) (I2.out _) ?_
      rintro e w1 ⟨rfl, g1'⟩
      have g1 := G.trans g0 g1'
      clear g0 g1'
      go_wp2_with fail
      refine Calls.mono (P := Tryd.prog) (HN.out _) ?_
      rintro e w2 ⟨rfl, g2⟩
      go_wp2_with fail
      go_ret
      exact ⟨_, rfl, G.trans g1.drew g2, hq⟩
  · have hmul := fun (w : World) => run_float_arith (P := Tryd.prog) w .mul 22 .f64 a b _ hm
    have hlt := EA.infR_lt
    have hP1 := FT.wrd_rung (FT.neg a ^^ FT.neg b) FT.infR hlt
    have hP2 := FT.wrd_neg (FT.neg a ^^ FT.neg b) FT.infR hlt
    have hP3 := FT.wrd_lt (FT.neg a ^^ FT.neg b) FT.infR hlt
    generalize FT.wrd (FT.neg a ^^ FT.neg b) FT.infR = p at *
    rw [← hP2] at hf
    have n4 := FT.neq_self p
    rw [show FT.nan p = false from decide_eq_false (by omega)] at n4
    have S1 : Hid _ := fun w => signbit_c p w hP3
    have S2 : Hid _ := fun w => signbit_c c w hc
    have hq : FT.nan FT.qnan = true := by decide
    have HF : Hid (∀ w' e, G w w' → (if FT.rung c = FT.infR ∧ FT.neg p ≠ FT.neg c then e = Ending.returned (.float .f64 FT.qnan) else e = .returned (.float .f64 p)) → RetFma a b c w e w') := by
      intro w' e g he
      by_cases hx : FT.rung c = FT.infR ∧ FT.neg p ≠ FT.neg c
      · rw [if_pos hx] at he hf
        exact ⟨_, he, g, (by intro q hq'; rw [hf] at hq'; cases hq'), fun _ => hq⟩
      · rw [if_neg hx] at he hf
        exact ⟨_, he, g, (by intro q hq'; rw [hf] at hq'; exact Option.some.inj hq'), (by intro hn; rw [hf] at hn; cases hn)⟩
    generalize FT.neg p = sp at *
    generalize FT.neg c = sc at *
    have hic : decide (FT.rung c = FT.infR) = true ↔ FT.rung c = FT.infR := decide_eq_true_iff
    by_cases hia : FT.rung a = FT.infR
    · rw [decide_eq_true hia] at I1
      clear hm h hia ha hb hc na nb nc I2 hf hlt hP1 hP2 hP3
      generalize FT.rung c = rc at *
      generalize hdc : decide (rc = FT.infR) = ic at *
      have HF2 : Hid (∀ w' e, G w w' → (if ic = true ∧ sp ≠ sc then e = Ending.returned (.float .f64 FT.qnan) else e = .returned (.float .f64 p)) → RetFma a b c w e w') := fun w' e g he => HF.out w' e g (by simpa only [hic] using he)
      clear HF hic hdc
      go_enter Tryd.func23, Tryd.ntmps23
      go_wp2_with fail
      refine Calls.mono (P := Tryd.prog) (I1.out _) ?_
      rintro e w1 ⟨rfl, g1⟩
      go_wp2_with fail
      refine Calls.mono (P := Tryd.prog) (I3.out _) ?_
      rintro e w2 ⟨rfl, g2⟩
      have g12 := G.trans g1 g2
      cases ic
      · as_aux_lemma =>
          go_wp2_with fail
          go_ret
          exact HF2.out _ _ g12 rfl
      · as_aux_lemma =>
          go_wp2_with fail
          refine Calls.mono (P := Tryd.prog) (S1.out _) ?_
          rintro e w3 ⟨rfl, g3⟩
          go_wp2_with fail
          refine Calls.mono (P := Tryd.prog) (S2.out _) ?_
          rintro e w4 ⟨rfl, g4⟩
          have g14 := G.trans (G.trans g12 g3) g4
          cases sp <;> cases sc
          · go_wp2_with fail
            go_ret
            exact HF2.out _ _ g14 rfl
          · go_wp2_with fail
            refine Calls.mono (P := Tryd.prog) (HN.out _) ?_
            rintro e w5 ⟨rfl, g5⟩
            go_wp2_with fail
            go_ret
            exact HF2.out _ _ (G.trans g14 g5) rfl
          · go_wp2_with fail
            refine Calls.mono (P := Tryd.prog) (HN.out _) ?_
            rintro e w5 ⟨rfl, g5⟩
            go_wp2_with fail
            go_ret
            exact HF2.out _ _ (G.trans g14 g5) rfl
          · go_wp2_with fail
            go_ret
            exact HF2.out _ _ g14 rfl
    · rw [decide_eq_false hia] at I1
      rw [decide_eq_true (by omega)] at I2
      clear hm h hia ha hb hc na nb nc hf hlt hP1 hP2 hP3
      generalize FT.rung c = rc at *
      generalize hdc : decide (rc = FT.infR) = ic at *
      have HF2 : Hid (∀ w' e, G w w' → (if ic = true ∧ sp ≠ sc then e = Ending.returned (.float .f64 FT.qnan) else e = .returned (.float .f64 p)) → RetFma a b c w e w') := fun w' e g he => HF.out w' e g (by simpa only [hic] using he)
      clear HF hic hdc
      go_enter Tryd.func23, Tryd.ntmps23
      go_wp2_with fail
      refine Calls.mono (P := Tryd.prog) (I1.out _) ?_
      rintro e w0 ⟨rfl, g0⟩
      go_wp2_with fail
      refine Calls.mono (P := Tryd.prog) (I2.out _) ?_
      rintro e w1 ⟨rfl, g1'⟩
      have g1 := G.trans g0 g1'
      clear g0 g1'
      go_wp2_with fail
      refine Calls.mono (P := Tryd.prog) (I3.out _) ?_
      rintro e w2 ⟨rfl, g2⟩
      have g12 := G.trans g1 g2
      cases ic
      · as_aux_lemma =>
          go_wp2_with fail
          go_ret
          exact HF2.out _ _ g12 rfl
      · as_aux_lemma =>
          go_wp2_with fail
          refine Calls.mono (P := Tryd.prog) (S1.out _) ?_
          rintro e w3 ⟨rfl, g3⟩
          go_wp2_with fail
          refine Calls.mono (P := Tryd.prog) (S2.out _) ?_
          rintro e w4 ⟨rfl, g4⟩
          have g14 := G.trans (G.trans g12 g3) g4
          cases sp <;> cases sc
          · go_wp2_with fail
            go_ret
            exact HF2.out _ _ g14 rfl
          · go_wp2_with fail
            refine Calls.mono (P := Tryd.prog) (HN.out _) ?_
            rintro e w5 ⟨rfl, g5⟩
            go_wp2_with fail
            go_ret
            exact HF2.out _ _ (G.trans g14 g5) rfl
          · go_wp2_with fail
            refine Calls.mono (P := Tryd.prog) (HN.out _) ?_
            rintro e w5 ⟨rfl, g5⟩
            go_wp2_with fail
            go_ret
            exact HF2.out _ _ (G.trans g14 g5) rfl
          · go_wp2_with fail
            go_ret
            exact HF2.out _ _ g14 rfl

/-- The reference's fused product. -/
theorem fused_ref (w : World) (a b c : Nat) (ha : a < 2 ^ 64) (hb : b < 2 ^ 64) (hc : c < 2 ^ 64) :
    Calls Tryd.prog 23 #[.float .f64 a, .float .f64 b, .float .f64 c] w (RetFma a b c w) := by
  by_cases hn : FT.nan a = true ∨ FT.nan b = true ∨ FT.nan c = true
  · refine (fused_nan w a b c hn).mono fun e w' h => ?_
    obtain ⟨rfl, g⟩ := h
    exact ⟨_, rfl, g, (by intro q hq'; rw [fma_none hn] at hq'; cases hq'), fun _ => by decide⟩
  · have na : FT.nan a = false := by cases h : FT.nan a; rfl; exact absurd (Or.inl h) hn
    have nb : FT.nan b = false := by cases h : FT.nan b; rfl; exact absurd (Or.inr (Or.inl h)) hn
    have nc : FT.nan c = false := by cases h : FT.nan c; rfl; exact absurd (Or.inr (Or.inr h)) hn
    by_cases hi : FT.rung a = FT.infR ∨ FT.rung b = FT.infR
    · exact fused_inf_ab w a b c ha hb hc na nb nc hi
    · have ka : ¬ FT.infR < FT.rung a := of_decide_eq_false na
      have kb : ¬ FT.infR < FT.rung b := of_decide_eq_false nb
      have kc : ¬ FT.infR < FT.rung c := of_decide_eq_false nc
      by_cases hic : FT.rung c = FT.infR
      · refine (fused_cinf w a b c ha hb hc (by omega) (by omega) hic).mono fun e w' h => ?_
        obtain ⟨rfl, g⟩ := h
        have hf := fma_cinf hc (show FT.rung a < FT.infR by omega) (show FT.rung b < FT.infR by omega) hic
        exact ⟨_, rfl, g, (by intro q hq'; rw [hf] at hq'; exact Option.some.inj hq'), (by intro hx; rw [hf] at hx; cases hx)⟩
      · exact fused_fin w a b c ha hb hc (by omega) (by omega) (by omega)
end Go.Proofs.YtkelfdhpekkiaacDoor
namespace Go.Proofs.YtkelfdhpekkiaacDoor
open Go.ChangeShapes Go.WideShapes Go.ChangeAt Go.RowKit
open BN
open EA (Z)

theorem lt_max (b : Nat) : (FloatKind.f64.format.order (FT.rung b) 9218868437227405311 == some .lt) = decide (FT.rung b < 9218868437227405311) := FT.lt_const b _ (by unfold FT.infR; omega)
theorem eq_max (b : Nat) : (FloatKind.f64.format.order (FT.rung b) 9218868437227405311 == some .eq) = decide (FT.rung b = 9218868437227405311) := by
  have hc' : (9218868437227405311 : Nat) < 2 ^ 63 := by omega
  rw [FT.ord_f, FT.nan_rung, FT.key_rung, FT.key_small hc']
  have hn : FT.nan 9218868437227405311 = false := by decide
  rw [hn]
  by_cases h1 : FT.nan b = true
  · have h2 : ¬ FT.rung b = 9218868437227405311 := by
      have : FT.infR < FT.rung b := of_decide_eq_true h1
      unfold FT.infR at this
      omega
    rw [h1, decide_eq_false h2]; rfl
  · have h1' : FT.nan b = false := by cases h : FT.nan b; rfl; exact absurd h h1
    rw [h1']
    by_cases h2 : FT.rung b = 9218868437227405311
    · rw [h2, decide_eq_true rfl]; decide
    · rw [decide_eq_false h2]
      rcases Nat.lt_or_gt_of_ne h2 with h | h
      · have := FT.cmp_lt (a := (FT.rung b : Int)) (b := ((9218868437227405311 : Nat) : Int)) (by omega)
        rw [this]; rfl
      · have := FT.cmp_gt (a := (FT.rung b : Int)) (b := ((9218868437227405311 : Nat) : Int)) (by omega)
        rw [this]; rfl

theorem finite_t (w : World) (b n : Nat) (xs : List Nat) (hn : n ≤ 3) (hx : xs.length = n) (hx2 : ∀ x ∈ xs, x < 2 ^ 64) (hb : b < w.heap.size) (hr : ∀ i, i < n → w.cell? ⟨b, i, none⟩ = some (.float .f64 (xs.getD i 0))) :
    Calls Tryd.prog 26 #[.slice (some ⟨b, 0, none⟩) n n] w fun e w' => e = .returned (.bool (xs.all fun x => decide (FT.rung x < FT.infR))) ∧ G w w' := by
  have HR : Hid _ := hr
  have HX : Hid _ := hx
  have HX2 : Hid _ := hx2
  have HB : Hid _ := hb
  clear hr hx hx2 hb
  go_enter Tryd.func26, Tryd.ntmps26
  go_wp2_with fail
  go_loopw [7] (fun vk wr => ∃ k : Nat, k ≤ n ∧ vk = .int .i64 k ∧ (xs.take k).all (fun x => decide (FT.rung x < FT.infR)) = true ∧ G w wr) (fun vk _ => n - (intOf vk).toNat)
  case atStart => exact ⟨0, by omega, rfl, by simp, G.refl _⟩
  case round =>
    obtain ⟨k, hk, rfl, hv, hG⟩ := hrel
    have HV : Hid _ := hv
    clear hv
    by_cases hkn : k = n
    · subst hkn
      have ht : decide ((k : Int) < (k : Int)) = false := by simp
      go_wp2_with fail
      go_ret
      have h := HV.out
      rw [List.take_of_length_le (by rw [HX.out]; exact Nat.le_refl _)] at h
      exact ⟨ret_bool h.symm, hG⟩
    · have ht : decide (k < n) = true := by simp; omega
      have hc := hG.cell (p := ⟨b, k, none⟩) HB.out (HR.out k (by omega))
      have hkl : k < xs.length := by rw [HX.out]; omega
      have hmem : xs.getD k 0 < 2 ^ 64 := HX2.out _ (by rw [List.getD_eq_getElem?_getD, List.getElem?_eq_getElem hkl]; exact List.getElem_mem hkl)
      have hsucc : xs.take (k + 1) = xs.take k ++ [xs.getD k 0] := by rw [List.take_add_one, List.getD_eq_getElem?_getD, List.getElem?_eq_getElem hkl]; rfl
      have HA : Hid _ := fun w => abs_c (xs.getD k 0) w hmem
      have HS : Hid _ := hsucc
      have hdrop : decide (FT.rung (xs.getD k 0) < FT.infR) = false → xs.all (fun x => decide (FT.rung x < FT.infR)) = false := by
        intro h
        rw [List.all_eq_false]
        exact ⟨xs.getD k 0, by rw [List.getD_eq_getElem?_getD, List.getElem?_eq_getElem hkl]; exact List.getElem_mem hkl, by rw [h]; simp⟩
      have HD : Hid _ := hdrop
      clear hsucc hmem hkl hdrop
      generalize xs.getD k 0 = x at *
      have hkb : (k : Int) < n := by omega
      go_wp2_with fail
      refine Calls.mono (P := Tryd.prog) (HA.out _) ?_
      rintro e w1 ⟨rfl, g1⟩
      have hG1 := G.trans hG g1
      have l1 := lt_max x
      have l2 := eq_max x
      clear HR HX HX2 HB hc g1 hG HA
      by_cases hf : FT.rung x < FT.infR
      · have hrel : ∃ k_1 : Nat, k_1 ≤ n ∧ Value.int IntKind.i64 ((k : Int) + 1) = Value.int IntKind.i64 (k_1 : Int) ∧ ((List.take k_1 xs).all fun x => decide (FT.rung x < FT.infR)) = true ∧ G w w1 :=
          ⟨k + 1, by omega, rfl, by rw [HS.out, List.all_append, HV.out]; simp [hf], hG1⟩
        have HREL : Hid _ := hrel
        clear hrel HV HS HD
        by_cases hm : FT.rung x < 9218868437227405311
        · rw [decide_eq_true hm] at l1
          clear hf hm
          go_wp2_with fail
          go_roundw
          case rel => exact HREL.out
          case measure => simp [intOf]; omega
        · rw [decide_eq_false hm] at l1
          rw [decide_eq_true (by unfold FT.infR at hf; omega)] at l2
          clear hf hm
          go_wp2_with fail
          go_roundw
          case rel => exact HREL.out
          case measure => simp [intOf]; omega
      · rw [decide_eq_false (by unfold FT.infR at hf; omega)] at l1 l2
        have hall := HD.out (decide_eq_false hf)
        have HALL : Hid _ := hall
        clear hf hall HD HS HV
        go_wp2_with fail
        go_ret
        exact ⟨ret_bool HALL.out.symm, hG1⟩
end Go.Proofs.YtkelfdhpekkiaacDoor
namespace Go.Proofs.YtkelfdhpekkiaacDoor
open Go.ChangeShapes Go.WideShapes Go.ChangeAt Go.RowKit
open BN
open EA (Z Low)

/-- What Whole tells of a finite float. -/
theorem whole_any (x : Nat) (h0 : x < 2 ^ 64) (hf : FT.rung x < FT.infR) : ∃ (m d : Int) (mm i : Nat), (∀ w, Tab w → Calls Tryd.prog 57 #[.float .f64 x] w fun e w' => e = .returned (.tuple #[.int .i64 m, .int .i64 d, .int .i64 0]) ∧ G w w') ∧
    (i : Int) = d + 1074 ∧ Low x mm i ∧ (mm = 0 ∨ mm % 2 = 1) ∧ d ≤ 2000 ∧ (mm = 0 → d = 0) := by
  obtain ⟨mag, ex, h⟩ := Fin64.of h0 hf
  have hv := EA.fin_v h
  rw [← EA.Z_abs] at hv
  have hml := h.mag_lt
  by_cases hz : mag = 0
  · obtain ⟨u, hu⟩ : ∃ u, u = 1074 := ⟨_, rfl⟩
    have hm := h.magf
    have hrf := FT.rung_fields x
    have he0 : ex = 0 := by
      by_cases he : ex = 0
      · exact he
      · rw [if_neg he] at hm; omega
    have hfr : x % 2 ^ 52 = 0 := by rw [if_pos he0] at hm; omega
    refine ⟨0, 0, 0, u, fun w _ => whole_zero_c x w h0 (by rw [h.exf, he0]) hfr, by omega, ⟨?_, by omega⟩, Or.inl rfl, by omega, fun _ => rfl⟩
    rw [hv, hz, Nat.zero_mul, Nat.zero_mul]
  · obtain ⟨j, k, hj⟩ := FT.odd_part mag hz
    have hex := h.exl
    have hk : k ≤ 53 := by
      have : 2 ^ k ≤ mag := by rw [hj]; exact Nat.le_mul_of_pos_left _ (by omega)
      have : 2 ^ k < 2 ^ 53 := by omega
      have := (Nat.pow_lt_pow_iff_right (by omega : 1 < 2)).1 this
      omega
    refine ⟨_, _, 2 * j + 1, max ex 1 - 1 + k, fun w ht => whole_c x ex (x % 2 ^ 52) mag j k w ht h0 h.exf rfl h.exl h.magf hj, by omega, ⟨?_, ?_⟩, Or.inr (by omega), by omega, fun h => by omega⟩
    · rw [hv, hj, Nat.mul_assoc, ← Nat.pow_add, Nat.add_comm k]
    · have : (2 * j + 1) * 1 ≤ (2 * j + 1) * 2 ^ k := Nat.mul_le_mul_left _ (Nat.two_pow_pos k)
      omega

/-- Has a product no digit lower than floats have? -/
def holdsV (u x y : Nat) (b : Bool) : Prop := (b = true → ∃ m i n j, Low x m i ∧ Low y n j ∧ u ≤ i + j) ∧ (b = false → ∀ g : Int, Z x * Z y ≠ g * ((2 ^ u : Nat) : Int))

theorem odd_not {m n i j u : Nat} {z g : Int} (hm : m % 2 = 1) (hn : n % 2 = 1) (hu : i + j < u) (hz : z.natAbs = m * 2 ^ i * (n * 2 ^ j)) : z ≠ g * ((2 ^ u : Nat) : Int) := by
  intro h
  have h1 := congrArg Int.natAbs h
  rw [Int.natAbs_mul, Int.natAbs_natCast, hz] at h1
  have h2 : m * 2 ^ i * (n * 2 ^ j) = m * n * 2 ^ (i + j) := by rw [Nat.pow_add]; ac_rfl
  have h3 : g.natAbs * 2 ^ u = g.natAbs * 2 ^ (u - (i + j) - 1) * 2 * 2 ^ (i + j) := by
    rw [Nat.mul_assoc, Nat.mul_assoc, ← Nat.pow_succ', ← Nat.pow_add]
    congr 2
    omega
  rw [h2, h3] at h1
  have h4 := Nat.mul_right_cancel (Nat.two_pow_pos _) h1
  have h5 : m * n % 2 = 1 := by rw [Nat.mul_mod, hm, hn]
  omega

theorem holds_t (u x y : Nat) (hu : u = 1074) (hx : x < 2 ^ 64) (hy : y < 2 ^ 64) (fx : FT.rung x < FT.infR) (fy : FT.rung y < FT.infR) : ∃ b, holdsV u x y b ∧ ∀ w, Tab w →
    Calls Tryd.prog 35 #[.float .f64 x, .float .f64 y] w fun e w' => e = .returned (.bool b) ∧ G w w' := by
  obtain ⟨m1, d1, mm1, i1, W1, e1, L1, o1, b1, z1⟩ := whole_any x hx fx
  obtain ⟨m2, d2, mm2, i2, W2, e2, L2, o2, b2, z2⟩ := whole_any y hy fy
  refine ⟨decide (-1074 ≤ d1 + d2), ⟨fun h => ⟨mm1, i1, mm2, i2, L1, L2, ?_⟩, fun h g => ?_⟩, fun w ht => ?_⟩
  · have := of_decide_eq_true h
    omega
  · have := of_decide_eq_false h
    refine odd_not (m := mm1) (n := mm2) (i := i1) (j := i2) ?_ ?_ (by omega) ?_
    · rcases o1 with o | o
      · have := z1 o; omega
      · exact o
    · rcases o2 with o | o
      · have := z2 o; omega
      · exact o
    · rw [Int.natAbs_mul, L1.eq, L2.eq]
  · have W1 : Hid _ := W1
    have W2 : Hid _ := W2
    have hw : wrap64 (d1 + d2) = d1 + d2 := IntWalk.wrap64_in _ (by omega)
    have hge : (-1074 : Int) ≤ d1 ∧ (-1074 : Int) ≤ d2 := by omega
    clear o1 o2 L1 L2 z1 z2 e1 e2
    go_enter Tryd.func35, Tryd.ntmps35
    go_wp2_with fail
    refine Calls.mono (P := Tryd.prog) (W1.out _ ht) ?_
    rintro e w1 ⟨rfl, g1⟩
    have ht1 := ht.G g1
    clear ht
    go_wp2_with fail
    refine Calls.mono (P := Tryd.prog) (W2.out _ ht1) ?_
    rintro e w2 ⟨rfl, g2⟩
    have g12 := G.trans g1 g2
    clear ht1 g1 g2
    go_wp2
    go_ret
    exact ⟨rfl, g12⟩
end Go.Proofs.YtkelfdhpekkiaacDoor
namespace Go.Proofs.YtkelfdhpekkiaacDoor
open Go.ChangeShapes Go.WideShapes Go.ChangeAt Go.RowKit
open BN
open EA (Z Low Is RnZ)

def fin (x : Nat) : Bool := decide (FT.rung x < FT.infR)
theorem fin3 (w : World) (a b s : Nat) (ha : a < 2 ^ 64) (hb : b < 2 ^ 64) (hs : s < 2 ^ 64) (t : TypeId) :
    Calls Tryd.prog 26 #[.slice (some ⟨w.heap.size, 0, none⟩) 3 3] (w.alloc (.cells #[.float .f64 a, .float .f64 b, .float .f64 s] t)) fun e w' => e = .returned (.bool (fin a && (fin b && fin s))) ∧ G w w' := by
  refine (finite_t (w.alloc (.cells #[.float .f64 a, .float .f64 b, .float .f64 s] t)) w.heap.size 3 [a, b, s] (by omega) rfl (by intro x hx; simp at hx; omega) (by simp) ?_).mono ?_
  · intro i hi
    have hc : i = 0 ∨ i = 1 ∨ i = 2 := by omega
    rcases hc with rfl | rfl | rfl <;> rw [World.cell?_alloc_at _ _ _ _ rfl] <;> rfl
  · rintro e w' ⟨rfl, g⟩
    exact ⟨by simp [fin], G.trans ((G.refl w).alloc _) g⟩
theorem fin2 (w : World) (a b : Nat) (ha : a < 2 ^ 64) (hb : b < 2 ^ 64) (t : TypeId) :
    Calls Tryd.prog 26 #[.slice (some ⟨w.heap.size, 0, none⟩) 2 2] (w.alloc (.cells #[.float .f64 a, .float .f64 b] t)) fun e w' => e = .returned (.bool (fin a && fin b)) ∧ G w w' := by
  refine (finite_t (w.alloc (.cells #[.float .f64 a, .float .f64 b] t)) w.heap.size 2 [a, b] (by omega) rfl (by intro x hx; simp at hx; omega) (by simp) ?_).mono ?_
  · intro i hi
    have hc : i = 0 ∨ i = 1 := by omega
    rcases hc with rfl | rfl <;> rw [World.cell?_alloc_at _ _ _ _ rfl] <;> rfl
  · rintro e w' ⟨rfl, g⟩
    exact ⟨by simp [fin], G.trans ((G.refl w).alloc _) g⟩

theorem lt_rungs {a b : Nat} (fb : FT.rung b < FT.infR) : (FloatKind.f64.format.order (FT.rung a) (FT.rung b) == some .lt) = decide (FT.rung a < FT.rung b) := by
  have := FT.lt_const a (FT.rung b) fb
  exact this

theorem ret_3 {s s' e e' : Nat} {x : Bool} (h1 : s = s') (h2 : e = e') : Ending.returned (.tuple #[.float .f64 s, .float .f64 e, .bool x]) = .returned (.tuple #[.float .f64 s', .float .f64 e', .bool x]) := by rw [h1, h2]

set_option maxRecDepth 100000 in
theorem sum_t (a b s : Nat) (ha : a < 2 ^ 64) (hb : b < 2 ^ 64) (fa : FT.rung a < FT.infR) (fb : FT.rung b < FT.infR) (hs : Ieee.double.add a b = some s) (fs : FT.rung s < FT.infR) : ∃ x, Is x (Z a + Z b - Z s) ∧ ∀ w,
    Calls Tryd.prog 7 #[.float .f64 a, .float .f64 b] w fun e w' => e = .returned (.tuple #[.float .f64 s, .float .f64 x, .bool true]) ∧ G w w' := by
  obtain ⟨s', hs', hr⟩ := EA.add_Z ha hb fa fb
  rw [hs] at hs'
  obtain rfl : s = s' := Option.some.inj hs'
  have hadd := fun (w : World) => run_float_arith (P := Tryd.prog) w .add 22 .f64 a b s hs
  have HF : Hid _ := fun w t => fin3 w a b s ha hb hr.1 t
  rw [show fin a = true from decide_eq_true fa, show fin b = true from decide_eq_true fb, show fin s = true from decide_eq_true fs] at HF
  have A1 : Hid _ := fun w => abs_c a w ha
  have A2 : Hid _ := fun w => abs_c b w hb
  have hl := lt_rungs (a := a) fb
  by_cases hlt : FT.rung a < FT.rung b
  · rw [decide_eq_true hlt] at hl
    have hle : (Z a).natAbs ≤ (Z b).natAbs := by rw [EA.Z_abs, EA.Z_abs]; exact FT.v_le.2 (by omega)
    rw [show Z a + Z b = Z b + Z a from by omega] at hr
    obtain ⟨t, x, h1, h2, h3, h4, h5⟩ := EA.sum_err hb ha fb fa hle hr fs
    rw [show Z b + Z a - Z s = Z a + Z b - Z s from by omega] at h5
    have s1 := fun (w : World) => run_float_arith (P := Tryd.prog) w .sub 22 .f64 s b t h1
    have s2 := fun (w : World) => run_float_arith (P := Tryd.prog) w .sub 22 .f64 a t x h2
    refine ⟨x, h5, fun w => ?_⟩
    clear h5 h1 h2 h3 h4 hle hlt hr hs' hs fa fb fs ha hb
    go_enter Tryd.func7, Tryd.ntmps7
    go_wp2_with fail
    refine Calls.mono (P := Tryd.prog) (HF.out _ _) ?_
    rintro e w1 ⟨rfl, g1⟩
    go_wp2_with fail
    refine Calls.mono (P := Tryd.prog) (A1.out _) ?_
    rintro e w2 ⟨rfl, g2⟩
    go_wp2_with fail
    refine Calls.mono (P := Tryd.prog) (A2.out _) ?_
    rintro e w3 ⟨rfl, g3⟩
    go_wp2
    go_ret3
    exact ⟨rfl, G.trans (G.trans g1 g2) g3⟩
  · rw [decide_eq_false hlt] at hl
    have hle : (Z b).natAbs ≤ (Z a).natAbs := by rw [EA.Z_abs, EA.Z_abs]; exact FT.v_le.2 (by omega)
    obtain ⟨t, x, h1, h2, h3, h4, h5⟩ := EA.sum_err ha hb fa fb hle hr fs
    have s1 := fun (w : World) => run_float_arith (P := Tryd.prog) w .sub 22 .f64 s a t h1
    have s2 := fun (w : World) => run_float_arith (P := Tryd.prog) w .sub 22 .f64 b t x h2
    refine ⟨x, h5, fun w => ?_⟩
    clear h5 h1 h2 h3 h4 hle hlt hr hs' hs fa fb fs ha hb
    go_enter Tryd.func7, Tryd.ntmps7
    go_wp2_with fail
    refine Calls.mono (P := Tryd.prog) (HF.out _ _) ?_
    rintro e w1 ⟨rfl, g1⟩
    go_wp2_with fail
    refine Calls.mono (P := Tryd.prog) (A1.out _) ?_
    rintro e w2 ⟨rfl, g2⟩
    go_wp2_with fail
    refine Calls.mono (P := Tryd.prog) (A2.out _) ?_
    rintro e w3 ⟨rfl, g3⟩
    go_wp2
    go_ret3
    exact ⟨rfl, G.trans (G.trans g1 g2) g3⟩

/-- A float operation on any words: what it gives, and where it has no answer a word that is no number. -/
def Any (o : Option Nat) (r : Nat) : Prop := r < 2 ^ 64 ∧ (∀ q, o = some q → r = q) ∧ (o = none → FT.nan r = true)
theorem arith_any (op : BinOp) (t : TypeId) (x y : Nat) (ho : op = .add ∨ op = .sub ∨ op = .mul ∨ op = .quo) (hlt : ∀ q, floatBits op .f64 x y = some q → q < 2 ^ 64) (w : World) :
    ∃ r w', (binOp op t (.float .f64 x) (.float .f64 y)).run Tryd.prog w = .ok (.float .f64 r) w' ∧ G w w' ∧ Any (floatBits op .f64 x y) r := by
  cases h : floatBits op .f64 x y with
  | none => exact ⟨_, _, run_float_none w op t x y h ho, (G.refl w).drew, nanAt_lt _ _ _, fun q hq => (by cases hq), fun _ => nanAt_nan _ _ _⟩
  | some q => exact ⟨q, w, run_float_arith w op t .f64 x y q h, G.refl w, hlt q h, fun q' hq => Option.some.inj hq, fun hn => (by cases hn)⟩

set_option maxRecDepth 100000 in
theorem sum_no (a b : Nat) (ha : a < 2 ^ 64) (hb : b < 2 ^ 64) (h : ∀ s, Any (Ieee.double.add a b) s → (fin a && (fin b && fin s)) = false) (w : World) :
    Calls Tryd.prog 7 #[.float .f64 a, .float .f64 b] w fun e w' => e = .returned (.tuple #[.float .f64 0, .float .f64 0, .bool false]) ∧ G w w' := by
  obtain ⟨s, w0, hadd, g0, hs⟩ := arith_any .add 22 a b (Or.inl rfl) (fun q hq => Ieee.Format.add_lt _ hq) w
  have HF : Hid _ := fun w t => fin3 w a b s ha hb hs.1 t
  rw [h s hs] at HF
  clear h hs ha hb
  go_enter Tryd.func7, Tryd.ntmps7
  go_wp2_with fail
  refine Calls.mono (P := Tryd.prog) (HF.out _ _) ?_
  rintro e w1 ⟨rfl, g1⟩
  go_wp2
  go_ret3
  exact ⟨rfl, G.trans g0 g1⟩
end Go.Proofs.YtkelfdhpekkiaacDoor
namespace Go.Proofs.YtkelfdhpekkiaacDoor
open Go.ChangeShapes Go.WideShapes Go.ChangeAt Go.RowKit
open BN
open EA (Z Low Is RnZ)
attribute [local go_sem] frombits_r tobits_r unary_negf

theorem negf_facts (p : Nat) (hp : p < 2 ^ 64) : Op.negFloat .f64 p < 2 ^ 64 ∧ FT.rung (Op.negFloat .f64 p) = FT.rung p ∧ Z (Op.negFloat .f64 p) = -Z p := by
  rw [negFloat_eq p hp]
  unfold negV Z
  rcases FT.neg_cases p hp with ⟨h1, h2⟩ | ⟨h1, h2⟩
  · have hr := FT.rung_lt p
    rw [if_pos h1]
    have e : p - 2 ^ 63 = FT.rung p := by omega
    rw [e, FT.rung_rung, FT.neg_rung, h1]
    refine ⟨by omega, rfl, ?_⟩
    simp
  · have hr := FT.rung_lt p
    rw [if_neg (by rw [h1]; simp)]
    have e : p + 2 ^ 63 = FT.wrd true (FT.rung p) := by unfold FT.wrd; rw [if_pos rfl]; omega
    rw [e, FT.wrd_rung _ _ hr, FT.wrd_neg _ _ hr, h1]
    exact ⟨FT.wrd_lt _ _ hr, rfl, by simp⟩

set_option maxRecDepth 100000 in
theorem prod_t (a b p : Nat) (ha : a < 2 ^ 64) (hb : b < 2 ^ 64) (fa : FT.rung a < FT.infR) (fb : FT.rung b < FT.infR) (hp : Ieee.double.mul a b = some p) (hp2 : p < 2 ^ 64) (fp : FT.rung p < FT.infR) (x : Nat)
    (hx : Ieee.double.fma a b (Op.negFloat .f64 p) = some x) (HH : ∀ w, Tab w → Calls Tryd.prog 35 #[.float .f64 a, .float .f64 b] w fun e w' => e = .returned (.bool true) ∧ G w w') (w : World) (ht : Tab w) :
    Calls Tryd.prog 12 #[.float .f64 a, .float .f64 b] w fun e w' => e = .returned (.tuple #[.float .f64 p, .float .f64 x, .bool true]) ∧ G w w' := by
  have hmul := fun (w : World) => run_float_arith (P := Tryd.prog) w .mul 22 .f64 a b p hp
  have HF : Hid _ := fun w t => fin3 w a b p ha hb hp2 t
  rw [show fin a = true from decide_eq_true fa, show fin b = true from decide_eq_true fb, show fin p = true from decide_eq_true fp] at HF
  have HH : Hid _ := HH
  have hfma := fma_r a b _ x hx
  clear hx ha hb hp2 fa fb fp hp
  go_enter Tryd.func12, Tryd.ntmps12
  go_wp2_with fail
  refine Calls.mono (P := Tryd.prog) (HF.out _ _) ?_
  rintro e w1 ⟨rfl, g1⟩
  have ht1 := ht.G g1
  go_wp2_with fail
  refine Calls.mono (P := Tryd.prog) (HH.out _ ht1) ?_
  rintro e w2 ⟨rfl, g2⟩
  clear ht ht1
  go_wp2
  go_ret3
  exact ⟨rfl, G.trans g1 g2⟩

set_option maxRecDepth 100000 in
theorem prod_no (a b : Nat) (ha : a < 2 ^ 64) (hb : b < 2 ^ 64) (h : ∀ s, Any (Ieee.double.mul a b) s → (fin a && (fin b && fin s)) = false) (w : World) :
    Calls Tryd.prog 12 #[.float .f64 a, .float .f64 b] w fun e w' => e = .returned (.tuple #[.float .f64 0, .float .f64 0, .bool false]) ∧ G w w' := by
  obtain ⟨s, w0, hadd, g0, hs⟩ := arith_any .mul 22 a b (Or.inr (Or.inr (Or.inl rfl))) (fun q hq => Ieee.Format.mul_lt _ hq) w
  have HF : Hid _ := fun w t => fin3 w a b s ha hb hs.1 t
  rw [h s hs] at HF
  clear h hs ha hb
  go_enter Tryd.func12, Tryd.ntmps12
  go_wp2_with fail
  refine Calls.mono (P := Tryd.prog) (HF.out _ _) ?_
  rintro e w1 ⟨rfl, g1⟩
  go_wp2
  go_ret3
  exact ⟨rfl, G.trans g0 g1⟩
set_option maxRecDepth 100000 in
theorem prod_low (a b p : Nat) (ha : a < 2 ^ 64) (hb : b < 2 ^ 64) (fa : FT.rung a < FT.infR) (fb : FT.rung b < FT.infR) (hp : Ieee.double.mul a b = some p) (hp2 : p < 2 ^ 64) (fp : FT.rung p < FT.infR)
    (HH : ∀ w, Tab w → Calls Tryd.prog 35 #[.float .f64 a, .float .f64 b] w fun e w' => e = .returned (.bool false) ∧ G w w') (w : World) (ht : Tab w) :
    Calls Tryd.prog 12 #[.float .f64 a, .float .f64 b] w fun e w' => e = .returned (.tuple #[.float .f64 0, .float .f64 0, .bool false]) ∧ G w w' := by
  have hmul := fun (w : World) => run_float_arith (P := Tryd.prog) w .mul 22 .f64 a b p hp
  have HF : Hid _ := fun w t => fin3 w a b p ha hb hp2 t
  rw [show fin a = true from decide_eq_true fa, show fin b = true from decide_eq_true fb, show fin p = true from decide_eq_true fp] at HF
  have HH : Hid _ := HH
  clear ha hb hp2 fa fb fp hp
  go_enter Tryd.func12, Tryd.ntmps12
  go_wp2_with fail
  refine Calls.mono (P := Tryd.prog) (HF.out _ _) ?_
  rintro e w1 ⟨rfl, g1⟩
  have ht1 := ht.G g1
  go_wp2_with fail
  refine Calls.mono (P := Tryd.prog) (HH.out _ ht1) ?_
  rintro e w2 ⟨rfl, g2⟩
  clear ht ht1
  go_wp2
  go_ret3
  exact ⟨rfl, G.trans g1 g2⟩

/-! Quotients. -/
set_option maxRecDepth 100000 in
theorem quo_t (a b q : Nat) (ha : a < 2 ^ 64) (hb : b < 2 ^ 64) (fa : FT.rung a < FT.infR) (fb : FT.rung b < FT.infR) (hq : Ieee.double.div a b = some q) (hq2 : q < 2 ^ 64) (fq : FT.rung q < FT.infR) (x : Nat)
    (hx : Ieee.double.fma (Op.negFloat .f64 q) b a = some x) (HH : ∀ w, Tab w → Calls Tryd.prog 35 #[.float .f64 q, .float .f64 b] w fun e w' => e = .returned (.bool true) ∧ G w w') (w : World) (ht : Tab w) :
    Calls Tryd.prog 15 #[.float .f64 a, .float .f64 b] w fun e w' => e = .returned (.tuple #[.float .f64 q, .float .f64 x, .bool true]) ∧ G w w' := by
  have hmul := fun (w : World) => run_float_arith (P := Tryd.prog) w .quo 22 .f64 a b q hq
  have HF : Hid _ := fun w t => fin3 w a b q ha hb hq2 t
  rw [show fin a = true from decide_eq_true fa, show fin b = true from decide_eq_true fb, show fin q = true from decide_eq_true fq] at HF
  have HH : Hid _ := HH
  have hfma := fma_r _ b a x hx
  clear hx ha hb hq2 fa fb fq hq
  go_enter Tryd.func15, Tryd.ntmps15
  go_wp2_with fail
  refine Calls.mono (P := Tryd.prog) (HF.out _ _) ?_
  rintro e w1 ⟨rfl, g1⟩
  have ht1 := ht.G g1
  go_wp2_with fail
  refine Calls.mono (P := Tryd.prog) (HH.out _ ht1) ?_
  rintro e w2 ⟨rfl, g2⟩
  clear ht ht1
  go_wp2
  go_ret3
  exact ⟨rfl, G.trans g1 g2⟩
set_option maxRecDepth 100000 in
theorem quo_no (a b : Nat) (ha : a < 2 ^ 64) (hb : b < 2 ^ 64) (h : ∀ s, Any (Ieee.double.div a b) s → (fin a && (fin b && fin s)) = false) (w : World) :
    Calls Tryd.prog 15 #[.float .f64 a, .float .f64 b] w fun e w' => e = .returned (.tuple #[.float .f64 0, .float .f64 0, .bool false]) ∧ G w w' := by
  obtain ⟨s, w0, hadd, g0, hs⟩ := arith_any .quo 22 a b (Or.inr (Or.inr (Or.inr rfl))) (fun q hq => Ieee.Format.div_lt _ hq) w
  have HF : Hid _ := fun w t => fin3 w a b s ha hb hs.1 t
  rw [h s hs] at HF
  clear h hs ha hb
  go_enter Tryd.func15, Tryd.ntmps15
  go_wp2_with fail
  refine Calls.mono (P := Tryd.prog) (HF.out _ _) ?_
  rintro e w1 ⟨rfl, g1⟩
  go_wp2
  go_ret3
  exact ⟨rfl, G.trans g0 g1⟩
set_option maxRecDepth 100000 in
theorem quo_low (a b q : Nat) (ha : a < 2 ^ 64) (hb : b < 2 ^ 64) (fa : FT.rung a < FT.infR) (fb : FT.rung b < FT.infR) (hq : Ieee.double.div a b = some q) (hq2 : q < 2 ^ 64) (fq : FT.rung q < FT.infR)
    (HH : ∀ w, Tab w → Calls Tryd.prog 35 #[.float .f64 q, .float .f64 b] w fun e w' => e = .returned (.bool false) ∧ G w w') (w : World) (ht : Tab w) :
    Calls Tryd.prog 15 #[.float .f64 a, .float .f64 b] w fun e w' => e = .returned (.tuple #[.float .f64 0, .float .f64 0, .bool false]) ∧ G w w' := by
  have hmul := fun (w : World) => run_float_arith (P := Tryd.prog) w .quo 22 .f64 a b q hq
  have HF : Hid _ := fun w t => fin3 w a b q ha hb hq2 t
  rw [show fin a = true from decide_eq_true fa, show fin b = true from decide_eq_true fb, show fin q = true from decide_eq_true fq] at HF
  have HH : Hid _ := HH
  clear ha hb hq2 fa fb fq hq
  go_enter Tryd.func15, Tryd.ntmps15
  go_wp2_with fail
  refine Calls.mono (P := Tryd.prog) (HF.out _ _) ?_
  rintro e w1 ⟨rfl, g1⟩
  have ht1 := ht.G g1
  go_wp2_with fail
  refine Calls.mono (P := Tryd.prog) (HH.out _ ht1) ?_
  rintro e w2 ⟨rfl, g2⟩
  clear ht ht1
  go_wp2
  go_ret3
  exact ⟨rfl, G.trans g1 g2⟩
end Go.Proofs.YtkelfdhpekkiaacDoor
namespace Go.Proofs.YtkelfdhpekkiaacDoor
open Go.ChangeShapes Go.WideShapes Go.ChangeAt Go.RowKit
open BN
open EA (Z Low Is RnZ)

theorem key_Z {x : Nat} : FT.key x = 0 ∧ Z x = 0 ∨ (0 < FT.key x ∧ FT.key x = FT.rung x ∧ Z x = FT.v (FT.rung x)) ∨ (FT.key x < 0 ∧ FT.key x = -(FT.rung x : Int) ∧ Z x = -(FT.v (FT.rung x) : Int)) := by
  unfold FT.key Z
  by_cases h0 : FT.rung x = 0
  · left; rw [h0, EA.v_zero]; simp
  · right
    cases FT.neg x <;> simp <;> omega
theorem eqZ {x y : Nat} (fx : FT.rung x < FT.infR) (fy : FT.rung y < FT.infR) : (FloatKind.f64.format.order x y == some .eq) = decide (Z x = Z y) := by
  rw [FT.ord_f, show FT.nan x = false from decide_eq_false (by omega), show FT.nan y = false from decide_eq_false (by omega)]
  have hk : FT.key x = FT.key y ↔ Z x = Z y := by
    have h0 : ∀ r, 0 < r → 0 < FT.v r := fun r h => by have := FT.v_lt h; rw [EA.v_zero] at this; exact this
    have p1 := h0 (FT.rung x)
    have p2 := h0 (FT.rung y)
    have e1 : FT.rung x = FT.rung y → FT.v (FT.rung x) = FT.v (FT.rung y) := fun h => by rw [h]
    have e2 : FT.v (FT.rung x) = FT.v (FT.rung y) → FT.rung x = FT.rung y := FT.v_inj
    rcases key_Z (x := x) with ⟨a1, a2⟩ | ⟨a1, a2, a3⟩ | ⟨a1, a2, a3⟩ <;> rcases key_Z (x := y) with ⟨b1, b2⟩ | ⟨b1, b2, b3⟩ | ⟨b1, b2, b3⟩ <;> constructor <;> intro h <;> omega
  by_cases h : Z x = Z y
  · rw [decide_eq_true h, hk.2 h]; simp
  · rw [decide_eq_false h]
    rcases Int.lt_or_gt_of_ne (fun e => h (hk.1 e)) with hl | hl
    · rw [FT.cmp_lt hl]; rfl
    · rw [FT.cmp_gt hl]; rfl

theorem holds_far {u x y m n e f : Nat} {b s t : Bool} (hx : Fin64 x s m e) (hy : Fin64 y t n f) (h : u ≤ max e 1 - 1 + (max f 1 - 1)) (hb : holdsV u x y b) : b = true := by
  cases b
  · exfalso
    have hv := EA.fin_v hx
    have hw := EA.fin_v hy
    rw [← EA.Z_abs] at hv hw
    have habs : (Z x * Z y).natAbs = m * n * 2 ^ (max e 1 - 1 + (max f 1 - 1) - u) * 2 ^ u := by
      rw [Int.natAbs_mul, hv, hw, Nat.mul_assoc (m * n), ← Nat.pow_add, show max e 1 - 1 + (max f 1 - 1) - u + u = max e 1 - 1 + (max f 1 - 1) from by omega, Nat.pow_add]
      ac_rfl
    by_cases hneg : Z x * Z y < 0
    · refine hb.2 rfl (-((m * n * 2 ^ (max e 1 - 1 + (max f 1 - 1) - u) : Nat) : Int)) ?_
      rw [Int.neg_mul, ← Int.natCast_mul, ← habs]; omega
    · refine hb.2 rfl ((m * n * 2 ^ (max e 1 - 1 + (max f 1 - 1) - u) : Nat) : Int) ?_
      rw [← Int.natCast_mul, ← habs]; omega
  · rfl

set_option maxRecDepth 100000 in
theorem lost_c (w : World) (ht : Tab w) : Calls Tryd.prog 5 #[] w fun e w' => e = .returned (.bool true) ∧ G w w' := by
  obtain ⟨x, hx, HS⟩ := sum_t 4846369599423283200 4607182418800017408 4846369599423283200 (by omega) (by omega) (by decide) (by decide) (by kernel_rfl) (by decide)
  have hx1 : (FloatKind.f64.format.order x 4607182418800017408 == some .eq) = true := by
    rw [eqZ hx.fin (by decide)]
    refine decide_eq_true ?_
    rw [hx.val]; omega
  have hx2 := FT.eq_self 4846369599423283200
  rw [show FT.nan 4846369599423283200 = false from by decide] at hx2
  have hx3 := FT.eq_self 4607182418808406016
  rw [show FT.nan 4607182418808406016 = false from by decide] at hx3
  have hx4 := FT.eq_self 4336966441157787648
  rw [show FT.nan 4336966441157787648 = false from by decide] at hx4
  have hx5 := FT.eq_self 4621819117588971520
  rw [show FT.nan 4621819117588971520 = false from by decide] at hx5
  obtain ⟨u, hu⟩ : ∃ u, u = 1074 := ⟨_, rfl⟩
  have hF : Fin64 4607182418804211712 false (2 ^ 52 + 2 ^ 22) 1023 := ⟨by omega, by decide, by omega, by decide, by decide⟩
  obtain ⟨bb, hv, HH⟩ := holds_t u 4607182418804211712 4607182418804211712 hu (by omega) (by omega) (by decide) (by decide)
  obtain rfl := holds_far hF hF (by rw [hu]; decide) hv
  have HP : Hid _ := prod_t 4607182418804211712 4607182418804211712 4607182418808406016 (by omega) (by omega) (by decide) (by decide) (by kernel_rfl) (by omega) (by decide) 4336966441157787648 (by kernel_rfl) HH
  have HS : Hid _ := HS
  have HU : Hid _ := fused_c 4611686018427387904 4613937818241073152 4616189618054758400 4621819117588971520 (by kernel_rfl)
  clear hv HH hF hu hx
  go_enter Tryd.func5, Tryd.ntmps5
  go_wp2_with fail
  refine Calls.mono (P := Tryd.prog) (HS.out _) ?_
  rintro e w1 ⟨rfl, g1⟩
  have ht1 := ht.G g1
  go_wp2_with fail
  refine Calls.mono (P := Tryd.prog) (HP.out _ ht1) ?_
  rintro e w2 ⟨rfl, g2⟩
  clear ht ht1
  go_wp2_with fail
  refine Calls.mono (P := Tryd.prog) (HU.out _) ?_
  rintro e w3 ⟨rfl, g3⟩
  go_wp2_with fail
  go_ret
  exact ⟨rfl, G.trans (G.trans g1 g2) g3⟩

/-- THE LAW EftFused. -/
theorem law_fused (w : World) (a b c : Nat) (ha : a < 2 ^ 64) (hb : b < 2 ^ 64) (hc : c < 2 ^ 64) (ht : Tab w) :
    Calls Tryd.prog 4 #[.float .f64 a, .float .f64 b, .float .f64 c] w fun e w' => e = .returned (.bool true) ∧ G w w' := by
  have HL : Hid _ := lost_c w ht
  have HR : Hid _ := fun w => fused_ref w a b c ha hb hc
  have HB : Hid _ := fun x y w => bits_c x y w
  have HF : Hid (∀ w, Calls Tryd.prog 22 #[.float .f64 a, .float .f64 b, .float .f64 c] w fun e w' => ∃ r, e = .returned (.float .f64 r) ∧ G w w' ∧ ∀ r2 w1 w2 e2, RetFma a b c w1 e2 w2 → e2 = .returned (.float .f64 r2) → same r r2 = true) := by
    intro w
    cases h : Ieee.double.fma a b c with
    | some r =>
      refine (fused_c a b c r h w).mono ?_
      rintro e w' ⟨rfl, g⟩
      refine ⟨r, rfl, g, fun r2 w1 w2 e2 hr he => ?_⟩
      obtain ⟨q, he2, -, h1, -⟩ := hr
      rw [he] at he2
      injection he2 with he2
      injection he2 with _ he2
      rw [he2, h1 r h]
      unfold same; simp
    | none =>
      refine (fused_n a b c h w).mono ?_
      rintro e w' ⟨r, rfl, -, hn, g⟩
      refine ⟨r, rfl, g, fun r2 w1 w2 e2 hr he => ?_⟩
      obtain ⟨q, he2, -, -, h1⟩ := hr
      rw [he] at he2
      injection he2 with he2
      injection he2 with _ he2
      rw [he2]
      unfold same
      rw [hn, h1 h]; simp
  clear ht ha hb hc
  go_enter Tryd.func4, Tryd.ntmps4
  go_wp2_with fail
  refine Calls.mono (P := Tryd.prog) HL.out ?_
  rintro e w1 ⟨rfl, g1⟩
  go_wp2_with fail
  refine Calls.mono (P := Tryd.prog) (HF.out _) ?_
  rintro e w2 ⟨r, rfl, g2, hs⟩
  have HS : Hid _ := hs
  clear hs HF
  go_wp2_with fail
  refine Calls.mono (P := Tryd.prog) (HR.out _) ?_
  intro e w3 hr
  have HRR : Hid _ := hr
  obtain ⟨r2, rfl, g3, -, -⟩ := hr
  have hsame := HS.out r2 _ _ _ HRR.out rfl
  have HB2 : Hid _ := HB.out r r2
  rw [hsame] at HB2
  clear HS HRR hsame HB
  go_wp2_with fail
  refine Calls.mono (P := Tryd.prog) (HB2.out _) ?_
  rintro e w4 ⟨rfl, g4⟩
  go_wp2_with fail
  go_ret
  exact ⟨rfl, G.trans (G.trans (G.trans g1 g2) g3) g4⟩
end Go.Proofs.YtkelfdhpekkiaacDoor
namespace Go.Proofs.YtkelfdhpekkiaacDoor
open Go.ChangeShapes Go.WideShapes Go.ChangeAt Go.RowKit
open BN
open EA (Z Low Is RnZ)
attribute [local go_sem] frombits_r tobits_r unary_negf

theorem sqrt_unfold (x : Nat) : ∀ o, Ieee.double.sqrt x = o → Extern.MathSqrt.sqrt #[.float .f64 x] = (match o with
    | some r => pure (Value.float .f64 r)
    | none => do pure (Value.float .f64 (← choose (.nanBits .f64 x x)))) := by
  intro o h
  subst h
  rfl
theorem sqrt_r (x r : Nat) (h : Ieee.double.sqrt x = some r) (w : World) :
    (callFunc 38 #[.float .f64 x]).run Tryd.prog w = .ok (.value (.float .f64 r)) w := by
  rw [run_callFunc_extern Tryd.func38 (by kernel_rfl) (by kernel_rfl) (by kernel_rfl) (e := Extern.MathSqrt.sqrt) (by kernel_rfl), sqrt_unfold x _ h]
  rfl
theorem sqrt_n (x : Nat) (h : Ieee.double.sqrt x = none) (w : World) :
    (callFunc 38 #[.float .f64 x]).run Tryd.prog w = .ok (.value (.float .f64 (nanAt x x w))) w.drew := by
  rw [run_callFunc_extern Tryd.func38 (by kernel_rfl) (by kernel_rfl) (by kernel_rfl) (e := Extern.MathSqrt.sqrt) (by kernel_rfl), sqrt_unfold x _ h]
  rfl
theorem sqrt_any (x : Nat) (w : World) : Calls Tryd.prog 20 #[.float .f64 x] w fun e w' => ∃ r, e = .returned (.float .f64 r) ∧ G w w' ∧ Any (Ieee.double.sqrt x) r := by
  cases h : Ieee.double.sqrt x with
  | some r =>
    have hr := sqrt_r x r h
    have hl := Ieee.Format.sqrt_lt _ h
    have hlt : Any (some r) r := ⟨hl, fun q hq => Option.some.inj hq, fun hn => by cases hn⟩
    clear hl h
    go_enter Tryd.func20, Tryd.ntmps20
    go_wp2
    go_ret
    exact ⟨_, rfl, G.refl _, hlt⟩
  | none =>
    have hr := sqrt_n x h
    have hlt : Any none (nanAt x x w) := ⟨nanAt_lt _ _ _, (by intro q hq; cases hq), fun _ => nanAt_nan _ _ _⟩
    clear h
    go_enter Tryd.func20, Tryd.ntmps20
    go_wp2
    go_ret
    exact ⟨_, rfl, (G.refl w).drew, hlt⟩

set_option maxRecDepth 100000 in
theorem root_t (a s : Nat) (ha : a < 2 ^ 64) (fa : FT.rung a < FT.infR) (hs : Ieee.double.sqrt a = some s) (hs2 : s < 2 ^ 64) (fs : FT.rung s < FT.infR) (x : Nat)
    (hx : Ieee.double.fma (Op.negFloat .f64 s) s a = some x) (HH : ∀ w, Tab w → Calls Tryd.prog 35 #[.float .f64 s, .float .f64 s] w fun e w' => e = .returned (.bool true) ∧ G w w') (w : World) (ht : Tab w) :
    Calls Tryd.prog 19 #[.float .f64 a] w fun e w' => e = .returned (.tuple #[.float .f64 s, .float .f64 x, .bool true]) ∧ G w w' := by
  have HQ : Hid (∀ w, Calls Tryd.prog 20 #[.float .f64 a] w fun e w' => e = .returned (.float .f64 s) ∧ G w w') := fun w => (sqrt_any a w).mono (by
    rintro e w' ⟨r, rfl, g, -, h, -⟩
    exact ⟨by rw [h s hs], g⟩)
  have HF : Hid _ := fun w t => fin2 w a s ha hs2 t
  rw [show fin a = true from decide_eq_true fa, show fin s = true from decide_eq_true fs] at HF
  have HH : Hid _ := HH
  have hfma := fma_r _ s a x hx
  clear hx ha hs2 fa fs hs
  go_enter Tryd.func19, Tryd.ntmps19
  go_wp2_with fail
  refine Calls.mono (P := Tryd.prog) (HQ.out _) ?_
  rintro e w0 ⟨rfl, g0⟩
  have ht0 := ht.G g0
  go_wp2_with fail
  refine Calls.mono (P := Tryd.prog) (HF.out _ _) ?_
  rintro e w1 ⟨rfl, g1⟩
  have ht1 := ht0.G g1
  go_wp2_with fail
  refine Calls.mono (P := Tryd.prog) (HH.out _ ht1) ?_
  rintro e w2 ⟨rfl, g2⟩
  clear ht ht1 ht0
  go_wp2
  go_ret3
  exact ⟨rfl, G.trans (G.trans g0 g1) g2⟩
set_option maxRecDepth 100000 in
theorem root_low (a s : Nat) (ha : a < 2 ^ 64) (fa : FT.rung a < FT.infR) (hs : Ieee.double.sqrt a = some s) (hs2 : s < 2 ^ 64) (fs : FT.rung s < FT.infR)
    (HH : ∀ w, Tab w → Calls Tryd.prog 35 #[.float .f64 s, .float .f64 s] w fun e w' => e = .returned (.bool false) ∧ G w w') (w : World) (ht : Tab w) :
    Calls Tryd.prog 19 #[.float .f64 a] w fun e w' => e = .returned (.tuple #[.float .f64 0, .float .f64 0, .bool false]) ∧ G w w' := by
  have HQ : Hid (∀ w, Calls Tryd.prog 20 #[.float .f64 a] w fun e w' => e = .returned (.float .f64 s) ∧ G w w') := fun w => (sqrt_any a w).mono (by
    rintro e w' ⟨r, rfl, g, -, h, -⟩
    exact ⟨by rw [h s hs], g⟩)
  have HF : Hid _ := fun w t => fin2 w a s ha hs2 t
  rw [show fin a = true from decide_eq_true fa, show fin s = true from decide_eq_true fs] at HF
  have HH : Hid _ := HH
  clear ha hs2 fa fs hs
  go_enter Tryd.func19, Tryd.ntmps19
  go_wp2_with fail
  refine Calls.mono (P := Tryd.prog) (HQ.out _) ?_
  rintro e w0 ⟨rfl, g0⟩
  have ht0 := ht.G g0
  go_wp2_with fail
  refine Calls.mono (P := Tryd.prog) (HF.out _ _) ?_
  rintro e w1 ⟨rfl, g1⟩
  have ht1 := ht0.G g1
  go_wp2_with fail
  refine Calls.mono (P := Tryd.prog) (HH.out _ ht1) ?_
  rintro e w2 ⟨rfl, g2⟩
  clear ht ht1 ht0
  go_wp2
  go_ret3
  exact ⟨rfl, G.trans (G.trans g0 g1) g2⟩
set_option maxRecDepth 100000 in
theorem root_no (a : Nat) (ha : a < 2 ^ 64) (h : ∀ s, Any (Ieee.double.sqrt a) s → (fin a && fin s) = false) (w : World) :
    Calls Tryd.prog 19 #[.float .f64 a] w fun e w' => e = .returned (.tuple #[.float .f64 0, .float .f64 0, .bool false]) ∧ G w w' := by
  have HQ : Hid _ := fun w => sqrt_any a w
  have HF : Hid _ := fun w s hs t => fin2 w a s ha hs t
  have H : Hid _ := h
  clear ha h
  go_enter Tryd.func19, Tryd.ntmps19
  go_wp2_with fail
  refine Calls.mono (P := Tryd.prog) (HQ.out _) ?_
  rintro e w0 ⟨s, rfl, g0, hs⟩
  have HF2 : Hid _ := fun w t => HF.out w s hs.1 t
  rw [H.out s hs] at HF2
  clear HF H HQ hs
  go_wp2_with fail
  refine Calls.mono (P := Tryd.prog) (HF2.out _ _) ?_
  rintro e w1 ⟨rfl, g1⟩
  go_wp2
  go_ret3
  exact ⟨rfl, G.trans g0 g1⟩
end Go.Proofs.YtkelfdhpekkiaacDoor
namespace Go.Proofs.YtkelfdhpekkiaacDoor
open Go.ChangeShapes Go.WideShapes Go.ChangeAt Go.RowKit
open BN
open EA (Z Low Is RnZ Rp top)

theorem fr_bd34 (s : Bool) (mag ex K : Nat) (hm : mag < 2 ^ 53) (hex : ex < 2047) (hK : K = 34) : (frN s mag ex).natAbs < 2 ^ (32 * K) ∧ frD ex < 2 ^ (32 * K) ∧ 0 < frD ex := by
  refine ⟨?_, ?_, frD_pos ex⟩
  · rw [frN_abs]
    calc mag * 2 ^ (max ex 1 - 1075) < 2 ^ 53 * 2 ^ (max ex 1 - 1075) := Nat.mul_lt_mul_of_pos_right hm (Nat.two_pow_pos _)
      _ = 2 ^ (53 + (max ex 1 - 1075)) := by rw [Nat.pow_add]
      _ ≤ 2 ^ (32 * K) := Nat.pow_le_pow_right (by omega) (by omega)
  · unfold frD
    exact Nat.pow_lt_pow_right (by omega) (by omega)

/-- The reference's ratio of a finite float. -/
theorem ratZ34 (b u K : Nat) (h0 : b < 2 ^ 64) (hf : FT.rung b < FT.infR) (hu : u = 1074) (hK : K = 34) :
    ∃ A B, (∀ w, Calls Tryd.prog 11 #[.float .f64 b] w (RetR w A B)) ∧ Un u A B (Z b) ∧ A.natAbs < 2 ^ (32 * K) ∧ B < 2 ^ (32 * K) := by
  obtain ⟨mag, ex, h⟩ := Fin64.of h0 hf
  have hZ := EA.fin_Z h u hu
  obtain ⟨q1, q2, q3⟩ := fr_bd34 (FT.neg b) mag ex K h.mag_lt h.exl hK
  obtain ⟨f1, f2, f3, f4⟩ := low2 (N := frN (FT.neg b) mag ex) q3 rfl
  refine ⟨_, _, fun w => ratF_c w b ex (b % 2 ^ 52) mag h0 h.exf rfl h.exl h.magf, ⟨f2, ?_⟩, by omega, by omega⟩
  have hD : ((frD ex : Nat) : Int) ≠ 0 := by omega
  refine Int.eq_of_mul_eq_mul_right hD ?_
  generalize Int.tdiv (frN (FT.neg b) mag ex) (Nat.gcd (frN (FT.neg b) mag ex).natAbs (frD ex) : Nat) = A at *
  generalize frD ex / Nat.gcd (frN (FT.neg b) mag ex).natAbs (frD ex) = B at *
  generalize frN (FT.neg b) mag ex = N at *
  generalize ((2 ^ u : Nat) : Int) = U at *
  rw [show A * U * (frD ex : Int) = (A * (frD ex : Int)) * U from by ac_rfl, f1, show N * (B : Int) * U = (N * U) * B from by ac_rfl, hZ]
  ac_rfl

/-- A ratio that is s in units of 1 / 4^u, of so many digits. -/
structure Un2 (u : Nat) (A : Int) (B : Nat) (s : Int) (K : Nat) : Prop where
  pos : 0 < B
  eq : A * (((2 ^ u : Nat) : Int) * ((2 ^ u : Nat) : Int)) = s * (B : Int)
  num : A.natAbs < 2 ^ (32 * K)
  den : B < 2 ^ (32 * K)
theorem Un.two {u A B z K} (h : Un u A B z) (h1 : A.natAbs < 2 ^ (32 * K)) (h2 : B < 2 ^ (32 * K)) : Un2 u A B (z * ((2 ^ u : Nat) : Int)) K :=
  ⟨h.pos, by rw [← Int.mul_assoc, h.eq]; ac_rfl, h1, h2⟩

theorem pow_sum {a b : Nat} {K L M : Nat} (ha : a < 2 ^ (32 * K)) (hb : b < 2 ^ (32 * L)) (h : K + L ≤ M) : a * b < 2 ^ (32 * M) := by
  have h1 : a * b < 2 ^ (32 * K) * 2 ^ (32 * L) := Nat.mul_lt_mul'' ha hb
  rw [← Nat.pow_add] at h1
  exact Nat.lt_of_lt_of_le h1 (Nat.pow_le_pow_right (by omega) (by omega))
theorem low_dif {P A2 : Int} {Q B2 : Nat} {s t V : Int} (hQ : 0 < Q) (hB2 : 0 < B2) (hs : P * V = s * (Q : Int)) (ht : A2 * V = t * (B2 : Int)) :
    0 < Q * B2 / Nat.gcd (P * (B2 : Int) - A2 * (Q : Int)).natAbs (Q * B2) ∧
    (Int.tdiv (P * (B2 : Int) - A2 * (Q : Int)) (Nat.gcd (P * (B2 : Int) - A2 * (Q : Int)).natAbs (Q * B2) : Nat)) * V = (s - t) * ((Q * B2 / Nat.gcd (P * (B2 : Int) - A2 * (Q : Int)).natAbs (Q * B2) : Nat) : Int) := by
  have h := low_sum (A2 := -A2) (t := -t) hQ hB2 hs (by rw [Int.neg_mul, Int.neg_mul, ht])
  rw [show P * (B2 : Int) + -A2 * (Q : Int) = P * (B2 : Int) - A2 * (Q : Int) from by rw [Int.neg_mul]; omega, show s + -t = s - t from by omega] at h
  exact h
theorem Un2.dif {u A B s K A2 B2 t L M} (h1 : Un2 u A B s K) (h2 : Un2 u A2 B2 t L) (hM : K + L + 1 ≤ M) :
    Un2 u (Int.tdiv (A * (B2 : Int) - A2 * (B : Int)) (Nat.gcd (A * (B2 : Int) - A2 * (B : Int)).natAbs (B * B2) : Nat)) (B * B2 / Nat.gcd (A * (B2 : Int) - A2 * (B : Int)).natAbs (B * B2)) (s - t) M := by
  obtain ⟨g1, g2⟩ := low_dif h1.pos h2.pos h1.eq h2.eq
  obtain ⟨f1, f2, f3, f4⟩ := low2 (N := A * (B2 : Int) - A2 * (B : Int)) (Nat.mul_pos h1.pos h2.pos) rfl
  have i1 : (A * (B2 : Int)).natAbs < 2 ^ (32 * (K + L)) := by rw [Int.natAbs_mul, Int.natAbs_natCast]; exact pow_sum h1.num h2.den (Nat.le_refl _)
  have i2 : (A2 * (B : Int)).natAbs < 2 ^ (32 * (K + L)) := by rw [Int.natAbs_mul, Int.natAbs_natCast]; exact pow_sum h2.num h1.den (by omega)
  have i3 := pow_sum h1.den h2.den (Nat.le_refl (K + L))
  have i4 : 2 ^ (32 * (K + L)) * 2 ^ 32 ≤ 2 ^ (32 * M) := by rw [← Nat.pow_add]; exact Nat.pow_le_pow_right (by omega) (by omega)
  have i5 : 0 < 2 ^ (32 * (K + L)) := Nat.two_pow_pos _
  refine ⟨g1, g2, ?_, by omega⟩
  have i6 : (A * (B2 : Int) - A2 * (B : Int)).natAbs ≤ (A * (B2 : Int)).natAbs + (A2 * (B : Int)).natAbs := by omega
  omega
theorem Un2.sum {u A B s K A2 B2 t L M} (h1 : Un2 u A B s K) (h2 : Un2 u A2 B2 t L) (hM : K + L + 1 ≤ M) :
    Un2 u (Int.tdiv (A * (B2 : Int) + A2 * (B : Int)) (Nat.gcd (A * (B2 : Int) + A2 * (B : Int)).natAbs (B * B2) : Nat)) (B * B2 / Nat.gcd (A * (B2 : Int) + A2 * (B : Int)).natAbs (B * B2)) (s + t) M := by
  obtain ⟨g1, g2⟩ := low_sum h1.pos h2.pos h1.eq h2.eq
  obtain ⟨f1, f2, f3, f4⟩ := low2 (N := A * (B2 : Int) + A2 * (B : Int)) (Nat.mul_pos h1.pos h2.pos) rfl
  have i1 : (A * (B2 : Int)).natAbs < 2 ^ (32 * (K + L)) := by rw [Int.natAbs_mul, Int.natAbs_natCast]; exact pow_sum h1.num h2.den (Nat.le_refl _)
  have i2 : (A2 * (B : Int)).natAbs < 2 ^ (32 * (K + L)) := by rw [Int.natAbs_mul, Int.natAbs_natCast]; exact pow_sum h2.num h1.den (by omega)
  have i3 := pow_sum h1.den h2.den (Nat.le_refl (K + L))
  have i4 : 2 ^ (32 * (K + L)) * 2 ^ 32 ≤ 2 ^ (32 * M) := by rw [← Nat.pow_add]; exact Nat.pow_le_pow_right (by omega) (by omega)
  have i5 : 0 < 2 ^ (32 * (K + L)) := Nat.two_pow_pos _
  refine ⟨g1, g2, ?_, by omega⟩
  have i6 : (A * (B2 : Int) + A2 * (B : Int)).natAbs ≤ (A * (B2 : Int)).natAbs + (A2 * (B : Int)).natAbs := by omega
  omega
theorem Un.times {u A B x K A2 B2 y L M} (h1 : Un u A B x) (h2 : Un u A2 B2 y) (q1 : A.natAbs < 2 ^ (32 * K)) (q1' : B < 2 ^ (32 * K)) (q2 : A2.natAbs < 2 ^ (32 * L)) (q2' : B2 < 2 ^ (32 * L)) (hM : K + L ≤ M) :
    Un2 u (Int.tdiv (A * A2) (Nat.gcd (A * A2).natAbs (B * B2) : Nat)) (B * B2 / Nat.gcd (A * A2).natAbs (B * B2)) (x * y) M := by
  obtain ⟨g1, g2⟩ := h1.mul h2
  obtain ⟨f1, f2, f3, f4⟩ := low2 (N := A * A2) (Nat.mul_pos h1.pos h2.pos) rfl
  have i1 : (A * A2).natAbs < 2 ^ (32 * M) := by rw [Int.natAbs_mul]; exact pow_sum q1 q2 hM
  have i3 := pow_sum q1' q2' hM
  exact ⟨g1, g2, by omega, by omega⟩

/-- What Lost tells of an exact value of z units of 1 / 4^u: the float that it is, or that it is none. -/
def LostOut (u : Nat) (z : Int) (e : Nat) (ok : Bool) : Prop :=
  e < 2 ^ 64 ∧ (∀ d : Int, z = d * ((2 ^ u : Nat) : Int) → Rp d.natAbs → d.natAbs < top → ok = true ∧ Is e d) ∧ ((∀ d : Int, z ≠ d * ((2 ^ u : Nat) : Int)) → ok = false)

def lostE (R : Int) (T : Nat) : Nat := if R = 0 then 0 else FT.wrd (decide (R < 0)) (flV R.natAbs T)
theorem lostE_rn {u R T z K} (h : Un2 u R T z K) (hu : u = 1074) (d : Int) (hd : z = d * ((2 ^ u : Nat) : Int)) : RnZ d (lostE R T) := by
  have hU : ((2 ^ u : Nat) : Int) ≠ 0 := by have := Nat.two_pow_pos u; omega
  have he : R * ((2 ^ u : Nat) : Int) = d * (T : Int) := by
    refine Int.eq_of_mul_eq_mul_right hU ?_
    rw [Int.mul_assoc, h.eq, hd]
    ac_rfl
  exact EA.rnZ_of false (by have := h.pos; omega) hu he
theorem lostE_lt (R : Int) (T : Nat) : lostE R T < 2 ^ 64 := by
  unfold lostE
  have := EA.infR_lt
  have h2 : flV R.natAbs T ≤ FT.infR := Nat.min_le_right _ _
  split
  · omega
  · exact FT.wrd_lt _ _ (by omega)
theorem lost_out {u R T z K A4 B4} (h : Un2 u R T z K) (hu : u = 1074) (h4 : Un u A4 B4 (Z (lostE R T))) : LostOut u z (lostE R T) (cmpI (A4 * (T : Int)) (R * (B4 : Int)) == 0) := by
  have hU : ((2 ^ u : Nat) : Int) ≠ 0 := by have := Nat.two_pow_pos u; omega
  have hT : (T : Int) ≠ 0 := by have := h.pos; omega
  have hB : (B4 : Int) ≠ 0 := by have := h4.pos; omega
  have e1 := h.eq
  have e2 := h4.eq
  have hcmp : ∀ a b : Int, (cmpI a b == 0) = decide (a = b) := by
    intro a b
    unfold cmpI
    by_cases h1 : a < b
    · rw [if_pos h1, decide_eq_false (by omega)]; rfl
    · rw [if_neg h1]
      by_cases h2 : a = b
      · rw [if_pos h2, decide_eq_true h2]; rfl
      · rw [if_neg h2, decide_eq_false h2]; rfl
  refine ⟨lostE_lt _ _, fun d hd h1 h2 => ?_, fun hno => ?_⟩
  · have hr := lostE_rn h hu d hd
    have hi := hr.is h1 h2
    refine ⟨?_, hi⟩
    rw [hcmp]
    refine decide_eq_true ?_
    rw [hi.val] at e2
    rw [hd] at e1
    generalize ((2 ^ u : Nat) : Int) = U at *
    refine Int.eq_of_mul_eq_mul_right hU (Int.eq_of_mul_eq_mul_right hU ?_)
    rw [show A4 * (T : Int) * U * U = (A4 * U) * U * T from by ac_rfl, e2, show R * (B4 : Int) * U * U = (R * (U * U)) * B4 from by ac_rfl, e1]
    ac_rfl
  · rw [hcmp]
    refine decide_eq_false fun hc => ?_
    refine hno (Z (lostE R T)) ?_
    generalize ((2 ^ u : Nat) : Int) = U at *
    refine Int.eq_of_mul_eq_mul_right hT (Int.eq_of_mul_eq_mul_right hB ?_)
    rw [← e1, show R * (U * U) * (B4 : Int) = (R * (B4 : Int)) * (U * U) from by ac_rfl, ← hc, show A4 * (T : Int) * (U * U) = (A4 * U) * U * T from by ac_rfl, e2]
    ac_rfl
theorem lost_far {u R T z K} (h : Un2 u R T z K) (hu : u = 1074) (h4 : ¬ FT.rung (lostE R T) < FT.infR) : LostOut u z (lostE R T) false := by
  refine ⟨lostE_lt _ _, fun d hd h1 h2 => ?_, fun _ => rfl⟩
  exact absurd ((lostE_rn h hu d hd).is h1 h2).fin h4
end Go.Proofs.YtkelfdhpekkiaacDoor
namespace Go.Proofs.YtkelfdhpekkiaacDoor
open Go.ChangeShapes Go.WideShapes Go.ChangeAt Go.RowKit
open BN
open EA (Z Low Is RnZ Rp top)

theorem ret_2 {e e' : Nat} {x y : Bool} (h1 : e = e') (h2 : x = y) : Ending.returned (.tuple #[.float .f64 e, .bool x]) = .returned (.tuple #[.float .f64 e', .bool y]) := by rw [h1, h2]

def RetLost (u : Nat) (z : Int) (w : World) (e : Ending) (w' : World) : Prop := ∃ x ok, e = .returned (.tuple #[.float .f64 x, .bool ok]) ∧ G w w' ∧ LostOut u z x ok

set_option maxRecDepth 100000 in
theorem lostR_c (w : World) (pv x u KV : Nat) (A : Int) (B : Nat) (s : Int) (hu : u = 1074) (hKV : KV ≤ 140) (hx : x < 2 ^ 64) (fx : FT.rung x < FT.infR) (hpv : pv < w.heap.size) (hv : RatIs w pv A B) (h2 : Un2 u A B s KV) :
    Calls Tryd.prog 28 #[.pointer (some ⟨pv, 0, none⟩), .float .f64 x] w (RetLost u (s - Z x * ((2 ^ u : Nat) : Int)) w) := by
  obtain ⟨K, hK⟩ : ∃ K, K = 34 := ⟨_, rfl⟩
  obtain ⟨M, hM⟩ : ∃ M, M = 180 := ⟨_, rfl⟩
  obtain ⟨A3, B3, HC, U3, q3, q3'⟩ := ratZ34 x u K hx fx hu hK
  have T3 := U3.two q3 q3'
  have hd := h2.dif T3 (M := M) (by omega)
  have HS : Hid (∀ w bz b2 : _, bz < w.heap.size → pv < w.heap.size → b2 < w.heap.size → RatIs w bz 0 0 → RatIs w pv A B → RatIs w b2 A3 B3 → _) := fun w bz b2 i1 i2 i3 i4 i5 i6 => subR_c w bz pv b2 0 0 A A3 B B3 M (by omega)
    (Nat.lt_of_lt_of_le h2.num (Nat.pow_le_pow_right (by omega) (by omega))) (Nat.lt_of_lt_of_le T3.num (Nat.pow_le_pow_right (by omega) (by omega)))
    (Nat.lt_of_lt_of_le h2.den (Nat.pow_le_pow_right (by omega) (by omega))) (Nat.lt_of_lt_of_le T3.den (Nat.pow_le_pow_right (by omega) (by omega))) h2.pos T3.pos i1 i2 i3 i4 i5 i6
  generalize Int.tdiv (A * (B3 : Int) - A3 * (B : Int)) (Nat.gcd (A * (B3 : Int) - A3 * (B : Int)).natAbs (B * B3) : Nat) = R at *
  generalize B * B3 / Nat.gcd (A * (B3 : Int) - A3 * (B : Int)).natAbs (B * B3) = T at *
  generalize s - Z x * ((2 ^ u : Nat) : Int) = z at *
  have HE : Hid (∀ w pz, pz < w.heap.size → RatIs w pz R T → Calls Tryd.prog 46 #[.pointer (some ⟨pz, 0, none⟩)] w (RetFl w (lostE R T))) := by
    intro w pz hp hr
    unfold lostE
    by_cases h0 : R = 0
    · rw [if_pos h0]
      rw [h0] at hr
      exact float64_zero w pz T hr
    · rw [if_neg h0]
      refine float64_c w pz M R T (by omega) (by omega) h0 hd.pos hd.num hd.den ?_ hp hr
      have h1 : blen R.natAbs ≤ 32 * M := blen_le_iff.2 hd.num
      unfold startP
      split <;> omega
  have HFi : Hid _ := fun w => finite_c (lostE R T) w (lostE_lt R T)
  have HV : Hid (RatIs w pv A B) := hv
  have HC : Hid _ := HC
  by_cases hfin : FT.rung (lostE R T) < FT.infR
  · obtain ⟨A4, B4, H4, U4, q4, q4'⟩ := ratZ34 (lostE R T) u K (lostE_lt R T) hfin hu hK
    have hout := lost_out hd hu U4
    have HCm : Hid (∀ w p4 pz : _, p4 < w.heap.size → pz < w.heap.size → RatIs w p4 A4 B4 → RatIs w pz R T → _) := fun w p4 pz i1 i2 i3 i4 => cmpR_c w p4 pz A4 R B4 T M (by omega)
      (Nat.lt_of_lt_of_le q4 (Nat.pow_le_pow_right (by omega) (by omega))) hd.num (Nat.lt_of_lt_of_le q4' (Nat.pow_le_pow_right (by omega) (by omega))) hd.den U4.pos hd.pos i1 i2 i3 i4
    rw [decide_eq_true hfin] at HFi
    generalize cmpI (A4 * (T : Int)) (R * (B4 : Int)) = cm at *
    generalize lostE R T = el at *
    have H4 : Hid _ := H4
    have HO : Hid (LostOut u z el (cm == 0)) := hout
    clear hout hfin hd U4 q4 q4' U3 T3 q3 q3' h2 hx fx hv hK hM hu hKV
    go_enter Tryd.func28, Tryd.ntmps28
    go_wp2_with fail
    have hz0 := rat_new w 33
    have hga := (G.refl w).alloc (.cells #[.bool false, .slice none 0 0, .bool false, .slice none 0 0] 33)
    have hzs : w.heap.size < (w.alloc (.cells #[.bool false, .slice none 0 0, .bool false, .slice none 0 0] 33)).heap.size := by simp
    have hpz0 : w.heap.size ≤ w.heap.size := Nat.le_refl _
    have hv4 := HV.out.G hpv hga
    have hpv4 := G.lt hga hpv
    generalize w.alloc (.cells #[.bool false, .slice none 0 0, .bool false, .slice none 0 0] 33) = w4 at *
    obtain ⟨pz, hpz⟩ : ∃ pz, pz = w.heap.size := ⟨_, rfl⟩
    rw [← hpz] at hz0 hzs ⊢
    have hpz1 : w.heap.size ≤ pz := by omega
    clear hpz hpz0 HV hpv
    refine Calls.mono (P := Tryd.prog) (HC.out w4) ?_
    intro e w5 hs
    obtain ⟨pc, rfl, g5, pc1, pc2, rc⟩ := hs
    have hz5 := hz0.G hzs g5
    have hzs5 := G.lt g5 hzs
    have hv5 := hv4.G hpv4 g5
    have hpv5 := G.lt g5 hpv4
    have G5 := G.trans hga g5
    have HS5 : Hid _ := HS.out w5 pz pc hzs5 hpv5 pc2 hz5 hv5 rc
    clear hz0 hzs hga g5 pc1 pc2 rc HC HS hz5 hv5 hpv5 hv4 hpv4
    go_wp2_with fail
    refine Calls.mono (P := Tryd.prog) HS5.out ?_
    intro e w6 hs
    obtain ⟨rfl, gx, r6⟩ := hs
    have G6 := GX.fresh G5 gx hpz1
    have hzs6 := Nat.lt_of_lt_of_le hzs5 gx.size
    have HE6 : Hid _ := HE.out w6 pz hzs6 r6
    clear HS5 gx G5 hzs5 HE
    go_wp2_with fail
    refine Calls.mono (P := Tryd.prog) HE6.out ?_
    intro e w7 hs
    obtain ⟨x0, rfl, g7⟩ := hs
    have hz7 := r6.G hzs6 g7
    have hzs7 := G.lt g7 hzs6
    have G7 := G.trans G6 g7
    clear r6 hzs6 g7 G6 HE6
    go_wp2_with fail
    refine Calls.mono (P := Tryd.prog) (HFi.out _) ?_
    rintro e w8 ⟨rfl, g8⟩
    have hz8 := hz7.G hzs7 g8
    have hzs8 := G.lt g8 hzs7
    have G8 := G.trans G7 g8
    clear hz7 hzs7 g8 G7
    go_wp2_with fail
    refine Calls.mono (P := Tryd.prog) (H4.out _) ?_
    intro e w9 hs
    obtain ⟨p4, rfl, g9, p4a, p4b, r4⟩ := hs
    have HCm9 : Hid _ := HCm.out w9 p4 _ p4b (G.lt g9 hzs8) r4 (hz8.G hzs8 g9)
    have G9 := G.trans G8 g9
    clear hz8 hzs8 g9 G8 p4a p4b r4 HCm
    go_wp2_with fail
    refine Calls.mono (P := Tryd.prog) HCm9.out ?_
    rintro e w10 ⟨rfl, g10⟩
    go_wp2
    go_ret2
    exact ⟨_, _, rfl, G.trans G9 g10, HO.out⟩
  · have hout := lost_far hd hu hfin
    rw [decide_eq_false hfin] at HFi
    generalize lostE R T = el at *
    have HO : Hid (LostOut u z el false) := hout
    clear hout hfin hd U3 T3 q3 q3' h2 hx fx hv hK hM hu hKV
    go_enter Tryd.func28, Tryd.ntmps28
    go_wp2_with fail
    have hz0 := rat_new w 33
    have hga := (G.refl w).alloc (.cells #[.bool false, .slice none 0 0, .bool false, .slice none 0 0] 33)
    have hzs : w.heap.size < (w.alloc (.cells #[.bool false, .slice none 0 0, .bool false, .slice none 0 0] 33)).heap.size := by simp
    have hpz0 : w.heap.size ≤ w.heap.size := Nat.le_refl _
    have hv4 := HV.out.G hpv hga
    have hpv4 := G.lt hga hpv
    generalize w.alloc (.cells #[.bool false, .slice none 0 0, .bool false, .slice none 0 0] 33) = w4 at *
    obtain ⟨pz, hpz⟩ : ∃ pz, pz = w.heap.size := ⟨_, rfl⟩
    rw [← hpz] at hz0 hzs ⊢
    have hpz1 : w.heap.size ≤ pz := by omega
    clear hpz hpz0 HV hpv
    refine Calls.mono (P := Tryd.prog) (HC.out w4) ?_
    intro e w5 hs
    obtain ⟨pc, rfl, g5, pc1, pc2, rc⟩ := hs
    have hz5 := hz0.G hzs g5
    have hzs5 := G.lt g5 hzs
    have hv5 := hv4.G hpv4 g5
    have hpv5 := G.lt g5 hpv4
    have G5 := G.trans hga g5
    have HS5 : Hid _ := HS.out w5 pz pc hzs5 hpv5 pc2 hz5 hv5 rc
    clear hz0 hzs hga g5 pc1 pc2 rc HC HS hz5 hv5 hpv5 hv4 hpv4
    go_wp2_with fail
    refine Calls.mono (P := Tryd.prog) HS5.out ?_
    intro e w6 hs
    obtain ⟨rfl, gx, r6⟩ := hs
    have G6 := GX.fresh G5 gx hpz1
    have hzs6 := Nat.lt_of_lt_of_le hzs5 gx.size
    have HE6 : Hid _ := HE.out w6 pz hzs6 r6
    clear HS5 gx G5 hzs5 HE
    go_wp2_with fail
    refine Calls.mono (P := Tryd.prog) HE6.out ?_
    intro e w7 hs
    obtain ⟨x0, rfl, g7⟩ := hs
    have hz7 := r6.G hzs6 g7
    have hzs7 := G.lt g7 hzs6
    have G7 := G.trans G6 g7
    clear r6 hzs6 g7 G6 HE6
    go_wp2_with fail
    refine Calls.mono (P := Tryd.prog) (HFi.out _) ?_
    rintro e w8 ⟨rfl, g8⟩
    go_wp2
    go_ret2
    exact ⟨_, _, rfl, G.trans G7 g8, HO.out⟩
end Go.Proofs.YtkelfdhpekkiaacDoor
namespace Go.Proofs.YtkelfdhpekkiaacDoor
open Go.ChangeShapes Go.WideShapes Go.ChangeAt Go.RowKit
open BN
open EA (Z Low Is RnZ Rp top)

theorem floats_c (a : Nat) (w : World) : Calls Tryd.prog 29 #[.float .f64 a, .float .f64 a] w fun e w' => e = .returned (.bool true) ∧ G w w' := by
  have h1 := FT.neq_self a
  have h2 := FT.eq_self a
  cases hn : FT.nan a <;> rw [hn] at h1 h2 <;> clear hn
  · go_enter Tryd.func29, Tryd.ntmps29
    go_wp2
    go_ret
    exact ⟨rfl, G.refl _⟩
  · go_enter Tryd.func29, Tryd.ntmps29
    go_wp2
    go_ret
    exact ⟨rfl, G.refl _⟩

/-- What is told of a sum, product, quotient or root, against what Lost tells. -/
def Told (u : Nat) (d : Int) (s e : Nat) (ok : Bool) (f : Nat) : Prop := ∀ x ok2, LostOut u d x ok2 → (ok2 = false ∧ ok = false ∧ s = 0 ∧ e = 0) ∨ (ok2 = true ∧ ok = true ∧ s = f ∧ (FloatKind.f64.format.order e x == some .eq) = true)
theorem told_yes {u : Nat} {d z : Int} {s e : Nat} (hd : d = z * ((2 ^ u : Nat) : Int)) (h : Is e z) : Told u d s e true s := by
  intro x ok2 hl
  obtain ⟨h1, h2⟩ := hl.2.1 z hd h.rp h.top
  refine Or.inr ⟨h1, rfl, rfl, ?_⟩
  rw [eqZ h.fin h2.fin]
  exact decide_eq_true (by rw [h.val, h2.val])
theorem told_no {u : Nat} {d : Int} {f : Nat} (hd : ∀ z : Int, d ≠ z * ((2 ^ u : Nat) : Int)) : Told u d 0 0 false f := by
  intro x ok2 hl
  exact Or.inl ⟨hl.2.2 hd, rfl, rfl, rfl⟩

theorem held_no (w : World) (f : Nat) (v : Value) :
    Calls Tryd.prog 8 #[.float .f64 0, .float .f64 0, .bool false, .float .f64 f, .bool false, v] w fun e w' => e = .returned (.bool true) ∧ G w w' := by
  have z0 : (FloatKind.f64.format.order 0 0 == some .eq) = true := by rw [FT.eq_zero]; decide
  go_enter Tryd.func8, Tryd.ntmps8
  go_wp2_with fail
  go_ret
  exact ⟨rfl, G.refl _⟩
theorem held_inf (w : World) (f : Nat) (v : Value) (hf : f < 2 ^ 64) (hi : fin f = false) :
    Calls Tryd.prog 8 #[.float .f64 0, .float .f64 0, .bool false, .float .f64 f, .bool true, v] w fun e w' => e = .returned (.bool true) ∧ G w w' := by
  have HF : Hid _ := finite_c f w hf
  rw [show decide (FT.rung f < FT.infR) = false from hi] at HF
  have z0 : (FloatKind.f64.format.order 0 0 == some .eq) = true := by rw [FT.eq_zero]; decide
  clear hf hi
  go_enter Tryd.func8, Tryd.ntmps8
  go_wp2_with fail
  refine Calls.mono (P := Tryd.prog) HF.out ?_
  rintro e w1 ⟨rfl, g1⟩
  go_wp2_with fail
  go_ret
  exact ⟨rfl, g1⟩

set_option maxRecDepth 100000 in
theorem held_1 (w : World) (s e f u KV : Nat) (ok : Bool) (cs : Array Value) (A : Int) (B : Nat) (z : Int) (hu : u = 1074) (hKV : KV ≤ 140) (hf : f < 2 ^ 64) (ff : FT.rung f < FT.infR) (h2 : Un2 u A B z KV) (ht : Told u (z - Z f * ((2 ^ u : Nat) : Int)) s e ok f)
    (HV : ∀ w', G w w' → Calls Tryd.prog 9 cs w' (RetR w' A B)) :
    Calls Tryd.prog 8 #[.float .f64 s, .float .f64 e, .bool ok, .float .f64 f, .bool true, .func (.func 9) #[] cs] w fun e w' => e = .returned (.bool true) ∧ G w w' := by
  have HF : Hid _ := finite_c f w hf
  rw [show decide (FT.rung f < FT.infR) = true from decide_eq_true ff] at HF
  have HL : Hid (∀ w1 pv, pv < w1.heap.size → RatIs w1 pv A B → _) := fun w1 pv hp hr => lostR_c w1 pv f u KV A B z hu hKV hf ff hp hr h2
  have HT : Hid (Told u (z - Z f * ((2 ^ u : Nat) : Int)) s e ok f) := ht
  have HE : Hid _ := fun w => floats_c f w
  have HV : Hid _ := HV
  have z0 : (FloatKind.f64.format.order 0 0 == some .eq) = true := by rw [FT.eq_zero]; decide
  clear hf ff ht h2 hu hKV
  go_enter Tryd.func8, Tryd.ntmps8
  go_wp2_with fail
  refine Calls.mono (P := Tryd.prog) HF.out ?_
  rintro e1 w1 ⟨rfl, g1⟩
  have HV1 : Hid _ := HV.out w1 g1
  clear HF HV
  go_wp2_with fail
  refine Calls.mono (P := Tryd.prog) HV1.out ?_
  intro e2 w2 hs
  obtain ⟨pv, rfl, g2, p1, p2, r2⟩ := hs
  have HL2 : Hid _ := HL.out w2 pv p2 r2
  have g12 := G.trans g1 g2
  clear HL p1 p2 r2 HV1 g1 g2
  go_wp2_with fail
  refine Calls.mono (P := Tryd.prog) HL2.out ?_
  intro e3 w3 hs
  obtain ⟨x, ok2, rfl, g3, hlo⟩ := hs
  have g13 := G.trans g12 g3
  rcases HT.out x ok2 hlo with ⟨rfl, rfl, rfl, rfl⟩ | ⟨rfl, rfl, rfl, he⟩
  · clear hlo HT HL2
    as_aux_lemma =>
      go_wp2_with fail
      go_ret
      exact ⟨rfl, g13⟩
  · clear hlo HT HL2
    as_aux_lemma =>
      go_wp2_with fail
      refine Calls.mono (P := Tryd.prog) (HE.out _) ?_
      rintro e4 w4 ⟨rfl, g4⟩
      go_wp2_with fail
      go_ret
      exact ⟨rfl, G.trans g13 g4⟩
set_option maxRecDepth 100000 in
theorem held_2 (w : World) (s e f u KV : Nat) (ok : Bool) (cs : Array Value) (A : Int) (B : Nat) (z : Int) (hu : u = 1074) (hKV : KV ≤ 140) (hf : f < 2 ^ 64) (ff : FT.rung f < FT.infR) (h2 : Un2 u A B z KV) (ht : Told u (z - Z f * ((2 ^ u : Nat) : Int)) s e ok f)
    (HV : ∀ w', G w w' → Calls Tryd.prog 13 cs w' (RetR w' A B)) :
    Calls Tryd.prog 8 #[.float .f64 s, .float .f64 e, .bool ok, .float .f64 f, .bool true, .func (.func 13) #[] cs] w fun e w' => e = .returned (.bool true) ∧ G w w' := by
  have HF : Hid _ := finite_c f w hf
  rw [show decide (FT.rung f < FT.infR) = true from decide_eq_true ff] at HF
  have HL : Hid (∀ w1 pv, pv < w1.heap.size → RatIs w1 pv A B → _) := fun w1 pv hp hr => lostR_c w1 pv f u KV A B z hu hKV hf ff hp hr h2
  have HT : Hid (Told u (z - Z f * ((2 ^ u : Nat) : Int)) s e ok f) := ht
  have HE : Hid _ := fun w => floats_c f w
  have HV : Hid _ := HV
  have z0 : (FloatKind.f64.format.order 0 0 == some .eq) = true := by rw [FT.eq_zero]; decide
  clear hf ff ht h2 hu hKV
  go_enter Tryd.func8, Tryd.ntmps8
  go_wp2_with fail
  refine Calls.mono (P := Tryd.prog) HF.out ?_
  rintro e1 w1 ⟨rfl, g1⟩
  have HV1 : Hid _ := HV.out w1 g1
  clear HF HV
  go_wp2_with fail
  refine Calls.mono (P := Tryd.prog) HV1.out ?_
  intro e2 w2 hs
  obtain ⟨pv, rfl, g2, p1, p2, r2⟩ := hs
  have HL2 : Hid _ := HL.out w2 pv p2 r2
  have g12 := G.trans g1 g2
  clear HL p1 p2 r2 HV1 g1 g2
  go_wp2_with fail
  refine Calls.mono (P := Tryd.prog) HL2.out ?_
  intro e3 w3 hs
  obtain ⟨x, ok2, rfl, g3, hlo⟩ := hs
  have g13 := G.trans g12 g3
  rcases HT.out x ok2 hlo with ⟨rfl, rfl, rfl, rfl⟩ | ⟨rfl, rfl, rfl, he⟩
  · clear hlo HT HL2
    as_aux_lemma =>
      go_wp2_with fail
      go_ret
      exact ⟨rfl, g13⟩
  · clear hlo HT HL2
    as_aux_lemma =>
      go_wp2_with fail
      refine Calls.mono (P := Tryd.prog) (HE.out _) ?_
      rintro e4 w4 ⟨rfl, g4⟩
      go_wp2_with fail
      go_ret
      exact ⟨rfl, G.trans g13 g4⟩
set_option maxRecDepth 100000 in
theorem held_3 (w : World) (s e f u KV : Nat) (ok : Bool) (cs : Array Value) (A : Int) (B : Nat) (z : Int) (hu : u = 1074) (hKV : KV ≤ 140) (hf : f < 2 ^ 64) (ff : FT.rung f < FT.infR) (h2 : Un2 u A B z KV) (ht : Told u (z - Z f * ((2 ^ u : Nat) : Int)) s e ok f)
    (HV : ∀ w', G w w' → Calls Tryd.prog 17 cs w' (RetR w' A B)) :
    Calls Tryd.prog 8 #[.float .f64 s, .float .f64 e, .bool ok, .float .f64 f, .bool true, .func (.func 17) #[] cs] w fun e w' => e = .returned (.bool true) ∧ G w w' := by
  have HF : Hid _ := finite_c f w hf
  rw [show decide (FT.rung f < FT.infR) = true from decide_eq_true ff] at HF
  have HL : Hid (∀ w1 pv, pv < w1.heap.size → RatIs w1 pv A B → _) := fun w1 pv hp hr => lostR_c w1 pv f u KV A B z hu hKV hf ff hp hr h2
  have HT : Hid (Told u (z - Z f * ((2 ^ u : Nat) : Int)) s e ok f) := ht
  have HE : Hid _ := fun w => floats_c f w
  have HV : Hid _ := HV
  have z0 : (FloatKind.f64.format.order 0 0 == some .eq) = true := by rw [FT.eq_zero]; decide
  clear hf ff ht h2 hu hKV
  go_enter Tryd.func8, Tryd.ntmps8
  go_wp2_with fail
  refine Calls.mono (P := Tryd.prog) HF.out ?_
  rintro e1 w1 ⟨rfl, g1⟩
  have HV1 : Hid _ := HV.out w1 g1
  clear HF HV
  go_wp2_with fail
  refine Calls.mono (P := Tryd.prog) HV1.out ?_
  intro e2 w2 hs
  obtain ⟨pv, rfl, g2, p1, p2, r2⟩ := hs
  have HL2 : Hid _ := HL.out w2 pv p2 r2
  have g12 := G.trans g1 g2
  clear HL p1 p2 r2 HV1 g1 g2
  go_wp2_with fail
  refine Calls.mono (P := Tryd.prog) HL2.out ?_
  intro e3 w3 hs
  obtain ⟨x, ok2, rfl, g3, hlo⟩ := hs
  have g13 := G.trans g12 g3
  rcases HT.out x ok2 hlo with ⟨rfl, rfl, rfl, rfl⟩ | ⟨rfl, rfl, rfl, he⟩
  · clear hlo HT HL2
    as_aux_lemma =>
      go_wp2_with fail
      go_ret
      exact ⟨rfl, g13⟩
  · clear hlo HT HL2
    as_aux_lemma =>
      go_wp2_with fail
      refine Calls.mono (P := Tryd.prog) (HE.out _) ?_
      rintro e4 w4 ⟨rfl, g4⟩
      go_wp2_with fail
      go_ret
      exact ⟨rfl, G.trans g13 g4⟩
end Go.Proofs.YtkelfdhpekkiaacDoor
namespace Go.Proofs.YtkelfdhpekkiaacDoor
open Go.ChangeShapes Go.WideShapes Go.ChangeAt Go.RowKit
open BN
open EA (Z Low Is RnZ Rp top)

/-- A Rat that was made since w0; while nothing has written it, its block has its four cells alone. -/
def NR (w0 w : World) (p : Nat) (A B : Int) : Prop := w0.heap.size ≤ p ∧ p < w.heap.size ∧ RatIs w p A B ∧ (B = 0 → ∀ i, 4 ≤ i → w.cell? ⟨p, i, none⟩ = none)
theorem NR.G {w0 w w' : World} {p : Nat} {A B : Int} (h : NR w0 w p A B) (g : G w w') : NR w0 w' p A B :=
  ⟨h.1, Nat.lt_of_lt_of_le h.2.1 g.size, h.2.2.1.G h.2.1 g, fun hb i hi => (Below.cell g h.2.1).trans (h.2.2.2 hb i hi)⟩
theorem NR.new {w0 w : World} (g : Go.Proofs.YtkelfdhpekkiaacDoor.G w0 w) (t : TypeId) : NR w0 (w.alloc (.cells #[.bool false, .slice none 0 0, .bool false, .slice none 0 0] t)) w.heap.size 0 0 := by
  refine ⟨g.size, by simp, rat_new w t, fun _ i hi => ?_⟩
  rw [World.cell?_alloc_at _ _ _ _ rfl]
  exact Array.getElem?_eq_none (by simpa using hi)
theorem NR.of {w0 w : World} {p : Nat} {A B : Int} (h1 : w0.heap.size ≤ p) (h2 : p < w.heap.size) (h3 : RatIs w p A B) (h4 : B ≠ 0) : NR w0 w p A B := ⟨h1, h2, h3, fun h => absurd h h4⟩

theorem num_keep {w w' : World} {b : Nat} (hz : RatIs w b 0 0) (h4 : ∀ i, 4 ≤ i → w.cell? ⟨b, i, none⟩ = none) (h : GX b w w') {v : Value} {n : Nat} (hn : Num w v n) : Num w' v n := by
  obtain ⟨⟨n0, v0, a0, ⟨c1, c2, -, -⟩, hv0, -, -⟩, ⟨n1, v1, a1, ⟨c3, c4, -, -⟩, hv1, -, -⟩⟩ := hz
  obtain ⟨l, ⟨h1, h2⟩, h3⟩ := hn
  refine ⟨l, ⟨h1, ?_⟩, h3⟩
  rcases h2 with h2 | ⟨b1, o1, c, e1, hc, hb, hr⟩
  · exact Or.inl h2
  · refine Or.inr ⟨b1, o1, c, e1, hc, Nat.lt_of_lt_of_le hb h.size, fun i hi => ?_⟩
    have hci := hr i hi
    by_cases hbb : b1 = b
    · exfalso
      subst hbb
      have hcase : o1 + i = 0 ∨ o1 + i = 1 ∨ o1 + i = 2 ∨ o1 + i = 3 ∨ 4 ≤ o1 + i := by omega
      rcases hcase with e | e | e | e | e
      · rw [e, c1] at hci; cases hci
      · rw [e] at hci; rw [show (1 : Nat) = 0 + 1 from rfl, c2] at hci; exact num_slice hv0 _ _ (Option.some.inj hci)
      · rw [e, c3] at hci; cases hci
      · rw [e] at hci; rw [show (3 : Nat) = 2 + 1 from rfl, c4] at hci; exact num_slice hv1 _ _ (Option.some.inj hci)
      · rw [h4 _ e] at hci; cases hci
    · exact (World.cell?_of_block (h.block b1 hb (fun e => hbb (Option.some.inj e)))).trans hci
theorem rat_keep {w w' : World} {b p : Nat} {A B : Int} (hz : RatIs w b 0 0) (h4 : ∀ i, 4 ≤ i → w.cell? ⟨b, i, none⟩ = none) (h : GX b w w') (hp : p < w.heap.size) (hne : p ≠ b) (hr : RatIs w p A B) : RatIs w' p A B := by
  have hb := h.block p hp (fun e => hne (Option.some.inj e))
  obtain ⟨⟨n0, v0, a0, ⟨c1, c2, f1, f2⟩, hv0, k1, k2⟩, ⟨n1, v1, a1, ⟨c3, c4, f3, f4⟩, hv1, k3, k4⟩⟩ := hr
  exact ⟨⟨n0, v0, a0, ⟨(World.cell?_of_block hb).trans c1, (World.cell?_of_block hb).trans c2, (World.frozen?_of_block hb).trans f1, (World.frozen?_of_block hb).trans f2⟩, num_keep hz h4 h hv0, k1, k2⟩,
    ⟨n1, v1, a1, ⟨(World.cell?_of_block hb).trans c3, (World.cell?_of_block hb).trans c4, (World.frozen?_of_block hb).trans f3, (World.frozen?_of_block hb).trans f4⟩, num_keep hz h4 h hv1, k3, k4⟩⟩

def StepR (w0 w : World) (p : Nat) (A : Int) (B : Nat) (e : Ending) (w' : World) : Prop :=
  e = .returned (.pointer (some ⟨p, 0, none⟩)) ∧ G w0 w' ∧ NR w0 w' p A (B : Int) ∧ w.heap.size ≤ w'.heap.size ∧ ∀ p2 A2 B2, p2 ≠ p → NR w0 w p2 A2 B2 → NR w0 w' p2 A2 B2
theorem NormTo.step {w0 w : World} {p : Nat} {A : Int} {B : Nat} {e : Ending} {w' : World} (g : Go.Proofs.YtkelfdhpekkiaacDoor.G w0 w) (hz : NR w0 w p 0 0) (h : NormTo w p A B e w') (hB : 0 < B) : StepR w0 w p A B e w' := by
  obtain ⟨h1, h2, h3⟩ := h
  refine ⟨h1, GX.fresh g h2 hz.1, NR.of hz.1 (Nat.lt_of_lt_of_le hz.2.1 h2.size) h3 (by omega), h2.size, fun p2 A2 B2 hne hx => ?_⟩
  refine ⟨hx.1, Nat.lt_of_lt_of_le hx.2.1 h2.size, rat_keep hz.2.2.1 (hz.2.2.2 rfl) h2 hx.2.1 hne hx.2.2.1, fun hb i hi => ?_⟩
  have hb2 := h2.block p2 hx.2.1 (fun e => hne (Option.some.inj e))
  exact (World.cell?_of_block hb2).trans (hx.2.2.2 hb i hi)
end Go.Proofs.YtkelfdhpekkiaacDoor
