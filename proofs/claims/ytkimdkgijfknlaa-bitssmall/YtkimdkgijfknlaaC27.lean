/- What is proved here: small floats there and back: what Pack and Unpack of package bits and the reference's Small and Large come to, for each class of inputs. -/
import Derived.Test.YtkimdkgijfknlaaC25
import Derived.Test.YtkimdkgijfknlaaC26
import Derived.Test.YtkimdkgijfknlaaC7
namespace Go.Proofs.Ytkimdkgijfknlaa
open Go.ChangeShapes Go.WideShapes Go.ChangeAt Go.RowKit
open BN

/-- 'nearest' hangs on the number alone. -/
theorem nearV_same {E F m m' : Nat} {e e' : Int} (h0 : m ≠ 0) (hm : m < 2 ^ 64) (hm' : m' < 2 ^ 64) (d : Nat) (he : e = e' + d) (h : m * 2 ^ d = m') : nearV E F m e = nearV E F m' e' := by
  have h0' : m' ≠ 0 := by rw [← h]; exact Nat.mul_ne_zero h0 (Nat.ne_of_gt (Nat.two_pow_pos _))
  have hlg : m'.log2 = m.log2 + d := by rw [← h]; exact FT.log2_mul_pow h0
  have hsum : e + (m.log2 : Int) = e' + (m'.log2 : Int) := by rw [hlg, he]; push_cast; omega
  have hsh : ∀ x : Int, shV m (e - x) = shV m' (e' - x) := by
    intro x
    rw [shV_round m _ hm, shV_round m' _ hm']
    refine roundQ_cross (Nat.two_pow_pos _) (Nat.two_pow_pos _) ?_
    rw [← h, Nat.mul_assoc, Nat.mul_assoc, Nat.mul_assoc, ← Nat.pow_add, ← Nat.pow_add, ← Nat.pow_add]
    congr 2
    omega
  unfold nearV
  rw [if_neg h0, if_neg h0', hsum]
  split
  · rfl
  · congr 1
    exact hsh _

/-- A format's own fields. -/
theorem nearV_own {E F ex fr mag : Nat} {P : Int} (hE : 2 ≤ E) (hfr : fr < 2 ^ F) (hex : ex < 2 ^ E - 1) (hm : (if ex = 0 then fr else 2 ^ F + fr) = mag) (hP : P = (max ex 1 : Nat) - (2 ^ (E - 1) - 1) - F) : nearV E F mag P = ex * 2 ^ F + fr := by
  have hEp : (2 : Nat) ^ E = 2 * 2 ^ (E - 1) := by
    obtain ⟨d, rfl⟩ : ∃ d, E = d + 1 := ⟨E - 1, by omega⟩
    simp [Nat.pow_succ, Nat.mul_comm]
  have hM : 2 ≤ 2 ^ (E - 1) := by
    have : 2 ^ 1 ≤ 2 ^ (E - 1) := pow_le (by omega)
    omega
  have hMi : (2 : Int) ^ (E - 1) = ((2 ^ (E - 1) : Nat) : Int) := FT.ipow _
  have hs0 : ∀ v, shV v 0 = v := fun v => by unfold shV; simp
  rw [hEp] at hex
  unfold nearV
  rw [hMi] at hP ⊢
  generalize 2 ^ (E - 1) = M at *
  by_cases hz : ex = 0
  · rw [if_pos hz] at hm
    subst hz hm
    by_cases h0 : fr = 0
    · rw [if_pos h0, h0]; simp
    · rw [if_neg h0]
      have hl : fr.log2 < F := (Nat.log2_lt h0).2 hfr
      rw [if_neg (by omega)]
      have hp : max (P + (fr.log2 : Int)) (2 - (M : Int)) = 2 - M := by omega
      rw [hp, show P - (2 - (M : Int) - F) = 0 from by omega, hs0, show (2 - (M : Int) - (2 - (M : Int))).toNat = 0 from by omega]
  · rw [if_neg hz] at hm
    have h0 : mag ≠ 0 := by have := Nat.two_pow_pos F; omega
    have hl : mag.log2 = F := by
      have a : mag.log2 < F + 1 := (Nat.log2_lt h0).2 (by rw [Nat.pow_succ]; omega)
      have b : ¬ mag.log2 < F := by rw [Nat.log2_lt h0]; omega
      omega
    rw [if_neg h0, hl, if_neg (by omega)]
    have hp : max (P + (F : Int)) (2 - (M : Int)) = ex - (M - 1) := by omega
    rw [hp, show P - ((ex : Int) - (M - 1) - F) = 0 from by omega, hs0, show ((ex : Int) - (M - 1) - (2 - (M : Int))).toNat = ex - 1 from by omega, ← hm]
    have : ex * 2 ^ F = (ex - 1) * 2 ^ F + 2 ^ F := by rw [← Nat.succ_mul]; congr 1; omega
    omega

/-- The float that a number of a format is: its fields, and packed it is as before. -/
theorem back_fields {q E F : Nat} {P : Int} (hq : q < 2 ^ 53) (hP1 : -1000 ≤ P) (hP2 : P ≤ 900) :
    ∃ ex fr mag : Nat, nearV 11 52 q P = ex * 2 ^ 52 + fr ∧ ex < 2047 ∧ fr < 2 ^ 52 ∧ (if ex = 0 then fr else 2 ^ 52 + fr) = mag ∧ nearV E F mag ((max ex 1 : Nat) - 1075) = nearV E F q P := by
  by_cases h0 : q = 0
  · refine ⟨0, 0, 0, ?_, by omega, by omega, rfl, ?_⟩
    · subst h0; unfold nearV; simp
    · subst h0; unfold nearV; simp
  · obtain ⟨sh, t, hs1, ht, hsh, -, hl⟩ := full_shift q h0 hq
    have hlg : q.log2 < 53 := (Nat.log2_lt h0).2 hq
    refine ⟨(P + q.log2 + 1023).toNat, t, 2 ^ 52 + t, nearV_mid q sh t P h0 hq hsh hl (by omega) (by omega), by omega, ht, by rw [if_neg (by omega)], ?_⟩
    refine (nearV_same h0 (by omega) (by omega) sh ?_ hsh).symm
    omega

/-- A number x in a format: package bits and the reference. -/
theorem pack_num {x E F : Nat} (hf : okForm E F = true) (hx : x < 2 ^ 64) (hn : FT.nan x = false) :
    ∃ pk : Nat, (∀ w, Calls Try.prog 7 #[.float .f64 x, .agg #[.int .i64 E, .int .i64 F]] w fun e w' => e = .returned (.tuple #[.int .u64 (pk : Int), .int .i64 0]) ∧ G w w') ∧
      (∀ w, Calls Try.prog 9 #[.float .f64 x, .agg #[.int .i64 E, .int .i64 F]] w fun e w' => e = .returned (.int .u64 (pk : Int)) ∧ G w w') := by
  have hk := okForm_iff.1 hf
  have hrf := FT.rung_fields x
  have hrl := FT.rung_lt x
  generalize hex : x / 2 ^ 52 % 2 ^ 11 = ex at *
  generalize hfr : x % 2 ^ 52 = fr at *
  have hfl : fr < 2 ^ 52 := by omega
  have hnr := FT.nan_false hn
  by_cases hi : ex = 2047
  · have hf0 : fr = 0 := by unfold FT.infR at hnr; omega
    rw [hi] at hex
    rw [hf0] at hfr
    refine ⟨_, fun w => pack_inf_c x E F w hf hx hex hfr, fun w => small_inf x E F w (by omega) (by omega) (by omega) (by omega) hx (by rw [hrf, hi, hf0]; rfl)⟩
  · have hexl : ex < 2047 := by unfold FT.infR at hnr; omega
    obtain ⟨mag, hm⟩ : ∃ mag, (if ex = 0 then fr else 2 ^ 52 + fr) = mag := ⟨_, rfl⟩
    refine ⟨_, fun w => pack_fin_c x ex fr mag E F w hf hx hex hfr hexl hm, fun w => ?_⟩
    by_cases hz : FT.rung x = 0
    · have h1 : ex = 0 := by omega
      have h2 : fr = 0 := by omega
      rw [if_pos h1, h2] at hm
      have := small_zero x E F w (by omega) (by omega) (by omega) (by omega) hx hz
      rw [← hm]
      have e0 : nearV E F 0 ((max ex 1 : Nat) - 1075) = 0 := by unfold nearV; rw [if_pos rfl]
      rw [e0, Nat.zero_add]
      exact this
    · have hmag : mag ≠ 0 := by rw [← hm]; split <;> omega
      have hmg : mag < 2 ^ 53 := by rw [← hm]; split <;> omega
      obtain ⟨sh, t, hs1, ht, hsh, hs2, hl⟩ := full_shift mag hmag hmg
      have hlg : mag.log2 < 53 := (Nat.log2_lt hmag).2 hmg
      obtain ⟨r, hr⟩ : ∃ r, FT.rung x = r := ⟨_, rfl⟩
      rw [hr] at hrf hz hrl
      have hr64 : r < 2 ^ 64 := by omega
      have hre : r / 2 ^ 52 % 2 ^ 11 = ex := by omega
      have hrm : r % 2 ^ 52 = fr := by omega
      have hrn : FT.neg r = false := by unfold FT.neg; simp; omega
      have hs2' : ex ≠ 0 → sh = 0 := by intro hzz; apply hs2; rw [← hm, if_neg hzz]; omega
      have hT2 : ((max ex 1 : Nat) : Int) - 1075 + mag.log2 ≤ 1023 := by
        by_cases hzz : ex = 0
        · omega
        · have := hs2' hzz; omega
      have hfe : (((max ex 1 : Nat) : Int) - 1022 - sh) = (((max ex 1 : Nat) : Int) - 1075 + mag.log2) + 1 := by omega
      have K3 := fun w => frexp_c r ex fr mag sh t w hr64 hre hrm hexl hm hmag ht hsh hs1 hs2'
      rw [hfe] at K3
      have KR := fun w => ratF_c w r ex fr mag hr64 hre hrm hexl hm
      rw [hrn] at KR
      exact small_fin x ex mag _ _ _ E F w (by omega) (by omega) (by omega) (by omega) hx r hr hz (by unfold FT.infR; omega) _ hmag hmg hexl rfl rfl rfl (by omega) hT2 K3 KR (fun P h1 h2 w => pow2_c P (by omega) (by omega) w)

/-- Bits of a format that are a number: package bits and the reference, and back. -/
theorem unpack_num {b E F : Nat} (hf : okForm E F = true) (hb : b < 2 ^ (E + F + 1)) (hn : ¬ (b / 2 ^ F % 2 ^ E = 2 ^ E - 1 ∧ b % 2 ^ F ≠ 0)) :
    ∃ y : Nat, y < 2 ^ 64 ∧ FT.nan y = false ∧
      (∀ w, Calls Try.prog 8 #[.int .u64 (b : Int), .agg #[.int .i64 E, .int .i64 F]] w fun e w' => e = .returned (.tuple #[.float .f64 y, .int .i64 0]) ∧ G w w') ∧
      (∀ w, Calls Try.prog 10 #[.int .u64 (b : Int), .agg #[.int .i64 E, .int .i64 F]] w fun e w' => e = .returned (.tuple #[.float .f64 y, .bool true]) ∧ G w w') ∧
      (∀ w, Calls Try.prog 7 #[.float .f64 y, .agg #[.int .i64 E, .int .i64 F]] w fun e w' => e = .returned (.tuple #[.int .u64 (b : Int), .int .i64 0]) ∧ G w w') := by
  have hk := okForm_iff.1 hf
  have hb' : ¬ 2 ^ (E + F + 1) ≤ b := by omega
  have hE8 : 2 ^ E ≤ 2 ^ 8 := pow_le (by omega)
  have hF23 : 2 ^ F ≤ 2 ^ 23 := pow_le (by omega)
  have hMb : (1 : Int) ≤ 2 ^ (E - 1) ∧ (2 : Int) ^ (E - 1) ≤ 128 := pow_bd (show E - 1 ≤ 7 by omega)
  obtain ⟨s, hs⟩ : ∃ s, (b / 2 ^ (E + F) % 2 == 1) = s := ⟨_, rfl⟩
  obtain ⟨ex, hex⟩ : ∃ ex, b / 2 ^ F % 2 ^ E = ex := ⟨_, rfl⟩
  obtain ⟨fr, hfr⟩ : ∃ fr, b % 2 ^ F = fr := ⟨_, rfl⟩
  have hfl : fr < 2 ^ F := by rw [← hfr]; exact Nat.mod_lt _ (Nat.two_pow_pos _)
  have hel : ex < 2 ^ E := by rw [← hex]; exact Nat.mod_lt _ (Nat.two_pow_pos _)
  have hbs : b = ex * 2 ^ F + fr + (if s then 2 ^ (E + F) else 0) := by
    have h1 : b / 2 ^ (E + F) < 2 := by rw [Nat.div_lt_iff_lt_mul (Nat.two_pow_pos _)]; rw [Nat.pow_succ] at hb; omega
    have h2 := Nat.div_add_mod b (2 ^ F)
    have h3 := Nat.div_add_mod (b / 2 ^ F) (2 ^ E)
    rw [Nat.div_div_eq_div_mul, ← Nat.pow_add, Nat.add_comm F E, hex] at h3
    rw [hfr] at h2
    rw [Nat.mod_eq_of_lt h1] at hs
    rw [Nat.pow_add]
    have h4 : b / 2 ^ (E + F) = if s then 1 else 0 := by
      rw [← hs]
      generalize b / 2 ^ (E + F) = z at *
      have : z = 0 ∨ z = 1 := by omega
      rcases this with h | h <;> subst h <;> rfl
    rw [h4] at h3
    rw [← h2, ← h3]
    cases s
    · simp; rw [Nat.mul_comm]
    · simp; rw [Nat.mul_add, Nat.mul_comm (2 ^ F) (2 ^ E), Nat.mul_comm (2 ^ F) ex]; omega
  rw [hex, hfr] at hn
  by_cases hi : ex = 2 ^ E - 1
  · have hf0 : fr = 0 := by
      by_cases h : fr = 0
      · exact h
      · exact absurd ⟨hi, h⟩ hn
    rw [hf0] at hfr
    have hy : (if s then FT.infR + 2 ^ 63 else FT.infR) = FT.wrd s FT.infR := by unfold FT.wrd; rfl
    have hI : FT.infR < 2 ^ 63 := by decide
    have hyf := FT.fields_wrd s 2047 0 (by omega) (by omega)
    have hir : FT.infR = 2047 * 2 ^ 52 + 0 := rfl
    rw [← hir] at hyf
    refine ⟨_, ?_, ?_, fun w => unpack_inf_c b ex s E F w hf hb' hs hex hfr hi, fun w => large_inf b ex 0 E F w (by omega) (by omega) (by omega) (by omega) hb s hs hex hfr hi rfl, fun w => ?_⟩
    · rw [hy]; exact FT.wrd_lt s _ hI
    · rw [hy]; unfold FT.nan; rw [FT.wrd_rung s _ hI]; decide
    · rw [hy]
      have := pack_inf_c (FT.wrd s FT.infR) E F w hf (FT.wrd_lt s _ hI) hyf.1 hyf.2
      rw [FT.wrd_neg s _ hI, ← hi] at this
      rw [hbs, hf0, Nat.add_zero]
      exact this
  · have hexl : ex < 2 ^ E - 1 := by omega
    obtain ⟨mag, hm⟩ : ∃ mag, (if ex = 0 then fr else 2 ^ F + fr) = mag := ⟨_, rfl⟩
    obtain ⟨P, hP⟩ : ∃ P : Int, P = (max ex 1 : Nat) - (2 ^ (E - 1) - 1) - F := ⟨_, rfl⟩
    have hmg : mag < 2 ^ 53 := by rw [← hm]; split <;> omega
    have hown := nearV_own (by omega) hfl hexl hm hP
    obtain ⟨ey, fy, my, hv, hey, hfy, hmy, hback⟩ := back_fields (E := E) (F := F) (P := P) hmg (by omega) (by omega)
    have hU := fun w => unpack_fin_c b ex fr mag s E F w hf hb' hs hex hfr hexl hm
    rw [← hP] at hU
    have hy : (if s then nearV 11 52 mag P + 2 ^ 63 else nearV 11 52 mag P) = FT.wrd s (ey * 2 ^ 52 + fy) := by unfold FT.wrd; rw [hv]
    have hlt : ey * 2 ^ 52 + fy < 2 ^ 63 := by omega
    have hyf := FT.fields_wrd s ey fy (by omega) hfy
    refine ⟨_, ?_, ?_, hU, fun w => ?_, fun w => ?_⟩
    · rw [hy]; exact FT.wrd_lt s _ hlt
    · rw [hy]; unfold FT.nan FT.infR; rw [FT.wrd_rung s _ hlt]; simp; omega
    · by_cases hz : ex = 0
      · rw [if_pos hz] at hm
        exact large_sub b ex fr mag P E F w (by omega) (by omega) (by omega) (by omega) hb s hs hex hfr hexl hz hm.symm (by rw [hP, hz]; simp)
      · rw [if_neg hz] at hm
        exact large_nor b ex fr mag P E F w (by omega) (by omega) (by omega) (by omega) hb s hs hex hfr hexl hz hm.symm (by rw [hP, show max ex 1 = ex from by omega])
    · rw [hy]
      have := pack_fin_c (FT.wrd s (ey * 2 ^ 52 + fy)) ey fy my E F w hf (FT.wrd_lt s _ hlt) hyf.1 hyf.2 hey hmy
      rw [FT.wrd_neg s _ hlt, hback, hown, ← hbs] at this
      exact this

end Go.Proofs.Ytkimdkgijfknlaa
