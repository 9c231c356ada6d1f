/- What is proved here: the law BitsParts returns true for any word of 64 bits and any fields, in memory in which the library's table lies where it was laid; nothing that was there has turned. -/
import Derived.Test.YthbjdmadbakchaaDoorPB
namespace Go.Proofs.YthbjdmadbakchaaDoor
open Go.ChangeShapes Go.WideShapes Go.ChangeAt Go.RowKit
attribute [local go_sem] frombits_r tobits_r unary_negf

theorem kind_eq (x : Nat) : kindV (x / 2 ^ 52 % 2 ^ 11) (x % 2 ^ 52) = kindR x := by
  have hrf := FT.rung_fields x
  have h1 : x / 2 ^ 52 % 2 ^ 11 < 2 ^ 11 := Nat.mod_lt _ (by omega)
  have h2 : x % 2 ^ 52 < 2 ^ 52 := Nat.mod_lt _ (by omega)
  unfold kindV kindR FT.nan FT.infR
  generalize x / 2 ^ 52 % 2 ^ 11 = e at *
  generalize x % 2 ^ 52 = f at *
  rw [hrf]
  simp only [decide_eq_true_eq]
  (repeat' split) <;> omega

theorem word_parts (x : Nat) (h : x < 2 ^ 64) : (if FT.neg x then x / 2 ^ 52 % 2 ^ 11 * 2 ^ 52 + x % 2 ^ 52 + 2 ^ 63 else x / 2 ^ 52 % 2 ^ 11 * 2 ^ 52 + x % 2 ^ 52) = x := by
  rw [← FT.rung_fields x]
  rcases FT.neg_cases x h with ⟨a1, a2⟩ | ⟨a1, a2⟩
  · rw [if_pos a1]; omega
  · rw [if_neg (by rw [a1]; simp)]; omega

theorem parts_x (x : Nat) (h : x < 2 ^ 64) : PartsX x (x / 2 ^ 52 % 2 ^ 11) (x % 2 ^ 52) (FT.neg x) (kindR x) :=
  { M := made_c
    S1 := fun w => split_c x _ _ w h rfl rfl
    K1 := fun w => by have := kind_c x _ _ w h rfl rfl; rw [kind_eq] at this; exact this
    K2 := fun w => kindof_c x w h
    G1 := fun w => signbit_c x w h
    J1 := fun w => by
      have := join_c (FT.neg x) (x / 2 ^ 52 % 2 ^ 11) (x % 2 ^ 52) w (by omega) (by omega)
      rw [word_parts x h] at this
      exact this
    E1 := by
      have := FT.and_mask (x / 2 ^ 52) 11 (by omega) (by omega)
      rw [show ((x : Int) / 4503599627370496) = ((x / 2 ^ 52 : Nat) : Int) from by omega]
      exact this
    E2 := FT.and_mask x 52 h (by omega)
    X1 := by omega }

/-- What a finite number plus 0 is. -/
def addz (x : Nat) : Nat := if FT.rung x = 0 then 0 else x
theorem add_zero_w (x : Nat) (h : x < 2 ^ 64) (hr : FT.rung x < FT.infR) : floatBits .add .f64 x 0 = some (addz x) := by
  show Ieee.double.add x 0 = _
  unfold Ieee.Format.add
  obtain ⟨m, p, e, hp, hv, h0⟩ := FT.read_number hr
  have e0 : Ieee.double.read 0 = .number false 0 (-1074) := by
    have := FT.read_sub false 0 (by omega)
    exact this
  rw [e, e0]
  have hb : min p (-1074) = -1074 := by omega
  have hs : Ieee.signed false 0 ((-1074 : Int) - -1074).toNat = 0 := by decide
  have hps : (p - -1074).toNat = (p + 1074).toNat := by omega
  simp only [Ieee.Datum.sum, hb, hs, Int.add_zero, Option.map_some, Ieee.Format.write, hps]
  congr 1
  have hsg : Ieee.signed (FT.neg x) m (p + 1074).toNat = (if FT.neg x then -1 else 1) * (FT.v (FT.rung x) : Int) := by rw [FT.signed_eq, hv]
  rw [hsg]
  unfold addz
  by_cases hz : FT.rung x = 0
  · rw [if_pos hz, hz]
    have : FT.v 0 = 0 := rfl
    rw [this]
    simp only [Int.natCast_zero, Int.mul_zero, if_true, Bool.and_false, Int.natAbs_zero]
    unfold Ieee.Format.nearest
    rw [if_pos rfl]
    rfl
  · rw [if_neg hz]
    have hvr : FT.v (FT.rung x) ≠ 0 := by
      intro hv0
      exact hz (FT.v_inj (hv0.trans (show FT.v 0 = 0 from rfl).symm))
    have hw : x = FT.wrd (FT.neg x) (FT.rung x) := by
      rcases FT.neg_cases x h with ⟨a1, a2⟩ | ⟨a1, a2⟩ <;> rw [a1] <;> exact a2
    have hnx : Ieee.double.nearest (FT.neg x) (FT.v (FT.rung x)) (-1074) = x := by
      have e1 : ((-1074 : Int) + 1074).toNat = 0 := by decide
      have e2 : (-1074 - (-1074 : Int)).toNat = 0 := by decide
      rw [FT.nearest_exact (FT.neg x) _ (-1074) (FT.rung x) hr hvr (by rw [e1, e2]), FT.word_eq, ← hw]
    generalize FT.v (FT.rung x) = vr at hvr hnx ⊢
    have hE : ∀ (t : Int) (s : Bool), t = (if s then -1 else 1) * (vr : Int) → t ≠ 0 ∧ decide (t < 0) = s ∧ t.natAbs = vr := by
      intro t s ht
      cases s
      · simp at ht; subst ht; refine ⟨by omega, by simp, by omega⟩
      · simp at ht; subst ht; refine ⟨by omega, by simp; omega, by omega⟩
    obtain ⟨q1, q2, q3⟩ := hE _ (FT.neg x) rfl
    rw [if_neg q1, q2, q3, hnx]

theorem parts_fields (x : Nat) (neg : Bool) (exp : Int) (frac : Nat) (w : World)
    (key : ∀ (good : Bool), (good = true → 0 ≤ exp ∧ exp ≤ 2047 ∧ frac < 2 ^ 52) → (good = false → exp < 0 ∨ (0 ≤ exp ∧ 2047 < exp) ∨ (0 ≤ exp ∧ exp ≤ 2047 ∧ 2 ^ 52 ≤ frac)) →
      Calls Tryd.prog 3 #[.float .f64 x, .bool neg, .int .i64 exp, .int .u64 frac] w fun e w' => e = .returned (.bool true) ∧ G w w') :
    Calls Tryd.prog 3 #[.float .f64 x, .bool neg, .int .i64 exp, .int .u64 frac] w fun e w' => e = .returned (.bool true) ∧ G w w' := by
  by_cases h : 0 ≤ exp ∧ exp ≤ 2047 ∧ frac < 2 ^ 52
  · exact key true (fun _ => h) (fun h' => by cases h')
  · exact key false (fun h' => by cases h') (fun _ => by omega)

theorem zero_ne : (FloatKind.f64.format.order 0 0 != some .eq) = false := by
  rw [FT.neq_self]; decide

theorem odd_zero_c (x : Nat) (w : World) (hr : FT.rung x = 0) :
    Calls Tryd.prog 15 #[.float .f64 x] w fun r w' => r = .returned (.tuple #[.int .i64 0, .int .i64 0]) ∧ G w w' := by
  have e1 := FT.eq_zero x
  rw [decide_eq_true hr] at e1
  go_enter Tryd.func15, Tryd.ntmps15
  go_wp2
  go_ret2
  exact ⟨rfl, G.refl _⟩

/-- What the fields' part of the law's callees give. -/
theorem join_ok (neg : Bool) (exp frac : Nat) (h1 : exp ≤ 2047) (h2 : frac < 2 ^ 52) :
    ∃ y, (∀ w, Calls Tryd.prog 12 #[.bool neg, .int .i64 exp, .int .u64 frac] w fun e w' => e = .returned (.tuple #[.float .f64 y, .int .i64 0]) ∧ G w w') ∧
      (∀ w, Calls Tryd.prog 7 #[.float .f64 y] w fun e w' => e = .returned (.tuple #[.bool neg, .int .i64 exp, .int .u64 frac]) ∧ G w w') := by
  refine ⟨FT.wrd neg (exp * 2 ^ 52 + frac), fun w => join_c neg exp frac w h1 h2, fun w => ?_⟩
  obtain ⟨q1, q2⟩ := FT.fields_wrd neg exp frac (by omega) h2
  have := split_c _ exp frac w (FT.wrd_lt neg (exp * 2 ^ 52 + frac) (by omega)) q1 q2
  rw [FT.wrd_neg neg _ (by omega)] at this
  exact this

theorem parts_inf_c (x : Nat) (neg : Bool) (exp : Int) (frac : Nat) (w : World) (hx : x < 2 ^ 64) (ht : Tab w) (hr : ¬ FT.rung x < FT.infR) :
    Calls Tryd.prog 3 #[.float .f64 x, .bool neg, .int .i64 exp, .int .u64 frac] w fun e w' => e = .returned (.bool true) ∧ G w w' := by
  have hrf := FT.rung_fields x
  have he : x / 2 ^ 52 % 2 ^ 11 = 2047 := by unfold FT.infR at hr; omega
  have W1 := fun w (_ : Tab w) => whole_nan_c x _ w hx he rfl
  have F1 := fun w => finite_c x w hx
  rw [decide_eq_false hr] at F1
  have X := parts_x x hx
  refine parts_fields x neg exp frac w (fun good hg hb => ?_)
  cases good
  · rcases hb rfl with h | h | h
    · exact parts_inf_lo x _ _ _ neg _ w X W1 F1 exp frac h (fun w => join_bad_c neg exp frac w (by omega)) zero_ne ht
    · exact parts_inf_hi x _ _ _ neg _ w X W1 F1 exp frac h.2 (fun w => join_bad_c neg exp frac w (by omega)) zero_ne ht
    · exact parts_inf_fr x _ _ _ neg _ w X W1 F1 exp frac h.1 h.2.1 (by omega) (fun w => join_bad_c neg exp frac w (by omega)) zero_ne ht
  · obtain ⟨g1, g2, g3⟩ := hg rfl
    obtain ⟨k, rfl⟩ := Int.eq_ofNat_of_zero_le g1
    obtain ⟨y, J, S⟩ := join_ok neg k frac (by omega) g3
    exact parts_inf_ok x _ _ _ neg _ w X W1 F1 k frac y (by omega) (by omega) J S ht

theorem parts_fin_c (x : Nat) (neg : Bool) (exp : Int) (frac : Nat) (w : World) (hx : x < 2 ^ 64) (ht : Tab w) (hr : FT.rung x < FT.infR) :
    Calls Tryd.prog 3 #[.float .f64 x, .bool neg, .int .i64 exp, .int .u64 frac] w fun e w' => e = .returned (.bool true) ∧ G w w' := by
  have hrf := FT.rung_fields x
  have he : x / 2 ^ 52 % 2 ^ 11 < 2047 := by unfold FT.infR at hr; omega
  have F1 := fun w => finite_c x w hx
  rw [decide_eq_true hr] at F1
  have X := parts_x x hx
  have AD := fun (w : World) => run_float_arith (P := Tryd.prog) w .add 22 .f64 x 0 _ (add_zero_w x hx hr)
  obtain ⟨m, k, W1, O1, M1⟩ : ∃ m k : Int,
      (∀ w, Tab w → Calls Tryd.prog 13 #[.float .f64 x] w fun e w' => e = .returned (.tuple #[.int .i64 m, .int .i64 k, .int .i64 0]) ∧ G w w') ∧
      (∀ w, Calls Tryd.prog 15 #[.float .f64 x] w fun e w' => e = .returned (.tuple #[.int .i64 m, .int .i64 k]) ∧ G w w') ∧
      (∀ w, Calls Tryd.prog 17 #[.int .i64 m, .int .i64 k] w fun e w' => e = .returned (.float .f64 (addz x)) ∧ G w w') := by
    by_cases hz : FT.rung x = 0
    · refine ⟨0, 0, fun w _ => whole_zero_c x w hx (by omega) (by omega), fun w => odd_zero_c x w hz, fun w => ?_⟩
      have := make_c 0 0 w (by omega) (by omega) (by omega) (by omega)
      rw [if_neg (by omega), show nearV 11 52 (Int.natAbs 0) (clamp 0) = 0 from by decide +kernel] at this
      unfold addz
      rw [if_pos hz]
      exact this
    · generalize hex : x / 2 ^ 52 % 2 ^ 11 = ex at *
      generalize hfr : x % 2 ^ 52 = fr at *
      have hfl : fr < 2 ^ 52 := by omega
      have hm0 : (if ex = 0 then fr else 2 ^ 52 + fr) ≠ 0 := by split <;> omega
      obtain ⟨j, k, hj⟩ := FT.odd_part _ hm0
      have hml : (if ex = 0 then fr else 2 ^ 52 + fr) < 2 ^ 53 := by split <;> omega
      have hk : k < 64 := FT.tz_lt (j := j) (by rw [← hj]; omega)
      refine ⟨_, _, fun w ht => whole_c x ex fr _ j k w ht hx hex hfr he rfl hj, fun w => odd_c x ex fr _ j k w hx hex hfr he rfl hj, fun w => ?_⟩
      have hj1 : 2 * j + 1 < 2 ^ 53 := by
        have : (2 * j + 1) * 1 ≤ (2 * j + 1) * 2 ^ k := Nat.mul_le_mul_left _ (Nat.two_pow_pos k)
        omega
      have hv : FT.v (FT.rung x) = (2 * j + 1) * 2 ^ (max ex 1 - 1 + k) := by
        rw [Nat.pow_add, Nat.mul_comm (2 ^ (max ex 1 - 1)), ← Nat.mul_assoc, ← hj]
        by_cases he0 : ex = 0
        · subst he0
          rw [if_pos rfl, FT.v_sub (by omega), hrf]
          simp
        · rw [if_neg he0, hrf, FT.v_nor' ex fr (by omega) hfl, show max ex 1 - 1 = ex - 1 from by omega]
      have hcl : clamp (((max ex 1 : Nat) : Int) - 1075 + k) = ((max ex 1 : Nat) : Int) - 1075 + k := by unfold clamp; omega
      have hnr : nearV 11 52 (2 * j + 1) (((max ex 1 : Nat) : Int) - 1075 + k) = FT.rung x := by
        refine nearV_exact (2 * j + 1) (FT.rung x) _ (by omega) (by omega) hr ?_
        rw [hv, show ((((max ex 1 : Nat) : Int) - 1075 + k) + 1074).toNat = max ex 1 - 1 + k from by omega, show (-1074 - (((max ex 1 : Nat) : Int) - 1075 + k)).toNat = 0 from by omega, Nat.pow_zero, Nat.mul_one]
      have hax : addz x = x := by unfold addz; rw [if_neg hz]
      rw [hax]
      rcases FT.neg_cases x hx with ⟨a1, a2⟩ | ⟨a1, a2⟩
      · rw [a1, if_pos rfl]
        have := make_c (-(2 * (j : Int) + 1)) (((max ex 1 : Nat) : Int) - 1075 + k) w (by omega) (by omega) (by omega) (by omega)
        rw [if_pos (by omega), show Int.natAbs (-(2 * (j : Int) + 1)) = 2 * j + 1 from by omega, hcl, hnr, ← a2] at this
        exact this
      · rw [a1, if_neg (by simp)]
        have := make_c (2 * (j : Int) + 1) (((max ex 1 : Nat) : Int) - 1075 + k) w (by omega) (by omega) (by omega) (by omega)
        rw [if_neg (by omega), show Int.natAbs (2 * (j : Int) + 1) = 2 * j + 1 from by omega, hcl, hnr, ← a2] at this
        exact this
  have B1 : ∀ w, Calls Tryd.prog 16 #[.float .f64 (addz x), .float .f64 (addz x)] w fun e w' => e = .returned (.bool true) ∧ G w w' := by
    intro w
    have := bits_c (addz x) (addz x) w
    rw [show same (addz x) (addz x) = true from by unfold same; simp] at this
    exact this
  refine parts_fields x neg exp frac w (fun good hg hb => ?_)
  cases good
  · rcases hb rfl with h | h | h
    · exact parts_fin_lo x _ _ _ neg _ w X m k _ _ W1 F1 O1 M1 AD B1 exp frac h (fun w => join_bad_c neg exp frac w (by omega)) zero_ne ht
    · exact parts_fin_hi x _ _ _ neg _ w X m k _ _ W1 F1 O1 M1 AD B1 exp frac h.2 (fun w => join_bad_c neg exp frac w (by omega)) zero_ne ht
    · exact parts_fin_fr x _ _ _ neg _ w X m k _ _ W1 F1 O1 M1 AD B1 exp frac h.1 h.2.1 (by omega) (fun w => join_bad_c neg exp frac w (by omega)) zero_ne ht
  · obtain ⟨g1, g2, g3⟩ := hg rfl
    obtain ⟨q, rfl⟩ := Int.eq_ofNat_of_zero_le g1
    obtain ⟨y, J, S⟩ := join_ok neg q frac (by omega) g3
    exact parts_fin_ok x _ _ _ neg _ w X m k _ _ W1 F1 O1 M1 AD B1 q frac y (by omega) (by omega) J S ht

theorem parts_c (x : Nat) (neg : Bool) (exp frac : Int) (w : World) (hx : x < 2 ^ 64) (hf : 0 ≤ frac ∧ frac ≤ 18446744073709551615) (ht : Tab w) :
    Calls Tryd.prog 3 #[.float .f64 x, .bool neg, .int .i64 exp, .int .u64 frac] w fun e w' => e = .returned (.bool true) ∧ G w w' := by
  obtain ⟨f, rfl⟩ := Int.eq_ofNat_of_zero_le hf.1
  by_cases hr : FT.rung x < FT.infR
  · exact parts_fin_c x neg exp f w hx ht hr
  · exact parts_inf_c x neg exp f w hx ht hr

end Go.Proofs.YthbjdmadbakchaaDoor
