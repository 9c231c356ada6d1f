/- What is proved here: the closed fact 'made', and the reference's unit of the last place, over this seat's translation. -/
import Derived.Test.YthbjdmadbakchaaDoorB12
namespace Go.Proofs.YthbjdmadbakchaaDoor
open Go.ChangeShapes Go.WideShapes Go.ChangeAt Go.RowKit
attribute [local go_sem] frombits_r tobits_r unary_negf

theorem made_core (w : World)
    (H1 : ∀ w, Tab w → Calls Tryd.prog 13 #[.float .f64 4591870180066957722] w fun e w' => e = .returned (.tuple #[.int .i64 3602879701896397, .int .i64 (-55), .int .i64 0]) ∧ G w w')
    (H2 : ∀ w, Calls Tryd.prog 12 #[.bool true, .int .i64 1023, .int .u64 2251799813685248] w fun e w' => e = .returned (.tuple #[.float .f64 13832806255468478464, .int .i64 0]) ∧ G w w')
    (H3 : ∀ w, Calls Tryd.prog 17 #[.int .i64 3, .int .i64 (-1)] w fun e w' => e = .returned (.float .f64 4609434218613702656) ∧ G w w')
    (H4 : ∀ w, Calls Tryd.prog 22 #[.float .f64 4607182418800017408] w fun e w' => e = .returned (.float .f64 4607182418800017409) ∧ G w w')
    (E1 : (FloatKind.f64.format.order 13832806255468478464 13832806255468478464 == some .eq) = true)
    (E2 : (FloatKind.f64.format.order 4609434218613702656 4609434218613702656 == some .eq) = true)
    (E3 : (FloatKind.f64.format.order 4607182418800017409 4607182418800017409 == some .eq) = true) (ht : Tab w) :
    Calls Tryd.prog 6 #[] w fun e w' => e = .returned (.bool true) ∧ G w w' := by
  have K1 : Hid _ := H1
  have K2 : Hid _ := H2
  have K3 : Hid _ := H3
  have K4 : Hid _ := H4
  clear H1 H2 H3 H4
  go_enter Tryd.func6, Tryd.ntmps6
  go_wp2_with (go_at_call 13; refine (K1.out _ ht).mono ?_; rintro e w1 ⟨rfl, hb1⟩; clear ht)
  go_wp2_with (first | (go_at_call 12; refine (K2.out _).mono ?_; rintro e wn ⟨rfl, hbn⟩) | (go_at_call 17; refine (K3.out _).mono ?_; rintro e wn ⟨rfl, hbn⟩) | (go_at_call 22; refine (K4.out _).mono ?_; rintro e wn ⟨rfl, hbn⟩))
  go_ret
  exact ⟨rfl, (by repeat' (first | exact G.refl _ | assumption | refine G.alloc ?_ _ | refine G.drew ?_ | refine G.drewN ?_ _ | (refine G.trans ?_ (by assumption))))⟩

theorem made_c (w : World) (ht : Tab w) :
    Calls Tryd.prog 6 #[] w fun e w' => e = .returned (.bool true) ∧ G w w' := by
  refine made_core w (fun w ht => ?_) (fun w => ?_) (fun w => ?_) (fun w => ?_) ?_ ?_ ?_ ht
  · have := whole_c 4591870180066957722 1019 2702159776422298 7205759403792794 1801439850948198 1 w ht (by decide) (by decide) (by decide) (by decide) (by decide) (by decide)
    exact this
  · have := join_c true 1023 2251799813685248 w (by decide) (by decide)
    exact this
  · have := make_c 3 (-1) w (by decide) (by decide) (by decide) (by decide)
    have e : nearV 11 52 (Int.natAbs 3) (clamp (-1)) = 4609434218613702656 := by decide +kernel
    rw [if_neg (by decide), e] at this
    exact this
  · have := next_c 4607182418800017408 w (by decide)
    have e : nextV 4607182418800017408 = 4607182418800017409 := by decide +kernel
    rw [e] at this
    exact this
  · rw [FT.eq_self]; decide +kernel
  · rw [FT.eq_self]; decide +kernel
  · rw [FT.eq_self]; decide +kernel

set_option maxRecDepth 100000 in
theorem ulpof_inf_c (b : Nat) (w : World) (h : b < 2 ^ 64) (hr : ¬ FT.rung b < FT.infR) :
    Calls Tryd.prog 25 #[.float .f64 b] w fun e w' => e = .returned (.float .f64 0) ∧ G w w' := by
  have K1 : Hid _ := fun w => finite_c b w h
  rw [decide_eq_false hr] at K1
  clear h hr
  go_enter Tryd.func25, Tryd.ntmps25
  go_wp2_with (first | (go_at_call 14; refine (K1.out _).mono ?_; rintro e wn ⟨rfl, hbn⟩))
  go_ret
  exact ⟨rfl, (by repeat' (first | exact G.refl _ | assumption | refine G.alloc ?_ _ | refine G.drew ?_ | refine G.drewN ?_ _ | (refine G.trans ?_ (by assumption))))⟩

set_option maxRecDepth 100000 in
theorem ulpof_small_c (b : Nat) (w : World) (h : b < 2 ^ 64) (hr : FT.rung b < 2 * 2 ^ 52) :
    Calls Tryd.prog 25 #[.float .f64 b] w fun e w' => e = .returned (.float .f64 1) ∧ G w w' := by
  have K1 : Hid _ := fun w => finite_c b w h
  rw [decide_eq_true (by unfold FT.infR; omega)] at K1
  have K2 : Hid _ := fun w => abs_c b w h
  have e2 := FT.lt_const b 9007199254740992 (by decide)
  rw [decide_eq_true (by omega)] at e2
  clear h hr
  go_enter Tryd.func25, Tryd.ntmps25
  go_wp2_with (first | (go_at_call 14; refine (K1.out _).mono ?_; rintro e wn ⟨rfl, hbn⟩) | (go_at_call 33; refine (K2.out _).mono ?_; rintro e wn ⟨rfl, hbn⟩))
  go_ret
  exact ⟨rfl, (by repeat' (first | exact G.refl _ | assumption | refine G.alloc ?_ _ | refine G.drew ?_ | refine G.drewN ?_ _ | (refine G.trans ?_ (by assumption))))⟩

set_option maxRecDepth 100000 in
theorem ulpof_core (b z r : Nat) (x : Int) (w : World) (h : b < 2 ^ 64) (hr : 2 * 2 ^ 52 ≤ FT.rung b) (hr2 : FT.rung b < FT.infR) (hx1 : -3000 ≤ x) (hx2 : x ≤ 3000)
    (hF : ∀ w, Calls Tryd.prog 38 #[.float .f64 b] w fun e w' => e = .returned (.tuple #[.float .f64 z, .int .i64 x]) ∧ G w w')
    (hL : ∀ w, Calls Tryd.prog 47 #[.float .f64 4607182418800017408, .int .i64 (x - 53)] w fun e w' => e = .returned (.float .f64 r) ∧ G w w') :
    Calls Tryd.prog 25 #[.float .f64 b] w fun e w' => e = .returned (.float .f64 r) ∧ G w w' := by
  have K1 : Hid _ := fun w => finite_c b w h
  rw [decide_eq_true hr2] at K1
  have K2 : Hid _ := fun w => abs_c b w h
  have e2 := FT.lt_const b 9007199254740992 (by decide)
  rw [decide_eq_false (by omega)] at e2
  have K3 : Hid _ := hF
  have K4 : Hid _ := hL
  clear h hr hr2 hF hL
  go_enter Tryd.func25, Tryd.ntmps25
  go_wp2_with (first | (go_at_call 14; refine (K1.out _).mono ?_; rintro e wn ⟨rfl, hbn⟩) | (go_at_call 33; refine (K2.out _).mono ?_; rintro e wn ⟨rfl, hbn⟩) | (go_at_call 38; refine (K3.out _).mono ?_; rintro e wn ⟨rfl, hbn⟩) | (go_at_call 47; refine (K4.out _).mono ?_; rintro e wn ⟨rfl, hbn⟩))
  go_ret
  exact ⟨rfl, (by repeat' (first | exact G.refl _ | assumption | refine G.alloc ?_ _ | refine G.drew ?_ | refine G.drewN ?_ _ | (refine G.trans ?_ (by assumption))))⟩

theorem wrd_false (x : Nat) : FT.wrd false (x + 0) = x := rfl

theorem ulpof_c (b ex fr : Nat) (w : World) (h : b < 2 ^ 64) (he : b / 2 ^ 52 % 2 ^ 11 = ex) (hf : b % 2 ^ 52 = fr) (h1 : ex < 2047) :
    Calls Tryd.prog 25 #[.float .f64 b] w fun e w' => e = .returned (.float .f64 (nearV 11 52 1 ((max ex 1 : Nat) - 1075))) ∧ G w w' := by
  have hrf := FT.rung_fields b
  rw [he, hf] at hrf
  have hfr : fr < 2 ^ 52 := by omega
  by_cases hs : ex ≤ 1
  · rw [ulp_small ex hs]
    exact ulpof_small_c b w h (by omega)
  · have hmx : ((max ex 1 : Nat) : Int) = ex := by omega
    rw [hmx]
    have hF := fun w => frexp_c b ex fr (2 ^ 52 + fr) 0 fr w h he hf h1 (by rw [if_neg (by omega)]) (by omega) hfr (by simp) (by omega) (by omega)
    refine ulpof_core b _ _ _ w h (by omega) (by unfold FT.infR; omega) (by omega) (by omega) hF (fun w => ?_)
    have hx : ((max ex 1 : Nat) : Int) - 1022 - ((0 : Nat) : Int) - 53 = (ex : Int) - 1075 := by omega
    rw [hx]
    by_cases hd : ex ≤ 52
    · rw [ulp_den ex (by omega) hd]
      have := ldexp_den_c false 1023 0 (2 ^ (ex - 1)) (53 - ex) ((ex : Int) - 1075) w (by omega) (by omega) (by omega) (by omega) (by omega) (by omega) (by omega) (by omega)
        (Nat.pow_lt_pow_right (by omega) (by omega)) (by rw [← Nat.pow_add, show ex - 1 + (53 - ex) = 52 from by omega])
      exact this
    · rw [ulp_nor ex (by omega) (by omega)]
      have := ldexp_mid_c false 1023 0 ((ex : Int) - 1075) w (by omega) (by omega) (by omega) (by omega) (by omega) (by omega) (by omega)
      rw [show ((ex : Int) - 1075 + ((1023 : Nat) : Int)).toNat = ex - 52 from by omega, wrd_false ((ex - 52) * 2 ^ 52)] at this
      exact this

end Go.Proofs.YthbjdmadbakchaaDoor
