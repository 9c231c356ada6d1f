/- What is proved here: contracts of functions of package math (tests, signs), over this seat's translation. -/
import Derived.Test.YthbjdmadbakchaaDoorB
import Derived.Test.YthbjdmadbakchaaDoorF3
namespace Go.Proofs.YthbjdmadbakchaaDoor
open Go.ChangeShapes Go.WideShapes Go.ChangeAt Go.RowKit
attribute [local go_sem] frombits_r tobits_r

theorem ret_bool {a b : Bool} (h : a = b) : Ending.returned (.bool a) = .returned (.bool b) := by rw [h]
theorem ret_float {a b : Nat} (h : a = b) : Ending.returned (.float .f64 a) = .returned (.float .f64 b) := by rw [h]

theorem isnan_c (b : Nat) (w : World) :
    Calls Tryd.prog 31 #[.float .f64 b] w fun e w' => e = .returned (.bool (FT.nan b)) ∧ G w w' := by
  have h := FT.neq_self b
  go_enter Tryd.func31, Tryd.ntmps31
  go_wp2
  go_ret
  exact ⟨rfl, G.refl _⟩

theorem abs_c (b : Nat) (w : World) (h : b < 2 ^ 64) :
    Calls Tryd.prog 33 #[.float .f64 b] w fun e w' => e = .returned (.float .f64 (FT.rung b)) ∧ G w w' := by
  have h := FT.andnot_sign b h
  go_enter Tryd.func33, Tryd.ntmps33
  go_wp2
  go_ret
  exact ⟨rfl, G.refl _⟩

theorem isinf_c (b : Nat) (w : World) (h : b < 2 ^ 64) :
    Calls Tryd.prog 32 #[.float .f64 b, .int .i64 0] w fun e w' => e = .returned (.bool (decide (FT.rung b = FT.infR))) ∧ G w w' := by
  have K : Hid _ := fun w => abs_c b w h
  have h := FT.gt_max b
  go_enter Tryd.func32, Tryd.ntmps32
  go_wp2_with (first | (go_at_call 33; refine (K.out _).mono ?_; rintro e wn ⟨rfl, hbn⟩))
  go_ret
  exact ⟨rfl, (by repeat' (first | exact G.refl _ | assumption | refine G.alloc ?_ _ | refine G.drew ?_ | refine G.drewN ?_ _ | (refine G.trans ?_ (by assumption))))⟩

theorem signbit_c (b : Nat) (w : World) (h : b < 2 ^ 64) :
    Calls Tryd.prog 10 #[.float .f64 b] w fun e w' => e = .returned (.bool (FT.neg b)) ∧ G w w' := by
  have hw : decide (wrap64 (b : Int) < 0) = FT.neg b := by
    rcases FT.neg_cases b h with ⟨h1, h2⟩ | ⟨h1, h2⟩
    · have hr := FT.rung_lt b
      rw [h1]
      have : wrap64 (b : Int) < 0 := by unfold wrap64; omega
      simp [this]
    · have hr := FT.rung_lt b
      rw [h1, IntWalk.wrap64_in _ (by omega)]
      simp
  go_enter Tryd.func10, Tryd.ntmps10
  go_wp2
  go_ret
  exact ⟨rfl, G.refl _⟩

theorem copysign_c (a b : Nat) (w : World) (ha : a < 2 ^ 64) (hb : b < 2 ^ 64) :
    Calls Tryd.prog 21 #[.float .f64 a, .float .f64 b] w fun e w' => e = .returned (.float .f64 (FT.rung a + if FT.neg b then 2 ^ 63 else 0)) ∧ G w w' := by
  have h1 := FT.andnot_sign a ha
  have h2 := FT.and_sign b hb
  have hr := FT.rung_lt a
  have h3 : bits BinOp.or IntKind.u64 ((FT.rung a : Nat) : Int) ((if FT.neg b then 2 ^ 63 else 0 : Nat) : Int) = ((FT.rung a + if FT.neg b then 2 ^ 63 else 0 : Nat) : Int) := by
    by_cases hn : FT.neg b = true
    · rw [if_pos hn]; exact FT.or_sign _ hr
    · rw [if_neg hn, u64_or_nat _ _ (by omega) (by omega)]; simp
  generalize (if FT.neg b then 2 ^ 63 else 0 : Nat) = s at *
  generalize FT.rung a = r at *
  go_enter Tryd.func21, Tryd.ntmps21
  go_wp2
  go_ret
  exact ⟨rfl, G.refl _⟩

theorem inf_c (s : Int) (w : World) (h : 0 ≤ s) :
    Calls Tryd.prog 20 #[.int .i64 s] w fun e w' => e = .returned (.float .f64 FT.infR) ∧ G w w' := by
  go_enter Tryd.func20, Tryd.ntmps20
  go_wp2
  go_ret
  exact ⟨ret_float rfl, G.refl _⟩

theorem inf_neg_c (s : Int) (w : World) (h : s < 0) :
    Calls Tryd.prog 20 #[.int .i64 s] w fun e w' => e = .returned (.float .f64 (FT.infR + 2 ^ 63)) ∧ G w w' := by
  go_enter Tryd.func20, Tryd.ntmps20
  go_wp2
  go_ret
  exact ⟨ret_float rfl, G.refl _⟩

theorem finite_c (b : Nat) (w : World) (h : b < 2 ^ 64) :
    Calls Tryd.prog 14 #[.float .f64 b] w fun e w' => e = .returned (.bool (decide (FT.rung b < FT.infR))) ∧ G w w' := by
  have K1 : Hid _ := fun w => isnan_c b w
  have K2 : Hid _ := fun w => isinf_c b w h
  by_cases hn : FT.nan b = true
  · rw [hn] at K1
    have : ¬ FT.rung b < FT.infR := by unfold FT.nan at hn; simp at hn; omega
    rw [decide_eq_false this]
    go_enter Tryd.func14, Tryd.ntmps14
    go_wp2_with (first | (go_at_call 31; refine (K1.out _).mono ?_; rintro e wn ⟨rfl, hbn⟩))
    go_ret
    exact ⟨rfl, (by repeat' (first | exact G.refl _ | assumption | refine G.alloc ?_ _ | refine G.drew ?_ | refine G.drewN ?_ _ | (refine G.trans ?_ (by assumption))))⟩
  · have hn' : FT.nan b = false := by simpa using hn
    rw [hn'] at K1
    have hle : FT.rung b ≤ FT.infR := by unfold FT.nan at hn'; simp at hn'; omega
    by_cases hi : FT.rung b = FT.infR
    · rw [decide_eq_true hi] at K2
      rw [decide_eq_false (by omega)]
      clear hle hi
      go_enter Tryd.func14, Tryd.ntmps14
      go_wp2_with (first | (go_at_call 31; refine (K1.out _).mono ?_; rintro e wn ⟨rfl, hbn⟩) | (go_at_call 32; refine (K2.out _).mono ?_; rintro e wn ⟨rfl, hbn⟩))
      go_ret
      exact ⟨rfl, (by repeat' (first | exact G.refl _ | assumption | refine G.alloc ?_ _ | refine G.drew ?_ | refine G.drewN ?_ _ | (refine G.trans ?_ (by assumption))))⟩
    · rw [decide_eq_false hi] at K2
      rw [decide_eq_true (by omega)]
      clear hle hi
      go_enter Tryd.func14, Tryd.ntmps14
      go_wp2_with (first | (go_at_call 31; refine (K1.out _).mono ?_; rintro e wn ⟨rfl, hbn⟩) | (go_at_call 32; refine (K2.out _).mono ?_; rintro e wn ⟨rfl, hbn⟩))
      go_ret
      exact ⟨rfl, (by repeat' (first | exact G.refl _ | assumption | refine G.alloc ?_ _ | refine G.drew ?_ | refine G.drewN ?_ _ | (refine G.trans ?_ (by assumption))))⟩

/-- The same bits, or both no number. -/
def same (a b : Nat) : Bool := a == b || (FT.nan a && FT.nan b)

theorem bits_c (a b : Nat) (w : World) :
    Calls Tryd.prog 16 #[.float .f64 a, .float .f64 b] w fun e w' => e = .returned (.bool (same a b)) ∧ G w w' := by
  have h1 := FT.neq_self a
  have h2 := FT.neq_self b
  unfold same
  by_cases h : a = b
  · have hb : ((a : Int) == b) = true := by simp [h]
    have hc : (a == b) = true := by simp [h]
    rw [hc]
    clear h
    go_enter Tryd.func16, Tryd.ntmps16
    go_wp2
    go_ret
    exact ⟨rfl, G.refl _⟩
  · have hb : ((a : Int) == b) = false := by simp; omega
    have hc : (a == b) = false := by simp [h]
    rw [hc]
    clear h
    generalize FT.nan a = x at *
    generalize FT.nan b = y at *
    cases x <;> cases y
    all_goals
      go_enter Tryd.func16, Tryd.ntmps16
      go_wp2
      go_ret
      exact ⟨rfl, G.refl _⟩

end Go.Proofs.YthbjdmadbakchaaDoor
