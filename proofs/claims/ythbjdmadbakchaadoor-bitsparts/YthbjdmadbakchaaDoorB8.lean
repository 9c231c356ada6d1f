/- What is proved here: contracts of neighbours and keys, over this seat's translation. -/
import Derived.Test.YthbjdmadbakchaaDoorB7
namespace Go.Proofs.YthbjdmadbakchaaDoor
open Go.ChangeShapes Go.WideShapes Go.ChangeAt Go.RowKit
attribute [local go_sem] frombits_r tobits_r

theorem unary_negf (k : FloatKind) (b : Nat) : Op.unary .neg (.float k b) = pure (.float k (Op.negFloat k b)) := rfl
attribute [local go_sem] unary_negf

theorem isinf1_c (b : Nat) (w : World) (h : b < 2 ^ 64) :
    Calls Tryd.prog 32 #[.float .f64 b, .int .i64 1] w fun e w' => e = .returned (.bool (decide (b = FT.infR))) ∧ G w w' := by
  have hg : (FloatKind.f64.format.order b 9218868437227405311 == some .gt) = decide (b = FT.infR) := by
    rcases FT.neg_cases b h with ⟨h1, h2⟩ | ⟨h1, h2⟩
    · have hne : ¬ b = FT.infR := by unfold FT.infR; omega
      have e : (9218868437227405311 : Nat) = FT.infR - 1 := by unfold FT.infR; omega
      rw [decide_eq_false hne, FT.ord_f, e, FT.key_small (c := FT.infR - 1) (by unfold FT.infR; omega)]
      cases FT.nan b
      · have hn : FT.nan (FT.infR - 1) = false := by unfold FT.nan; rw [FT.rung_small (by unfold FT.infR; omega)]; simp
        rw [hn]
        unfold FT.key
        rw [h1]
        have := FT.cmp_ne_gt (a := -(FT.rung b : Int)) (b := ((FT.infR - 1 : Nat) : Int)) (by omega)
        simp [this]
      · simp
    · have := FT.gt_max b
      rw [← h2] at this
      exact this
  go_enter Tryd.func32, Tryd.ntmps32
  go_wp2
  go_ret
  exact ⟨rfl, G.refl _⟩

def nextV (b : Nat) : Nat :=
  if FT.nan b then b else if b = FT.infR then b else if FT.rung b = 0 then 1 else if FT.neg b then b - 1 else b + 1

set_option maxRecDepth 100000 in
theorem next_c (b : Nat) (w : World) (h : b < 2 ^ 64) :
    Calls Tryd.prog 22 #[.float .f64 b] w fun e w' => e = .returned (.float .f64 (nextV b)) ∧ G w w' := by
  have K1 : Hid _ := fun w => isnan_c b w
  have K2 : Hid _ := fun w => isinf1_c b w h
  unfold nextV
  by_cases hn : FT.nan b = true
  · rw [if_pos hn]
    rw [hn] at K1
    clear K2 h hn
    go_enter Tryd.func22, Tryd.ntmps22
    go_wp2_with (first | (go_at_call 31; refine (K1.out _).mono ?_; rintro e wn ⟨rfl, hbn⟩))
    go_ret
    exact ⟨rfl, (by repeat' (first | exact G.refl _ | assumption | refine G.alloc ?_ _ | refine G.drew ?_ | refine G.drewN ?_ _ | (refine G.trans ?_ (by assumption))))⟩
  have hn' : FT.nan b = false := by simpa using hn
  rw [if_neg hn]
  rw [hn'] at K1
  have e2 := FT.eq_zero b
  have e3 := FT.gt_zero b hn'
  have hr := FT.nan_false hn'
  have hc := FT.neg_cases b h
  clear hn hn'
  by_cases hb : b = FT.infR
  · rw [if_pos hb]
    rw [decide_eq_true hb] at K2
    clear e2 e3 hr hc hb
    go_enter Tryd.func22, Tryd.ntmps22
    go_wp2_with (first | (go_at_call 31; refine (K1.out _).mono ?_; rintro e wn ⟨rfl, hbn⟩) | (go_at_call 32; refine (K2.out _).mono ?_; rintro e wn ⟨rfl, hbn⟩))
    go_ret
    exact ⟨rfl, (by repeat' (first | exact G.refl _ | assumption | refine G.alloc ?_ _ | refine G.drew ?_ | refine G.drewN ?_ _ | (refine G.trans ?_ (by assumption))))⟩
  rw [if_neg hb]
  rw [decide_eq_false hb] at K2
  clear hb
  by_cases h0 : FT.rung b = 0
  · rw [if_pos h0]
    rw [decide_eq_true h0] at e2
    clear e3 hr hc h0
    go_enter Tryd.func22, Tryd.ntmps22
    go_wp2_with (first | (go_at_call 31; refine (K1.out _).mono ?_; rintro e wn ⟨rfl, hbn⟩) | (go_at_call 32; refine (K2.out _).mono ?_; rintro e wn ⟨rfl, hbn⟩))
    go_ret
    exact ⟨rfl, (by repeat' (first | exact G.refl _ | assumption | refine G.alloc ?_ _ | refine G.drew ?_ | refine G.drewN ?_ _ | (refine G.trans ?_ (by assumption))))⟩
  rw [if_neg h0]
  rw [decide_eq_false h0] at e2
  rw [decide_eq_true h0] at e3
  have hb64 : 1 ≤ b ∧ b ≤ 18446744073709551614 := by
    rcases hc with ⟨h1, h2⟩ | ⟨h1, h2⟩ <;> unfold FT.infR at * <;> omega
  have hbi : 1 ≤ (b : Int) ∧ (b : Int) ≤ 18446744073709551614 := by omega
  clear hr hc h0 h
  cases hneg : FT.neg b
  · rw [hneg] at e3
    have e3' : (FloatKind.f64.format.order b 0 == some .gt) = true := e3
    clear hneg e3
    go_enter Tryd.func22, Tryd.ntmps22
    go_wp2_with (first | (go_at_call 31; refine (K1.out _).mono ?_; rintro e wn ⟨rfl, hbn⟩) | (go_at_call 32; refine (K2.out _).mono ?_; rintro e wn ⟨rfl, hbn⟩))
    go_ret
    exact ⟨ret_float (by simp), (by repeat' (first | exact G.refl _ | assumption | refine G.alloc ?_ _ | refine G.drew ?_ | refine G.drewN ?_ _ | (refine G.trans ?_ (by assumption))))⟩
  · rw [hneg] at e3
    have e3' : (FloatKind.f64.format.order b 0 == some .gt) = false := e3
    clear hneg e3
    go_enter Tryd.func22, Tryd.ntmps22
    go_wp2_with (first | (go_at_call 31; refine (K1.out _).mono ?_; rintro e wn ⟨rfl, hbn⟩) | (go_at_call 32; refine (K2.out _).mono ?_; rintro e wn ⟨rfl, hbn⟩))
    go_ret
    exact ⟨ret_float (by simp), (by repeat' (first | exact G.refl _ | assumption | refine G.alloc ?_ _ | refine G.drew ?_ | refine G.drewN ?_ _ | (refine G.trans ?_ (by assumption))))⟩

def negV (b : Nat) : Nat := if FT.neg b then b - 2 ^ 63 else b + 2 ^ 63
theorem negFloat_eq (b : Nat) (h : b < 2 ^ 64) : Op.negFloat .f64 b = negV b := by
  unfold negV
  show b ^^^ 2 ^ 63 = _
  rcases FT.neg_cases b h with ⟨h1, h2⟩ | ⟨h1, h2⟩
  · rw [if_pos h1]
    have hr := FT.rung_lt b
    generalize FT.rung b = r at *
    subst h2
    have e : r + 2 ^ 63 = 2 ^ 63 ||| r := by rw [nat_join 63 (2 ^ 63) r (by omega) hr]; omega
    apply Nat.eq_of_testBit_eq
    intro i
    rw [e, Nat.testBit_xor, Nat.testBit_or, Nat.testBit_two_pow]
    have e2 : (2 ^ 63 ||| r) - 2 ^ 63 = r := by rw [← e]; omega
    rw [e2]
    by_cases hi : 63 = i
    · subst hi
      rw [Nat.testBit_lt_two_pow hr]
      rfl
    · simp [hi]
  · rw [if_neg (by rw [h1]; simp)]
    have hr := FT.rung_lt b
    rw [← h2] at hr
    have e : b + 2 ^ 63 = 2 ^ 63 ||| b := by rw [nat_join 63 (2 ^ 63) b (by omega) hr]; omega
    apply Nat.eq_of_testBit_eq
    intro i
    rw [e, Nat.testBit_xor, Nat.testBit_or, Nat.testBit_two_pow]
    by_cases hi : 63 = i
    · subst hi
      rw [Nat.testBit_lt_two_pow hr]
      rfl
    · simp [hi]
theorem negV_lt (b : Nat) (h : b < 2 ^ 64) : negV b < 2 ^ 64 := by
  unfold negV
  rcases FT.neg_cases b h with ⟨h1, h2⟩ | ⟨h1, h2⟩
  · rw [if_pos h1]; omega
  · have hr := FT.rung_lt b
    rw [if_neg (by rw [h1]; simp)]; omega
theorem nextV_lt (b : Nat) (h : b < 2 ^ 64) : nextV b < 2 ^ 64 := by
  unfold nextV
  split
  · exact h
  · rename_i hn
    have hn' : FT.nan b = false := by simpa using hn
    have hr := FT.nan_false hn'
    split
    · exact h
    · split
      · omega
      · rename_i h0
        rcases FT.neg_cases b h with ⟨h1, h2⟩ | ⟨h1, h2⟩
        · rw [if_pos h1]; omega
        · unfold FT.infR at *
          rw [if_neg (by rw [h1]; simp)]; omega

theorem prev_c (b : Nat) (w : World) (h : b < 2 ^ 64) :
    Calls Tryd.prog 23 #[.float .f64 b] w fun e w' => e = .returned (.float .f64 (negV (nextV (negV b)))) ∧ G w w' := by
  have K : Hid _ := fun w => next_c (negV b) w (negV_lt b h)
  have e1 := negFloat_eq b h
  have e2 := negFloat_eq (nextV (negV b)) (nextV_lt _ (negV_lt b h))
  generalize nextV (negV b) = n at *
  generalize negV b = m at *
  generalize negV n = o at *
  clear h
  go_enter Tryd.func23, Tryd.ntmps23
  go_wp2_with (first | (go_at_call 22; refine (K.out _).mono ?_; rintro e wn ⟨rfl, hbn⟩))
  go_ret
  exact ⟨rfl, (by repeat' (first | exact G.refl _ | assumption | refine G.alloc ?_ _ | refine G.drew ?_ | refine G.drewN ?_ _ | (refine G.trans ?_ (by assumption))))⟩

def keyV (b : Nat) : Int := if FT.nan b then 9223372036854775807 else if FT.neg b then -1 - (FT.rung b : Int) else FT.rung b

set_option maxRecDepth 100000 in
theorem key_c (b : Nat) (w : World) (h : b < 2 ^ 64) :
    Calls Tryd.prog 26 #[.float .f64 b] w fun e w' => e = .returned (.int .i64 (keyV b)) ∧ G w w' := by
  have K1 : Hid _ := fun w => isnan_c b w
  have K2 : Hid _ := fun w => signbit_c b w h
  have K3 := FT.andnot_sign b h
  have hc := FT.neg_cases b h
  have hr := FT.rung_lt b
  have hri : (FT.rung b : Int) ≤ 9223372036854775807 := by omega
  unfold keyV
  cases hn : FT.nan b
  · rw [hn] at K1
    cases hs : FT.neg b
    · rw [hs] at K2 hc
      have hb : b = FT.rung b := by simpa using hc
      rw [← hb] at hri ⊢
      clear hc hr hn hs hb K3 h
      go_enter Tryd.func26, Tryd.ntmps26
      go_wp2_with (first | (go_at_call 31; refine (K1.out _).mono ?_; rintro e wn ⟨rfl, hbn⟩) | (go_at_call 10; refine (K2.out _).mono ?_; rintro e wn ⟨rfl, hbn⟩))
      go_ret
      exact ⟨rfl, (by repeat' (first | exact G.refl _ | assumption | refine G.alloc ?_ _ | refine G.drew ?_ | refine G.drewN ?_ _ | (refine G.trans ?_ (by assumption))))⟩
    · rw [hs] at K2 hc
      clear hc hn hs h
      generalize FT.rung b = r at *
      go_enter Tryd.func26, Tryd.ntmps26
      go_wp2_with (first | (go_at_call 31; refine (K1.out _).mono ?_; rintro e wn ⟨rfl, hbn⟩) | (go_at_call 10; refine (K2.out _).mono ?_; rintro e wn ⟨rfl, hbn⟩) | (go_at_call 29; refine (double_c _).mono ?_; rintro e wn ⟨rfl, hbn⟩) | (go_at_call 48; refine (sign_c 11 52 _ (by omega)).mono ?_; rintro e wn ⟨rfl, hbn⟩))
      go_ret
      exact ⟨rfl, (by repeat' (first | exact G.refl _ | assumption | refine G.alloc ?_ _ | refine G.drew ?_ | refine G.drewN ?_ _ | (refine G.trans ?_ (by assumption))))⟩
  · rw [hn] at K1
    clear hc hr hri hn K2 K3 h
    go_enter Tryd.func26, Tryd.ntmps26
    go_wp2_with (first | (go_at_call 31; refine (K1.out _).mono ?_; rintro e wn ⟨rfl, hbn⟩))
    go_ret
    exact ⟨rfl, (by repeat' (first | exact G.refl _ | assumption | refine G.alloc ?_ _ | refine G.drew ?_ | refine G.drewN ?_ _ | (refine G.trans ?_ (by assumption))))⟩

set_option maxRecDepth 100000 in
theorem keyof_c (b : Nat) (w : World) (h : b < 2 ^ 64) :
    Calls Tryd.prog 27 #[.float .f64 b] w fun e w' => e = .returned (.int .i64 (keyV b)) ∧ G w w' := by
  have K1 := FT.neq_self b
  have K2 : Hid _ := fun w => signbit_c b w h
  have K3 := negFloat_eq b h
  have hc := FT.neg_cases b h
  have hr := FT.rung_lt b
  have hri : (FT.rung b : Int) ≤ 9223372036854775807 := by omega
  unfold keyV
  cases hn : FT.nan b
  · rw [hn] at K1
    cases hs : FT.neg b
    · rw [hs] at K2 hc
      have hb : b = FT.rung b := by simpa using hc
      rw [← hb] at hri ⊢
      clear hc hr hn hs hb K3 h
      go_enter Tryd.func27, Tryd.ntmps27
      go_wp2_with (first | (go_at_call 10; refine (K2.out _).mono ?_; rintro e wn ⟨rfl, hbn⟩))
      go_ret
      exact ⟨rfl, (by repeat' (first | exact G.refl _ | assumption | refine G.alloc ?_ _ | refine G.drew ?_ | refine G.drewN ?_ _ | (refine G.trans ?_ (by assumption))))⟩
    · have hm : negV b = FT.rung b := by
        unfold negV
        rw [if_pos hs]
        rw [hs] at hc
        simp at hc
        omega
      rw [hm] at K3
      rw [hs] at K2
      clear hc hn hs h hm
      generalize FT.rung b = r at *
      go_enter Tryd.func27, Tryd.ntmps27
      go_wp2_with (first | (go_at_call 10; refine (K2.out _).mono ?_; rintro e wn ⟨rfl, hbn⟩))
      go_ret
      exact ⟨rfl, (by repeat' (first | exact G.refl _ | assumption | refine G.alloc ?_ _ | refine G.drew ?_ | refine G.drewN ?_ _ | (refine G.trans ?_ (by assumption))))⟩
  · rw [hn] at K1
    clear hc hr hri hn K2 K3 h
    go_enter Tryd.func27, Tryd.ntmps27
    go_wp2
    go_ret
    exact ⟨rfl, (by repeat' (first | exact G.refl _ | assumption | refine G.alloc ?_ _ | refine G.drew ?_ | refine G.drewN ?_ _ | (refine G.trans ?_ (by assumption))))⟩

end Go.Proofs.YthbjdmadbakchaaDoor
