/- What is proved here: contracts of neighbours (package bits, package math, the reference), over this seat's translation. -/
import Derived.Test.YthbjdmadbakchaaDoorB5
import Derived.Test.YthbjdmadbakchaaDoorB6
import Derived.Test.YthbjdmadbakchaaDoorF4
namespace Go.Proofs.YthbjdmadbakchaaDoor
open Go.ChangeShapes Go.WideShapes Go.ChangeAt Go.RowKit
attribute [local go_sem] frombits_r tobits_r

theorem nan_c (w : World) : Calls Tryd.prog 44 #[] w fun e w' => e = .returned (.float .f64 FT.qnan) ∧ G w w' := by
  go_enter Tryd.func44, Tryd.ntmps44
  go_wp2
  go_ret
  exact ⟨ret_float rfl, G.refl _⟩

def upV (b : Nat) : Nat :=
  if FT.nan b then FT.qnan else if b = FT.infR then b else if FT.rung b = 0 then 1 else if FT.neg b then b - 1 else b + 1
def downV (b : Nat) : Nat :=
  if FT.nan b then FT.qnan else if b = FT.ninf then b else if FT.rung b = 0 then 1 + 2 ^ 63 else if FT.neg b then b + 1 else b - 1

set_option maxRecDepth 100000 in
theorem nextafter_up_c (b : Nat) (w : World) (h : b < 2 ^ 64) :
    Calls Tryd.prog 19 #[.float .f64 b, .float .f64 FT.infR] w fun e w' => e = .returned (.float .f64 (upV b)) ∧ G w w' := by
  have K1 : Hid _ := fun w => isnan_c b w
  have K2 : Hid _ := fun w => isnan_c FT.infR w
  rw [FT.nan_inf] at K2
  have K3 : Hid _ := fun w => copysign_c 1 FT.infR w (by omega) (by decide)
  rw [FT.rung_small (by omega), FT.neg_small (by decide)] at K3
  have hi : FT.infR = 9218868437227405312 := rfl
  have hlt := FT.rung_lt b
  unfold upV
  by_cases hn : FT.nan b = true
  · rw [if_pos hn]
    rw [hn] at K1
    clear K2 K3 hi
    generalize FT.infR = i at *
    go_enter Tryd.func19, Tryd.ntmps19
    go_wp2_with fail
    refine (K1.out _).mono ?_
    rintro e w1 ⟨rfl, hb1⟩
    have zhb1 := hb1.size
    try simp at zhb1
    go_wp2_with fail
    refine (nan_c _).mono ?_
    rintro e w2 ⟨rfl, hb2⟩
    have zhb2 := hb2.size
    try simp at zhb2
    go_wp2
    go_ret
    exact ⟨rfl, (by repeat' (first | exact G.refl _ | assumption | refine G.alloc ?_ _ | refine G.drew ?_ | refine G.drewN ?_ _ | (refine G.trans ?_ (by assumption))))⟩
  have hn' : FT.nan b = false := by simpa using hn
  rw [if_neg hn]
  rw [hn'] at K1
  have e1 := FT.eq_inf b hn'
  have e2 := FT.eq_zero b
  have e3 := FT.gt_zero b hn'
  have e4 := FT.gt_inf b hn'
  have hr := FT.nan_false hn'
  have hc := FT.neg_cases b h
  have hbi : b = FT.infR ↔ (FT.neg b = false ∧ FT.rung b = FT.infR) := by
    rcases hc with ⟨h1, h2⟩ | ⟨h1, h2⟩ <;> rw [h1] <;> unfold FT.infR at * <;> simp <;> omega
  clear hn hn' hi
  by_cases hb : b = FT.infR
  · rw [if_pos hb]
    obtain ⟨h1, h2⟩ := hbi.1 hb
    rw [h1, h2] at e1
    simp at e1
    clear e2 e3 e4 hr hc hbi h1 h2 hb K3
    generalize FT.infR = i at *
    go_enter Tryd.func19, Tryd.ntmps19
    go_wp2_with fail
    refine (K1.out _).mono ?_
    rintro e w1 ⟨rfl, hb1⟩
    have zhb1 := hb1.size
    try simp at zhb1
    go_wp2_with fail
    refine (K2.out _).mono ?_
    rintro e w2 ⟨rfl, hb2⟩
    have zhb2 := hb2.size
    try simp at zhb2
    go_wp2
    go_ret
    exact ⟨rfl, (by repeat' (first | exact G.refl _ | assumption | refine G.alloc ?_ _ | refine G.drew ?_ | refine G.drewN ?_ _ | (refine G.trans ?_ (by assumption))))⟩
  rw [if_neg hb]
  have hq : (!FT.neg b && decide (FT.rung b = FT.infR)) = false := by
    rw [Bool.eq_false_iff]
    intro h'
    simp only [Bool.and_eq_true, Bool.not_eq_true', decide_eq_true_eq] at h'
    exact hb (hbi.2 h')
  have e1' : (FloatKind.f64.format.order b FT.infR == some .eq) = false := by rw [e1, hq]
  have e4' : (FloatKind.f64.format.order FT.infR b == some .gt) = true := by rw [e4, hq]; rfl
  clear hq
  clear e1 e4 hbi hb
  by_cases h0 : FT.rung b = 0
  · rw [if_pos h0]
    rw [h0] at e2
    simp at e2
    clear e3 e4' hr hc
    generalize FT.infR = i at *
    go_enter Tryd.func19, Tryd.ntmps19
    go_wp2_with fail
    refine (K1.out _).mono ?_
    rintro e w1 ⟨rfl, hb1⟩
    have zhb1 := hb1.size
    try simp at zhb1
    go_wp2_with fail
    refine (K2.out _).mono ?_
    rintro e w2 ⟨rfl, hb2⟩
    have zhb2 := hb2.size
    try simp at zhb2
    go_wp2_with fail
    refine (K3.out _).mono ?_
    rintro e w3 ⟨rfl, hb3⟩
    have zhb3 := hb3.size
    try simp at zhb3
    go_wp2
    go_ret
    exact ⟨rfl, (by repeat' (first | exact G.refl _ | assumption | refine G.alloc ?_ _ | refine G.drew ?_ | refine G.drewN ?_ _ | (refine G.trans ?_ (by assumption))))⟩
  rw [if_neg h0]
  rw [decide_eq_false h0] at e2
  rw [decide_eq_true h0] at e3
  have hb64 : 1 ≤ b ∧ b ≤ 18446744073709551614 := by
    rcases hc with ⟨h1, h2⟩ | ⟨h1, h2⟩ <;> unfold FT.infR at * <;> omega
  have hbi : 1 ≤ (b : Int) ∧ (b : Int) ≤ 18446744073709551614 := by omega
  clear hr hc h0 K3
  generalize FT.infR = i at *
  cases hneg : FT.neg b
  · rw [hneg] at e3
    have e3' : (FloatKind.f64.format.order b 0 == some .gt) = true := e3
    clear hneg e3
    go_enter Tryd.func19, Tryd.ntmps19
    go_wp2_with fail
    refine (K1.out _).mono ?_
    rintro e w1 ⟨rfl, hb1⟩
    have zhb1 := hb1.size
    try simp at zhb1
    go_wp2_with fail
    refine (K2.out _).mono ?_
    rintro e w2 ⟨rfl, hb2⟩
    have zhb2 := hb2.size
    try simp at zhb2
    go_wp2
    go_ret
    exact ⟨ret_float (by simp), (by repeat' (first | exact G.refl _ | assumption | refine G.alloc ?_ _ | refine G.drew ?_ | refine G.drewN ?_ _ | (refine G.trans ?_ (by assumption))))⟩
  · rw [hneg] at e3
    have e3' : (FloatKind.f64.format.order b 0 == some .gt) = false := e3
    clear hneg e3
    go_enter Tryd.func19, Tryd.ntmps19
    go_wp2_with fail
    refine (K1.out _).mono ?_
    rintro e w1 ⟨rfl, hb1⟩
    have zhb1 := hb1.size
    try simp at zhb1
    go_wp2_with fail
    refine (K2.out _).mono ?_
    rintro e w2 ⟨rfl, hb2⟩
    have zhb2 := hb2.size
    try simp at zhb2
    go_wp2
    go_ret
    exact ⟨ret_float (by simp), (by repeat' (first | exact G.refl _ | assumption | refine G.alloc ?_ _ | refine G.drew ?_ | refine G.drewN ?_ _ | (refine G.trans ?_ (by assumption))))⟩

set_option maxRecDepth 100000 in
theorem nextafter_down_c (b : Nat) (w : World) (h : b < 2 ^ 64) :
    Calls Tryd.prog 19 #[.float .f64 b, .float .f64 FT.ninf] w fun e w' => e = .returned (.float .f64 (downV b)) ∧ G w w' := by
  have K1 : Hid _ := fun w => isnan_c b w
  have K2 : Hid _ := fun w => isnan_c FT.ninf w
  rw [FT.nan_ninf] at K2
  have K3 : Hid _ := fun w => copysign_c 1 FT.ninf w (by omega) (by decide)
  rw [FT.rung_small (by omega), FT.neg_ninf] at K3
  have hlt := FT.rung_lt b
  unfold downV
  by_cases hn : FT.nan b = true
  · rw [if_pos hn]
    rw [hn] at K1
    clear K2 K3
    generalize FT.ninf = i at *
    go_enter Tryd.func19, Tryd.ntmps19
    go_wp2_with fail
    refine (K1.out _).mono ?_
    rintro e w1 ⟨rfl, hb1⟩
    have zhb1 := hb1.size
    try simp at zhb1
    go_wp2_with fail
    refine (nan_c _).mono ?_
    rintro e w2 ⟨rfl, hb2⟩
    have zhb2 := hb2.size
    try simp at zhb2
    go_wp2
    go_ret
    exact ⟨rfl, (by repeat' (first | exact G.refl _ | assumption | refine G.alloc ?_ _ | refine G.drew ?_ | refine G.drewN ?_ _ | (refine G.trans ?_ (by assumption))))⟩
  have hn' : FT.nan b = false := by simpa using hn
  rw [if_neg hn]
  rw [hn'] at K1
  have e1 := FT.eq_ninf b hn'
  have e2 := FT.eq_zero b
  have e3 := FT.gt_zero b hn'
  have e4 := FT.gt_ninf b hn'
  have hr := FT.nan_false hn'
  have hc := FT.neg_cases b h
  have hbi : b = FT.ninf ↔ (FT.neg b = true ∧ FT.rung b = FT.infR) := by
    rcases hc with ⟨h1, h2⟩ | ⟨h1, h2⟩ <;> rw [h1] <;> unfold FT.ninf FT.infR at * <;> simp <;> omega
  clear hn hn'
  by_cases hb : b = FT.ninf
  · rw [if_pos hb]
    obtain ⟨h1, h2⟩ := hbi.1 hb
    rw [h1, h2] at e1
    simp at e1
    clear e2 e3 e4 hr hc hbi h1 h2 hb K3
    generalize FT.ninf = i at *
    go_enter Tryd.func19, Tryd.ntmps19
    go_wp2_with fail
    refine (K1.out _).mono ?_
    rintro e w1 ⟨rfl, hb1⟩
    have zhb1 := hb1.size
    try simp at zhb1
    go_wp2_with fail
    refine (K2.out _).mono ?_
    rintro e w2 ⟨rfl, hb2⟩
    have zhb2 := hb2.size
    try simp at zhb2
    go_wp2
    go_ret
    exact ⟨rfl, (by repeat' (first | exact G.refl _ | assumption | refine G.alloc ?_ _ | refine G.drew ?_ | refine G.drewN ?_ _ | (refine G.trans ?_ (by assumption))))⟩
  rw [if_neg hb]
  have hq : (FT.neg b && decide (FT.rung b = FT.infR)) = false := by
    rw [Bool.eq_false_iff]
    intro h'
    simp only [Bool.and_eq_true, decide_eq_true_eq] at h'
    exact hb (hbi.2 h')
  have e1' : (FloatKind.f64.format.order b FT.ninf == some .eq) = false := by rw [e1, hq]
  have e4' : (FloatKind.f64.format.order FT.ninf b == some .gt) = false := e4
  clear hq
  clear e1 e4 hbi hb
  by_cases h0 : FT.rung b = 0
  · rw [if_pos h0]
    rw [h0] at e2
    simp at e2
    clear e3 e4' hr hc
    generalize FT.ninf = i at *
    go_enter Tryd.func19, Tryd.ntmps19
    go_wp2_with fail
    refine (K1.out _).mono ?_
    rintro e w1 ⟨rfl, hb1⟩
    have zhb1 := hb1.size
    try simp at zhb1
    go_wp2_with fail
    refine (K2.out _).mono ?_
    rintro e w2 ⟨rfl, hb2⟩
    have zhb2 := hb2.size
    try simp at zhb2
    go_wp2_with fail
    refine (K3.out _).mono ?_
    rintro e w3 ⟨rfl, hb3⟩
    have zhb3 := hb3.size
    try simp at zhb3
    go_wp2
    go_ret
    exact ⟨rfl, (by repeat' (first | exact G.refl _ | assumption | refine G.alloc ?_ _ | refine G.drew ?_ | refine G.drewN ?_ _ | (refine G.trans ?_ (by assumption))))⟩
  rw [if_neg h0]
  rw [decide_eq_false h0] at e2
  rw [decide_eq_true h0] at e3
  have hb64 : 1 ≤ b ∧ b ≤ 18446744073709551614 := by
    rcases hc with ⟨h1, h2⟩ | ⟨h1, h2⟩ <;> unfold FT.infR at * <;> omega
  have hbi : 1 ≤ (b : Int) ∧ (b : Int) ≤ 18446744073709551614 := by omega
  clear hr hc h0 K3
  generalize FT.ninf = i at *
  cases hneg : FT.neg b
  · rw [hneg] at e3
    have e3' : (FloatKind.f64.format.order b 0 == some .gt) = true := e3
    clear hneg e3
    go_enter Tryd.func19, Tryd.ntmps19
    go_wp2_with fail
    refine (K1.out _).mono ?_
    rintro e w1 ⟨rfl, hb1⟩
    have zhb1 := hb1.size
    try simp at zhb1
    go_wp2_with fail
    refine (K2.out _).mono ?_
    rintro e w2 ⟨rfl, hb2⟩
    have zhb2 := hb2.size
    try simp at zhb2
    go_wp2
    go_ret
    exact ⟨ret_float (by simp), (by repeat' (first | exact G.refl _ | assumption | refine G.alloc ?_ _ | refine G.drew ?_ | refine G.drewN ?_ _ | (refine G.trans ?_ (by assumption))))⟩
  · rw [hneg] at e3
    have e3' : (FloatKind.f64.format.order b 0 == some .gt) = false := e3
    clear hneg e3
    go_enter Tryd.func19, Tryd.ntmps19
    go_wp2_with fail
    refine (K1.out _).mono ?_
    rintro e w1 ⟨rfl, hb1⟩
    have zhb1 := hb1.size
    try simp at zhb1
    go_wp2_with fail
    refine (K2.out _).mono ?_
    rintro e w2 ⟨rfl, hb2⟩
    have zhb2 := hb2.size
    try simp at zhb2
    go_wp2
    go_ret
    exact ⟨ret_float (by simp), (by repeat' (first | exact G.refl _ | assumption | refine G.alloc ?_ _ | refine G.drew ?_ | refine G.drewN ?_ _ | (refine G.trans ?_ (by assumption))))⟩

end Go.Proofs.YthbjdmadbakchaaDoor
