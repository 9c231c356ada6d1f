/- What is proved here: plain facts on neighbours and signs of words (no program). -/
import Derived.Test.YthbjdmadbakchaaDoorF3
namespace Go.Proofs.YthbjdmadbakchaaDoor.FT

def ninf : Nat := infR + 2 ^ 63
def qnan : Nat := 9221120237041090561

theorem nan_false {b : Nat} (h : nan b = false) : rung b ≤ infR := by unfold nan at h; simp at h; omega
theorem nan_true {b : Nat} (h : nan b = true) : infR < rung b := by unfold nan at h; simp at h; omega
theorem key_inf : key infR = infR := key_small (by decide)
theorem nan_inf : nan infR = false := by unfold nan; rw [rung_small (by decide)]; simp
theorem neg_ninf : neg ninf = true := by unfold neg ninf infR; decide
theorem rung_ninf : rung ninf = infR := by unfold rung ninf infR; decide
theorem key_ninf : key ninf = -infR := by unfold key; rw [neg_ninf, rung_ninf]; rfl
theorem nan_ninf : nan ninf = false := by unfold nan; rw [rung_ninf]; simp

theorem cmp_ne_gt {a b : Int} (h : ¬ b < a) : ¬ compare a b = .gt := fun h' => h (Int.compare_eq_gt.1 h')
theorem cmp_ne_lt {a b : Int} (h : ¬ a < b) : ¬ compare a b = .lt := fun h' => h (Int.compare_eq_lt.1 h')
theorem cmp_ne_eq {a b : Int} (h : ¬ a = b) : ¬ compare a b = .eq := fun h' => h (Int.compare_eq_eq.1 h')
theorem some_beq (a b : Ordering) : ((some a : Option Ordering) == some b) = decide (a = b) := by cases a <;> cases b <;> rfl

theorem gt_zero (b : Nat) (hn : nan b = false) : (FloatKind.f64.format.order b 0 == some .gt) = (!neg b && decide (rung b ≠ 0)) := by
  rw [ord_f, hn, show nan 0 = false from by decide, show key 0 = 0 from by decide]
  simp only [Bool.or_self, Bool.false_eq_true, if_false, some_beq]
  unfold key
  cases neg b
  · by_cases h : rung b = 0
    · simp [h]
    · have := cmp_gt (a := (rung b : Int)) (b := 0) (by omega)
      simp [h, this]
  · have := cmp_ne_gt (a := -(rung b : Int)) (b := 0) (by omega)
    simp [this]

theorem eq_inf (b : Nat) (hn : nan b = false) : (FloatKind.f64.format.order b infR == some .eq) = (!neg b && decide (rung b = infR)) := by
  rw [ord_f, hn, nan_inf, key_inf]
  simp only [Bool.or_self, Bool.false_eq_true, if_false, some_beq]
  have hi : 0 < infR := by decide
  unfold key
  cases neg b
  · by_cases h : rung b = infR
    · simp [h]
    · have := cmp_ne_eq (a := (rung b : Int)) (b := infR) (by omega)
      simp [h, this]
  · have := cmp_ne_eq (a := -(rung b : Int)) (b := infR) (by omega)
    simp [this]

theorem eq_ninf (b : Nat) (hn : nan b = false) : (FloatKind.f64.format.order b ninf == some .eq) = (neg b && decide (rung b = infR)) := by
  rw [ord_f, hn, nan_ninf, key_ninf]
  simp only [Bool.or_self, Bool.false_eq_true, if_false, some_beq]
  have hi : 0 < infR := by decide
  unfold key
  cases neg b
  · have := cmp_ne_eq (a := (rung b : Int)) (b := -(infR : Int)) (by omega)
    simp [this]
  · by_cases h : rung b = infR
    · simp [h]
    · have := cmp_ne_eq (a := -(rung b : Int)) (b := -(infR : Int)) (by omega)
      simp [h, this]

theorem gt_inf (b : Nat) (hn : nan b = false) : (FloatKind.f64.format.order infR b == some .gt) = !(!neg b && decide (rung b = infR)) := by
  have hr := nan_false hn
  rw [ord_f, hn, nan_inf, key_inf]
  simp only [Bool.or_self, Bool.false_eq_true, if_false, some_beq]
  have hi : 0 < infR := by decide
  unfold key
  cases neg b
  · by_cases h : rung b = infR
    · simp [h]
    · have := cmp_gt (a := (infR : Int)) (b := (rung b : Int)) (by omega)
      simp [h, this]
  · have := cmp_gt (a := (infR : Int)) (b := -(rung b : Int)) (by omega)
    simp [this]

theorem gt_ninf (b : Nat) (hn : nan b = false) : (FloatKind.f64.format.order ninf b == some .gt) = false := by
  have hr := nan_false hn
  rw [ord_f, hn, nan_ninf, key_ninf]
  simp only [Bool.or_self, Bool.false_eq_true, if_false, some_beq]
  unfold key
  cases neg b
  · have := cmp_ne_gt (a := -(infR : Int)) (b := (rung b : Int)) (by omega)
    simp [this]
  · have := cmp_ne_gt (a := -(infR : Int)) (b := -(rung b : Int)) (by omega)
    simp [this]

end Go.Proofs.YthbjdmadbakchaaDoor.FT
