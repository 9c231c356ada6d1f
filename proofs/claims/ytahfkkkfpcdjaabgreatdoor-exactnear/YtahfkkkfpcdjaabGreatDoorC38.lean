/- What is proved here: the closed fact on one third, over this seat's translation. -/
import Derived.Test.YtahfkkkfpcdjaabGreatDoorC37
import Derived.Test.YtahfkkkfpcdjaabGreatDoorC33
import Derived.Test.YtahfkkkfpcdjaabGreatDoorC15
namespace Go.Proofs.YtahfkkkfpcdjaabGreatDoor.EN
open Go.ChangeShapes Go.WideShapes Go.ChangeAt Go.RowKit

theorem third_rat : ((1 : Int) : Rat) / ((3 : Int) : Rat) = mkRat 1 3 := (Rat.mkRat_eq_div 1 3).symm
theorem third_parts : (((1 : Int) : Rat) / ((3 : Int) : Rat)).num = 1 ∧ (((1 : Int) : Rat) / ((3 : Int) : Rat)).den = 3 :=
  rat_low (by omega) rfl (mk_cross (by omega) third_rat)
theorem text_third_c (w : World) (v : Value) (h : QIs w v ((1 : Int) / (3 : Int) : Rat)) :
    Calls Tryz.prog 12 #[v] w fun e w' => e = .returned (.string ⟨#[49, 47, 51]⟩) ∧ G w w' := by
  have e1 : (((1 : Int) : Rat) / ((3 : Int) : Rat)).num = 1 := third_parts.1
  have e2 : (((1 : Int) : Rat) / ((3 : Int) : Rat)).den = 3 := third_parts.2
  obtain ⟨a, k, c, a', k', c', rfl, h1, h2⟩ := h
  rw [e1] at h1 ⊢
  rw [e2] at h2
  have h1' : Num w (.slice a k c) 1 := h1
  have h2' : Num w (.slice a' k' c') 3 := h2
  have d1 : Lib.decDigits 1 = [49] := by rw [Lib.decDigits]; rfl
  have d3 : Lib.decDigits 3 = [51] := by rw [Lib.decDigits]; rfl
  have H1 : Hid (∀ w1, G w w1 → Calls Tryz.prog 63 #[.slice a k c] w1 fun e w' => e = .returned (.string ⟨#[49]⟩) ∧ G w1 w') := fun w1 g => by
    have h := text_c w1 _ 1 (by omega) (by omega) (h1'.G g)
    rw [d1] at h; exact h
  have H2 : Hid (∀ w1, G w w1 → Calls Tryz.prog 63 #[.slice a' k' c'] w1 fun e w' => e = .returned (.string ⟨#[51]⟩) ∧ G w1 w') := fun w1 g => by
    have h := text_c w1 _ 3 (by omega) (by omega) (h2'.G g)
    rw [d3] at h; exact h
  obtain ⟨p2, j2, q2, e, -, hk, -⟩ := num_zero h2'
  injection e with x1 x2 x3
  subst x1; subst x2; subst x3
  have hd : decide ((1 : Int) < 0) = false := rfl
  rw [hd]
  clear h1 h2 h1' h2' d1 d3 e1 e2 hd
  go_enter Tryz.func12, Tryz.ntmps12
  go_wp2_with fail
  have g0 : G w (w.alloc (.cells #[.bool false, .slice a k c, .slice a' k' c'] 28)) := ((G.refl w).alloc _)
  have R0 : Hid (Rec (w.alloc (.cells #[.bool false, .slice a k c, .slice a' k' c'] 28)) (w.heap.size) [.bool false, .slice a k c, .slice a' k' c']) := by
    have h := Rec.new3 w (.bool false) (.slice a k c) (.slice a' k' c') 28
    exact h
  have hz0 : (w.alloc (.cells #[.bool false, .slice a k c, .slice a' k' c'] 28)).heap.size = w.heap.size + 1 := by simp
  generalize (w.alloc (.cells #[.bool false, .slice a k c, .slice a' k' c'] 28)) = w0 at *
  refine Calls.mono (P := Tryz.prog) (H1.out w0 g0) ?_
  rintro e w1 ⟨rfl, g1⟩
  have hSR0 := Rec.f3 (Rec.G R0.out (g1))
  have hSR0_0 := hSR0.1
  have hSR0_1 := hSR0.2.1
  have hSR0_2 := hSR0.2.2.1
  have hSR0_3 := hSR0.2.2.2.1
  have hSR0_4 := hSR0.2.2.2.2.1
  have hSR0_5 := hSR0.2.2.2.2.2
  clear hSR0
  go_wp2_with fail
  refine Calls.mono (P := Tryz.prog) (H2.out w1 (G.trans g0 g1)) ?_
  rintro e w2 ⟨rfl, g2⟩
  go_wp2_with fail
  go_ret
  exact ⟨rfl, G.trans g0 (G.trans g1 g2)⟩

theorem next_third_c (w : World) : Calls Tryz.prog 32 #[.float .f64 4599676419421066581, .float .f64 4607182418800017408] w fun e w' => e = .returned (.float .f64 4599676419421066582) ∧ G w w' := by
  have K1 : Hid _ := fun w => isnan_c 4599676419421066581 w
  have K2 : Hid _ := fun w => isnan_c 4607182418800017408 w
  rw [show FT.nan 4599676419421066581 = false from by decide] at K1
  rw [show FT.nan 4607182418800017408 = false from by decide] at K2
  have e1 : (FloatKind.f64.format.order 4599676419421066581 4607182418800017408 == some .eq) = false := by decide +kernel
  have e2 : (FloatKind.f64.format.order 4599676419421066581 0 == some .eq) = false := by decide +kernel
  have e3 : (FloatKind.f64.format.order 4607182418800017408 4599676419421066581 == some .gt) = true := by decide +kernel
  have e4 : (FloatKind.f64.format.order 4599676419421066581 0 == some .gt) = true := by decide +kernel
  have htb := fun w => tobits_r 4599676419421066581 w
  have hfb := fun w => frombits_r 4599676419421066582 w
  go_enter Tryz.func32, Tryz.ntmps32
  go_wp2_with fail
  refine (K1.out _).mono ?_
  rintro e w1 ⟨rfl, hb1⟩
  have zhb1 := hb1.size
  try simp at zhb1
  go_wp2_with fail
  refine (K2.out _).mono ?_
  rintro e w2 ⟨rfl, hb2⟩
  have zhb2 := hb2.size
  try simp at zhb2
  go_wp2_with fail
  go_ret
  exact ⟨rfl, (by repeat' (first | exact G.refl _ | assumption | refine G.alloc ?_ _ | refine G.drew ?_ | refine G.drewN ?_ _ | (refine G.trans ?_ (by assumption))))⟩
set_option maxRecDepth 10000 in
theorem third_c (w : World) (hT : Tab w) : Calls Tryz.prog 9 #[] w fun e w' => e = .returned (.bool true) ∧ G w w' := by
  have HO : Hid (∀ w1, G w w1 → Calls Tryz.prog 49 #[.int .i64 1, .int .i64 3] w1 (RetQE w1 ((1 : Int) / (3 : Int) : Rat) 0)) := fun w1 g => by
    have h := over_int_c w1 1 3 (hT.G g) (by omega) (by omega) (by omega) (by omega)
    exact h
  have hq0 : ((1 : Int) / (3 : Int) : Rat) ≠ 0 := by
    intro h
    have := congrArg Rat.num h
    rw [third_parts.1] at this
    exact absurd this (by decide)
  have hqb : QB ((1 : Int) / (3 : Int) : Rat) 1 := by unfold QB; rw [third_parts.1, third_parts.2]; exact ⟨by decide, by decide⟩
  have HF1 : Hid (∀ w1 v, QIs w1 v ((1 : Int) / (3 : Int) : Rat) → Calls Tryz.prog 23 #[v, .int .i64 1] w1 fun r w' => r = .returned (.tuple #[.float .f64 4599676419421066581, .int .i64 0]) ∧ G w1 w') := fun w1 v hv => by
    have h := float_c w1 v _ 1 1 (by omega) (by omega) (Or.inl rfl) hv hq0 hqb
    rw [third_parts.1, third_parts.2, show FT.wrd (decide ((1 : Int) < 0)) (rdV 1 (decide ((1 : Int) < 0)) (Int.natAbs 1) 3) = 4599676419421066581 from by decide +kernel] at h
    exact h
  have HF3 : Hid (∀ w1 v, QIs w1 v ((1 : Int) / (3 : Int) : Rat) → Calls Tryz.prog 23 #[v, .int .i64 3] w1 fun r w' => r = .returned (.tuple #[.float .f64 4599676419421066582, .int .i64 0]) ∧ G w1 w') := fun w1 v hv => by
    have h := float_c w1 v _ 3 1 (by omega) (by omega) (Or.inr (Or.inr (Or.inl rfl))) hv hq0 hqb
    rw [third_parts.1, third_parts.2, show FT.wrd (decide ((1 : Int) < 0)) (rdV 3 (decide ((1 : Int) < 0)) (Int.natAbs 1) 3) = 4599676419421066582 from by decide +kernel] at h
    exact h
  have HX : Hid (∀ w1 v, QIs w1 v ((1 : Int) / (3 : Int) : Rat) → _) := fun w1 v hv => text_third_c w1 v hv
  clear hq0 hqb
  go_enter Tryz.func9, Tryz.ntmps9
  go_wp2_with fail
  refine Calls.mono (P := Tryz.prog) (HO.out _ (by repeat' (first | exact G.refl _ | refine G.alloc ?_ _))) ?_
  intro e1 w1 hs
  obtain ⟨v, rfl, g1, hv⟩ := hs
  obtain ⟨a, k, c, a', k', c', rfl, x1, x2⟩ := hv
  have hd : decide ((((1 : Int) : Rat) / ((3 : Int) : Rat)).num < 0) = false := by rw [third_parts.1]; rfl
  have hq : QIs w1 (.agg #[.bool false, .slice a k c, .slice a' k' c']) ((1 : Int) / (3 : Int) : Rat) := ⟨a, k, c, a', k', c', by rw [hd], x1, x2⟩
  have HV : Hid _ := hq
  rw [hd]
  clear HO x1 x2 hd hq
  go_wp2_with fail
  have g2 : G w1 (w1.alloc (.cells #[.bool false, .slice a k c, .slice a' k' c'] 28)) := ((G.refl w1).alloc _)
  have R0 : Hid (Rec (w1.alloc (.cells #[.bool false, .slice a k c, .slice a' k' c'] 28)) (w1.heap.size) [.bool false, .slice a k c, .slice a' k' c']) := by
    have h := Rec.new3 w1 (.bool false) (.slice a k c) (.slice a' k' c') 28
    exact h
  have hz2 : (w1.alloc (.cells #[.bool false, .slice a k c, .slice a' k' c'] 28)).heap.size = w1.heap.size + 1 := by simp
  generalize (w1.alloc (.cells #[.bool false, .slice a k c, .slice a' k' c'] 28)) = w2 at *
  refine Calls.mono (P := Tryz.prog) (HF1.out w2 _ (QIs.G HV.out g2)) ?_
  rintro e w3 ⟨rfl, g3⟩
  have g23 := G.trans g2 g3
  have hSR0 := Rec.f3 (Rec.G R0.out (g3))
  have hSR0_0 := hSR0.1
  have hSR0_1 := hSR0.2.1
  have hSR0_2 := hSR0.2.2.1
  have hSR0_3 := hSR0.2.2.2.1
  have hSR0_4 := hSR0.2.2.2.2.1
  have hSR0_5 := hSR0.2.2.2.2.2
  clear hSR0
  go_wp2_with fail
  clear hSR0_0 hSR0_1 hSR0_2 hSR0_3 hSR0_4 hSR0_5
  refine Calls.mono (P := Tryz.prog) (HF3.out w3 _ (QIs.G HV.out g23)) ?_
  rintro e w4 ⟨rfl, g4⟩
  have g24 := G.trans g3 g4
  have x1 : (FloatKind.f64.format.order 4599676419421066581 4599676419421066581 == some .eq) = true := by decide +kernel
  have x2 : (FloatKind.f64.format.order 4599676419421066582 4599676419421066582 == some .eq) = true := by decide +kernel
  go_wp2_with fail
  refine Calls.mono (P := Tryz.prog) (next_third_c _) ?_
  rintro e w5 ⟨rfl, g5⟩
  have g25 := G.trans g24 g5
  have hSR0 := Rec.f3 (Rec.G R0.out (g25))
  have hSR0_0 := hSR0.1
  have hSR0_1 := hSR0.2.1
  have hSR0_2 := hSR0.2.2.1
  have hSR0_3 := hSR0.2.2.2.1
  have hSR0_4 := hSR0.2.2.2.2.1
  have hSR0_5 := hSR0.2.2.2.2.2
  clear hSR0
  go_wp2_with fail
  refine Calls.mono (P := Tryz.prog) (HX.out w5 _ (QIs.G HV.out (G.trans g2 g25))) ?_
  rintro e w6 ⟨rfl, g6⟩
  go_wp2_with fail
  go_ret
  exact ⟨rfl, G.trans g1 (G.trans g2 (G.trans g25 g6))⟩
end Go.Proofs.YtahfkkkfpcdjaabGreatDoor.EN
