/- What is proved here: the walk of the law on a number's four floats, over this seat's translation. -/
import Derived.Test.YtahfkkkfpcdjaabGreatDoorC35
import Derived.Test.YtahfkkkfpcdjaabGreatDoorC34
import Derived.Test.YtahfkkkfpcdjaabGreatDoorC38
namespace Go.Proofs.YtahfkkkfpcdjaabGreatDoor.EN
open Go.ChangeShapes Go.WideShapes Go.ChangeAt Go.RowKit

theorem pick_r (x y r : Nat) (h : Extern.MathDim.pick "math.archMin" true .lt #[.float .f64 x, .float .f64 y] = pure (.float .f64 r)) (w : World) :
    (callFunc 101 #[.float .f64 x, .float .f64 y]).run Tryz.prog w = .ok (.value (.float .f64 r)) w := by
  rw [run_callFunc_extern Tryz.func101 (by kernel_rfl) (by kernel_rfl) (by kernel_rfl) (e := Extern.MathDim.pick "math.archMin" true .lt) (by kernel_rfl), h]
  rfl
theorem min_c (x y : Nat) (hx : x ≤ 2047 * 2 ^ 52) (hy : y ≤ 2047 * 2 ^ 52) (w : World) :
    Calls Tryz.prog 35 #[.float .f64 x, .float .f64 y] w fun e w' => e = .returned (.float .f64 (min x y)) ∧ G w w' := by
  have hr := pick_r x y _ (pick_min hx hy)
  clear hx hy
  generalize min x y = r at *
  go_enter Tryz.func35, Tryz.ntmps35
  go_wp2
  go_ret
  exact ⟨rfl, G.refl _⟩


set_option maxRecDepth 10000 in
set_option maxHeartbeats 4000000 in
theorem near_core (w : World) (a b e : Int) (x y q x1 x2 : Rat) (D U N I dD dU dM dI : Nat) (c1 c2 s1 s2 : Int)
    (hT3 : ∀ w1, G w w1 → Calls Tryz.prog 9 #[] w1 fun e w' => e = .returned (.bool true) ∧ G w1 w')
    (hOV : ∀ w1, G w w1 → Calls Tryz.prog 29 #[.int .i64 a, .int .i64 b] w1 (RetOver w1 x))
    (hTW : ∀ w1, G w w1 → Calls Tryz.prog 30 #[.int .i64 e] w1 (RetQE w1 y 0))
    (hM : ∀ w1 v u, G w w1 → QIs w1 v x → QIs w1 u y → Calls Tryz.prog 21 #[v, u] w1 (RetQ w1 q))
    (hF2 : ∀ w1 v, QIs w1 v q → Calls Tryz.prog 23 #[v, .int .i64 2] w1 fun r w' => r = .returned (.tuple #[.float .f64 D, .int .i64 0]) ∧ G w1 w')
    (hF3 : ∀ w1 v, QIs w1 v q → Calls Tryz.prog 23 #[v, .int .i64 3] w1 fun r w' => r = .returned (.tuple #[.float .f64 U, .int .i64 0]) ∧ G w1 w')
    (hF1 : ∀ w1 v, QIs w1 v q → Calls Tryz.prog 23 #[v, .int .i64 1] w1 fun r w' => r = .returned (.tuple #[.float .f64 N, .int .i64 0]) ∧ G w1 w')
    (hF4 : ∀ w1 v, QIs w1 v q → Calls Tryz.prog 23 #[v, .int .i64 4] w1 fun r w' => r = .returned (.tuple #[.float .f64 I, .int .i64 0]) ∧ G w1 w')
    (hO1 : ∀ w1, G w w1 → Calls Tryz.prog 15 #[.float .f64 D] w1 (RetQE w1 x1 c1))
    (hO2 : ∀ w1, G w w1 → Calls Tryz.prog 15 #[.float .f64 U] w1 (RetQE w1 x2 c2))
    (hC1 : ∀ w1 v u, QIs w1 v x1 → QIs w1 u q → Calls Tryz.prog 31 #[v, u] w1 fun e w' => e = .returned (.int .i64 s1) ∧ G w1 w')
    (hC2 : ∀ w1 v u, QIs w1 v x2 → QIs w1 u q → Calls Tryz.prog 31 #[v, u] w1 fun e w' => e = .returned (.int .i64 s2) ∧ G w1 w')
    (hc1 : c1 = 4 ∨ (c1 = 0 ∧ decide (0 < s1) = false)) (hc2 : c2 = 4 ∨ (c2 = 0 ∧ decide (s2 < 0) = false))
    (hNX : ∀ w1, Calls Tryz.prog 32 #[.float .f64 D, .float .f64 FT.infR] w1 fun e w' => e = .returned (.float .f64 (upV D)) ∧ G w1 w')
    (hDU : (FloatKind.f64.format.order D U == some .eq) = true ∨ ((FloatKind.f64.format.order D U == some .eq) = false ∧ upV D = U)) (hUU : (FloatKind.f64.format.order U U == some .eq) = true)
    (hN : (FloatKind.f64.format.order N D == some .eq) = true ∨ ((FloatKind.f64.format.order N D == some .eq) = false ∧ (FloatKind.f64.format.order N U == some .eq) = true))
    (hAD : ∀ w1, Calls Tryz.prog 34 #[.float .f64 D] w1 fun e w' => e = .returned (.float .f64 dD) ∧ G w1 w')
    (hAU : ∀ w1, Calls Tryz.prog 34 #[.float .f64 U] w1 fun e w' => e = .returned (.float .f64 dU) ∧ G w1 w')
    (hAI : ∀ w1, Calls Tryz.prog 34 #[.float .f64 I] w1 fun e w' => e = .returned (.float .f64 dI) ∧ G w1 w')
    (hMN : ∀ w1, Calls Tryz.prog 35 #[.float .f64 dD, .float .f64 dU] w1 fun e w' => e = .returned (.float .f64 dM) ∧ G w1 w')
    (hIM : (FloatKind.f64.format.order dI dM == some .eq) = true) :
    Calls Tryz.prog 5 #[.int .i64 a, .int .i64 b, .int .i64 e] w fun r w' => r = .returned (.bool true) ∧ G w w' := by
  have HT3 : Hid (∀ w1, G w w1 → _) := hT3
  have HOV : Hid (∀ w1, G w w1 → _) := hOV
  have HTW : Hid (∀ w1, G w w1 → _) := hTW
  have HM : Hid (∀ w1 v u, G w w1 → _) := hM
  have HF2 : Hid (∀ w1 v, _) := hF2
  have HF3 : Hid (∀ w1 v, _) := hF3
  have HF1 : Hid (∀ w1 v, _) := hF1
  have HF4 : Hid (∀ w1 v, _) := hF4
  have HO1 : Hid (∀ w1, G w w1 → _) := hO1
  have HO2 : Hid (∀ w1, G w w1 → _) := hO2
  have HC1 : Hid (∀ w1 v u, _) := hC1
  have HC2 : Hid (∀ w1 v u, _) := hC2
  have HINF : Hid (∀ w1, _) := fun w1 => inf_c 1 w1 (by omega)
  have HNX : Hid (∀ w1, _) := hNX
  have HAD : Hid (∀ w1, _) := hAD
  have HAU : Hid (∀ w1, _) := hAU
  have HAI : Hid (∀ w1, _) := hAI
  have HMN : Hid (∀ w1, _) := hMN
  clear hT3 hOV hTW hM hF2 hF3 hF1 hF4 hO1 hO2 hC1 hC2 hNX hAD hAU hAI hMN
  have hUU2 : (FloatKind.f64.format.order U U != some .eq) = false := by show (!(_ == _)) = _; rw [hUU]; rfl
  have hDU : (FloatKind.f64.format.order D U != some .eq) = false ∨ ((FloatKind.f64.format.order D U != some .eq) = true ∧ upV D = U) := by
    rcases hDU with h | ⟨h, h2⟩
    · exact Or.inl (by show (!(_ == _)) = _; rw [h]; rfl)
    · exact Or.inr ⟨by show (!(_ == _)) = _; rw [h]; rfl, h2⟩
  rcases hDU with hDU | ⟨hDU, hup⟩ <;> rcases hN with hND | ⟨hND, hNU⟩
  all_goals try rw [hup] at HNX
  all_goals try clear hup
  all_goals
  (go_enter Tryz.func5, Tryz.ntmps5
   go_wp2_with fail
   refine Calls.mono (P := Tryz.prog) (HT3.out _ (G.refl _)) ?_
   rintro e w1 ⟨rfl, g1⟩
   go_wp2_with fail
   refine Calls.mono (P := Tryz.prog) (HOV.out w1 g1) ?_
   intro e1 w2 hs
   obtain ⟨v, p, rfl, g2, hv, -, -, -⟩ := hs
   have HV2 : Hid (QIs w2 v x) := hv
   obtain ⟨a1, k1, d1, a2, k2, d2, rfl, -, -⟩ := hv
   generalize decide (x.num < 0) = t1 at *
   go_wp2_with fail
   have g3 : G w2 (w2.alloc (.cells #[.bool t1, .slice a1 k1 d1, .slice a2 k2 d2] 28)) := ((G.refl w2).alloc _)
   have R0 : Hid (Rec (w2.alloc (.cells #[.bool t1, .slice a1 k1 d1, .slice a2 k2 d2] 28)) (w2.heap.size) [.bool t1, .slice a1 k1 d1, .slice a2 k2 d2]) := by
     have h := Rec.new3 w2 (.bool t1) (.slice a1 k1 d1) (.slice a2 k2 d2) 28
     exact h
   have hz3 : (w2.alloc (.cells #[.bool t1, .slice a1 k1 d1, .slice a2 k2 d2] 28)).heap.size = w2.heap.size + 1 := by simp
   generalize (w2.alloc (.cells #[.bool t1, .slice a1 k1 d1, .slice a2 k2 d2] 28)) = w3 at *
   have RN : Hid (Rec _ _ _) := R0
   clear R0
   have gw3 := G.trans g1 (G.trans g2 g3)
   have hsz : w.heap.size ≤ w2.heap.size := Nat.le_trans g1.size g2.size
   refine Calls.mono (P := Tryz.prog) (HTW.out w3 gw3) ?_
   intro e1 w4 hs
   obtain ⟨v, rfl, g4, hv⟩ := hs
   have HV4 : Hid (QIs w4 v y) := hv
   obtain ⟨a3, k3, d3, a4, k4, d4, rfl, -, -⟩ := hv
   generalize decide (y.num < 0) = t2 at *
   have hSRN := Rec.f3 (Rec.G RN.out (G.alloc g4 (.cells #[.bool t2, .slice a3 k3 d3, .slice a4 k4 d4] 28)))
   have hSRN_0 := hSRN.1
   have hSRN_1 := hSRN.2.1
   have hSRN_2 := hSRN.2.2.1
   have hSRN_3 := hSRN.2.2.2.1
   have hSRN_4 := hSRN.2.2.2.2.1
   have hSRN_5 := hSRN.2.2.2.2.2
   clear hSRN
   go_wp2_with fail
   clear hSRN_0 hSRN_1 hSRN_2 hSRN_3 hSRN_4 hSRN_5
   have g5 : G w4 (w4.alloc (.cells #[.bool t2, .slice a3 k3 d3, .slice a4 k4 d4] 28)) := ((G.refl w4).alloc _)
   have R0 : Hid (Rec (w4.alloc (.cells #[.bool t2, .slice a3 k3 d3, .slice a4 k4 d4] 28)) (w4.heap.size) [.bool t2, .slice a3 k3 d3, .slice a4 k4 d4]) := by
     have h := Rec.new3 w4 (.bool t2) (.slice a3 k3 d3) (.slice a4 k4 d4) 28
     exact h
   have hz5 : (w4.alloc (.cells #[.bool t2, .slice a3 k3 d3, .slice a4 k4 d4] 28)).heap.size = w4.heap.size + 1 := by simp
   generalize (w4.alloc (.cells #[.bool t2, .slice a3 k3 d3, .slice a4 k4 d4] 28)) = w5 at *
   have g35 := G.trans g4 g5
   have gw5 := G.trans gw3 g35
   refine Calls.mono (P := Tryz.prog) (HM.out w5 _ _ gw5 (QIs.G HV2.out (G.trans g3 g35)) (QIs.G HV4.out g5)) ?_
   intro e1 w6 hs
   obtain ⟨v, rfl, g6, hv⟩ := hs
   have HQ6 : Hid (QIs w6 v q) := hv
   obtain ⟨a5, k5, d5, a8, k8, d8, rfl, -, -⟩ := hv
   generalize decide (q.num < 0) = t3 at *
   have g36 := G.trans g35 g6
   have gw6 := G.trans gw5 g6
   have hSRN := Rec.f3 (Rec.G RN.out (g36))
   have hSRN_0 := hSRN.1
   have hSRN_1 := hSRN.2.1
   have hSRN_2 := hSRN.2.2.1
   have hSRN_3 := hSRN.2.2.2.1
   have hSRN_4 := hSRN.2.2.2.2.1
   have hSRN_5 := hSRN.2.2.2.2.2
   clear hSRN
   have HQ7 : QIs _ _ q := QIs.set3 (u1 := .bool t3) (u2 := .slice a5 k5 d5) (u3 := .slice a8 k8 d8) HQ6.out (Rec.G RN.out g36) trivial trivial trivial
   go_wp2_with fail
   have RN7 : Hid (Rec (((w6.setCell ⟨w2.heap.size, 0, none⟩ (.bool t3)).setCell ⟨w2.heap.size, 1, none⟩ (.slice a5 k5 d5)).setCell ⟨w2.heap.size, 2, none⟩ (.slice a8 k8 d8)) (w2.heap.size) [.bool t3, .slice a5 k5 d5, .slice a8 k8 d8]) := Rec.set3 (Rec.G RN.out g36)
   have g7 := Rec.g3 (b := w2.heap.size) (u := .bool t3) (v := .slice a5 k5 d5) (x := .slice a8 k8 d8) gw6 hsz
   generalize (((w6.setCell ⟨w2.heap.size, 0, none⟩ (.bool t3)).setCell ⟨w2.heap.size, 1, none⟩ (.slice a5 k5 d5)).setCell ⟨w2.heap.size, 2, none⟩ (.slice a8 k8 d8)) = w7 at *
   have HQ : Hid (QIs w7 _ q) := HQ7
   clear HQ7 HQ6 HV2 HV4 RN g36 gw6 g35 gw5 gw3 g6 hSRN_0 hSRN_1 hSRN_2 hSRN_3 hSRN_4 hSRN_5
   refine Calls.mono (P := Tryz.prog) (HF2.out w7 _ HQ.out) ?_
   rintro e w8 ⟨rfl, g8⟩
   have hSRN7 := Rec.f3 (Rec.G RN7.out (g8))
   have hSRN7_0 := hSRN7.1
   have hSRN7_1 := hSRN7.2.1
   have hSRN7_2 := hSRN7.2.2.1
   have hSRN7_3 := hSRN7.2.2.2.1
   have hSRN7_4 := hSRN7.2.2.2.2.1
   have hSRN7_5 := hSRN7.2.2.2.2.2
   clear hSRN7
   go_wp2_with fail
   clear hSRN7_0 hSRN7_1 hSRN7_2 hSRN7_3 hSRN7_4 hSRN7_5
   refine Calls.mono (P := Tryz.prog) (HF3.out w8 _ (QIs.G HQ.out g8)) ?_
   rintro e w9 ⟨rfl, g9⟩
   have g79 := G.trans g8 g9
   have hSRN7 := Rec.f3 (Rec.G RN7.out (g79))
   have hSRN7_0 := hSRN7.1
   have hSRN7_1 := hSRN7.2.1
   have hSRN7_2 := hSRN7.2.2.1
   have hSRN7_3 := hSRN7.2.2.2.1
   have hSRN7_4 := hSRN7.2.2.2.2.1
   have hSRN7_5 := hSRN7.2.2.2.2.2
   clear hSRN7
   go_wp2_with fail
   clear hSRN7_0 hSRN7_1 hSRN7_2 hSRN7_3 hSRN7_4 hSRN7_5
   refine Calls.mono (P := Tryz.prog) (HF1.out w9 _ (QIs.G HQ.out g79)) ?_
   rintro e w10 ⟨rfl, g10⟩
   have g710 := G.trans g79 g10
   have hSRN7 := Rec.f3 (Rec.G RN7.out (g710))
   have hSRN7_0 := hSRN7.1
   have hSRN7_1 := hSRN7.2.1
   have hSRN7_2 := hSRN7.2.2.1
   have hSRN7_3 := hSRN7.2.2.2.1
   have hSRN7_4 := hSRN7.2.2.2.2.1
   have hSRN7_5 := hSRN7.2.2.2.2.2
   clear hSRN7
   go_wp2_with fail
   clear hSRN7_0 hSRN7_1 hSRN7_2 hSRN7_3 hSRN7_4 hSRN7_5
   refine Calls.mono (P := Tryz.prog) (HF4.out w10 _ (QIs.G HQ.out g710)) ?_
   rintro e w11 ⟨rfl, g11⟩
   have g711 := G.trans g710 g11
   go_wp2_with fail
   refine Calls.mono (P := Tryz.prog) (HO1.out w11 (G.trans g7 g711)) ?_
   intro e1 w12 hs
   obtain ⟨v, rfl, g12, hv⟩ := hs
   have HV12 : Hid (QIs w12 v x1) := hv
   obtain ⟨a3, k3, d3, a4, k4, d4, rfl, -, -⟩ := hv
   generalize decide (x1.num < 0) = t5 at *
   have gT12 := G.trans g711 g12
   have hSRN7 := Rec.f3 (Rec.G RN7.out (G.alloc gT12 (.cells #[.bool t5, .slice a3 k3 d3, .slice a4 k4 d4] 28)))
   have hSRN7_0 := hSRN7.1
   have hSRN7_1 := hSRN7.2.1
   have hSRN7_2 := hSRN7.2.2.1
   have hSRN7_3 := hSRN7.2.2.2.1
   have hSRN7_4 := hSRN7.2.2.2.2.1
   have hSRN7_5 := hSRN7.2.2.2.2.2
   clear hSRN7
   rcases hc1 with rfl | ⟨rfl, hs1⟩
   · go_wp2_with fail
     clear hSRN7_0 hSRN7_1 hSRN7_2 hSRN7_3 hSRN7_4 hSRN7_5
     have g13 : G w12 (w12.alloc (.cells #[.bool t5, .slice a3 k3 d3, .slice a4 k4 d4] 28)) := ((G.refl w12).alloc _)
     have R0 : Hid (Rec (w12.alloc (.cells #[.bool t5, .slice a3 k3 d3, .slice a4 k4 d4] 28)) (w12.heap.size) [.bool t5, .slice a3 k3 d3, .slice a4 k4 d4]) := by
       have h := Rec.new3 w12 (.bool t5) (.slice a3 k3 d3) (.slice a4 k4 d4) 28
       exact h
     have hz13 : (w12.alloc (.cells #[.bool t5, .slice a3 k3 d3, .slice a4 k4 d4] 28)).heap.size = w12.heap.size + 1 := by simp
     generalize (w12.alloc (.cells #[.bool t5, .slice a3 k3 d3, .slice a4 k4 d4] 28)) = w13 at *
     have gT := G.trans gT12 g13
     refine Calls.mono (P := Tryz.prog) (HO2.out _ (G.trans g7 gT)) ?_
     intro e1 w20 hs
     obtain ⟨v, rfl, g20, hv⟩ := hs
     have HV20 : Hid (QIs w20 v x2) := hv
     obtain ⟨a6, k6, d6, a7, k7, d7, rfl, -, -⟩ := hv
     generalize decide (x2.num < 0) = t6 at *
     have gT20 := G.trans gT g20
     have hSRN7 := Rec.f3 (Rec.G RN7.out (G.alloc gT20 (.cells #[.bool t6, .slice a6 k6 d6, .slice a7 k7 d7] 28)))
     have hSRN7_0 := hSRN7.1
     have hSRN7_1 := hSRN7.2.1
     have hSRN7_2 := hSRN7.2.2.1
     have hSRN7_3 := hSRN7.2.2.2.1
     have hSRN7_4 := hSRN7.2.2.2.2.1
     have hSRN7_5 := hSRN7.2.2.2.2.2
     clear hSRN7
     rcases hc2 with rfl | ⟨rfl, hs2⟩
     · go_wp2_with fail
       have g21 : G w20 (w20.alloc (.cells #[.bool t6, .slice a6 k6 d6, .slice a7 k7 d7] 28)) := ((G.refl w20).alloc _)
       have R0 : Hid (Rec (w20.alloc (.cells #[.bool t6, .slice a6 k6 d6, .slice a7 k7 d7] 28)) (w20.heap.size) [.bool t6, .slice a6 k6 d6, .slice a7 k7 d7]) := by
         have h := Rec.new3 w20 (.bool t6) (.slice a6 k6 d6) (.slice a7 k7 d7) 28
         exact h
       have hz21 : (w20.alloc (.cells #[.bool t6, .slice a6 k6 d6, .slice a7 k7 d7] 28)).heap.size = w20.heap.size + 1 := by simp
       generalize (w20.alloc (.cells #[.bool t6, .slice a6 k6 d6, .slice a7 k7 d7] 28)) = w21 at *
       try (refine Calls.mono (P := Tryz.prog) (HINF.out _) ?_; rintro e w30 ⟨rfl, g30⟩; go_wp2_with fail; refine Calls.mono (P := Tryz.prog) (HNX.out _) ?_; rintro e w31 ⟨rfl, g31⟩; go_wp2_with fail)
       refine Calls.mono (P := Tryz.prog) (HAI.out _) ?_
       rintro e w32 ⟨rfl, g32⟩
       go_wp2_with fail
       refine Calls.mono (P := Tryz.prog) (HAD.out _) ?_
       rintro e w33 ⟨rfl, g33⟩
       go_wp2_with fail
       refine Calls.mono (P := Tryz.prog) (HAU.out _) ?_
       rintro e w34 ⟨rfl, g34⟩
       go_wp2_with fail
       refine Calls.mono (P := Tryz.prog) (HMN.out _) ?_
       rintro e w35 ⟨rfl, g35⟩
       go_wp2_with fail
       go_ret
       exact ⟨rfl, (by repeat' (first | exact G.refl _ | assumption | refine G.alloc ?_ _ | refine G.drew ?_ | refine G.drewN ?_ _ | (refine G.trans ?_ (by assumption))))⟩
     · go_wp2_with fail
       have g21 : G w20 (w20.alloc (.cells #[.bool t6, .slice a6 k6 d6, .slice a7 k7 d7] 28)) := ((G.refl w20).alloc _)
       have R0 : Hid (Rec (w20.alloc (.cells #[.bool t6, .slice a6 k6 d6, .slice a7 k7 d7] 28)) (w20.heap.size) [.bool t6, .slice a6 k6 d6, .slice a7 k7 d7]) := by
         have h := Rec.new3 w20 (.bool t6) (.slice a6 k6 d6) (.slice a7 k7 d7) 28
         exact h
       have hz21 : (w20.alloc (.cells #[.bool t6, .slice a6 k6 d6, .slice a7 k7 d7] 28)).heap.size = w20.heap.size + 1 := by simp
       generalize (w20.alloc (.cells #[.bool t6, .slice a6 k6 d6, .slice a7 k7 d7] 28)) = w21 at *
       refine Calls.mono (P := Tryz.prog) (HC2.out w21 _ _ (QIs.G HV20.out g21) (QIs.G HQ.out (G.trans gT20 g21))) ?_
       rintro e w22 ⟨rfl, g22⟩
       go_wp2_with fail
       try (refine Calls.mono (P := Tryz.prog) (HINF.out _) ?_; rintro e w30 ⟨rfl, g30⟩; go_wp2_with fail; refine Calls.mono (P := Tryz.prog) (HNX.out _) ?_; rintro e w31 ⟨rfl, g31⟩; go_wp2_with fail)
       refine Calls.mono (P := Tryz.prog) (HAI.out _) ?_
       rintro e w32 ⟨rfl, g32⟩
       go_wp2_with fail
       refine Calls.mono (P := Tryz.prog) (HAD.out _) ?_
       rintro e w33 ⟨rfl, g33⟩
       go_wp2_with fail
       refine Calls.mono (P := Tryz.prog) (HAU.out _) ?_
       rintro e w34 ⟨rfl, g34⟩
       go_wp2_with fail
       refine Calls.mono (P := Tryz.prog) (HMN.out _) ?_
       rintro e w35 ⟨rfl, g35⟩
       go_wp2_with fail
       go_ret
       exact ⟨rfl, (by repeat' (first | exact G.refl _ | assumption | refine G.alloc ?_ _ | refine G.drew ?_ | refine G.drewN ?_ _ | (refine G.trans ?_ (by assumption))))⟩
   · go_wp2_with fail
     clear hSRN7_0 hSRN7_1 hSRN7_2 hSRN7_3 hSRN7_4 hSRN7_5
     have g13 : G w12 (w12.alloc (.cells #[.bool t5, .slice a3 k3 d3, .slice a4 k4 d4] 28)) := ((G.refl w12).alloc _)
     have R0 : Hid (Rec (w12.alloc (.cells #[.bool t5, .slice a3 k3 d3, .slice a4 k4 d4] 28)) (w12.heap.size) [.bool t5, .slice a3 k3 d3, .slice a4 k4 d4]) := by
       have h := Rec.new3 w12 (.bool t5) (.slice a3 k3 d3) (.slice a4 k4 d4) 28
       exact h
     have hz13 : (w12.alloc (.cells #[.bool t5, .slice a3 k3 d3, .slice a4 k4 d4] 28)).heap.size = w12.heap.size + 1 := by simp
     generalize (w12.alloc (.cells #[.bool t5, .slice a3 k3 d3, .slice a4 k4 d4] 28)) = w13 at *
     refine Calls.mono (P := Tryz.prog) (HC1.out w13 _ _ (QIs.G HV12.out g13) (QIs.G HQ.out (G.trans gT12 g13))) ?_
     rintro e w14 ⟨rfl, g14⟩
     go_wp2_with fail
     have gT := G.trans gT12 (G.trans g13 g14)
     refine Calls.mono (P := Tryz.prog) (HO2.out _ (G.trans g7 gT)) ?_
     intro e1 w20 hs
     obtain ⟨v, rfl, g20, hv⟩ := hs
     have HV20 : Hid (QIs w20 v x2) := hv
     obtain ⟨a6, k6, d6, a7, k7, d7, rfl, -, -⟩ := hv
     generalize decide (x2.num < 0) = t6 at *
     have gT20 := G.trans gT g20
     have hSRN7 := Rec.f3 (Rec.G RN7.out (G.alloc gT20 (.cells #[.bool t6, .slice a6 k6 d6, .slice a7 k7 d7] 28)))
     have hSRN7_0 := hSRN7.1
     have hSRN7_1 := hSRN7.2.1
     have hSRN7_2 := hSRN7.2.2.1
     have hSRN7_3 := hSRN7.2.2.2.1
     have hSRN7_4 := hSRN7.2.2.2.2.1
     have hSRN7_5 := hSRN7.2.2.2.2.2
     clear hSRN7
     rcases hc2 with rfl | ⟨rfl, hs2⟩
     · go_wp2_with fail
       have g21 : G w20 (w20.alloc (.cells #[.bool t6, .slice a6 k6 d6, .slice a7 k7 d7] 28)) := ((G.refl w20).alloc _)
       have R0 : Hid (Rec (w20.alloc (.cells #[.bool t6, .slice a6 k6 d6, .slice a7 k7 d7] 28)) (w20.heap.size) [.bool t6, .slice a6 k6 d6, .slice a7 k7 d7]) := by
         have h := Rec.new3 w20 (.bool t6) (.slice a6 k6 d6) (.slice a7 k7 d7) 28
         exact h
       have hz21 : (w20.alloc (.cells #[.bool t6, .slice a6 k6 d6, .slice a7 k7 d7] 28)).heap.size = w20.heap.size + 1 := by simp
       generalize (w20.alloc (.cells #[.bool t6, .slice a6 k6 d6, .slice a7 k7 d7] 28)) = w21 at *
       try (refine Calls.mono (P := Tryz.prog) (HINF.out _) ?_; rintro e w30 ⟨rfl, g30⟩; go_wp2_with fail; refine Calls.mono (P := Tryz.prog) (HNX.out _) ?_; rintro e w31 ⟨rfl, g31⟩; go_wp2_with fail)
       refine Calls.mono (P := Tryz.prog) (HAI.out _) ?_
       rintro e w32 ⟨rfl, g32⟩
       go_wp2_with fail
       refine Calls.mono (P := Tryz.prog) (HAD.out _) ?_
       rintro e w33 ⟨rfl, g33⟩
       go_wp2_with fail
       refine Calls.mono (P := Tryz.prog) (HAU.out _) ?_
       rintro e w34 ⟨rfl, g34⟩
       go_wp2_with fail
       refine Calls.mono (P := Tryz.prog) (HMN.out _) ?_
       rintro e w35 ⟨rfl, g35⟩
       go_wp2_with fail
       go_ret
       exact ⟨rfl, (by repeat' (first | exact G.refl _ | assumption | refine G.alloc ?_ _ | refine G.drew ?_ | refine G.drewN ?_ _ | (refine G.trans ?_ (by assumption))))⟩
     · go_wp2_with fail
       have g21 : G w20 (w20.alloc (.cells #[.bool t6, .slice a6 k6 d6, .slice a7 k7 d7] 28)) := ((G.refl w20).alloc _)
       have R0 : Hid (Rec (w20.alloc (.cells #[.bool t6, .slice a6 k6 d6, .slice a7 k7 d7] 28)) (w20.heap.size) [.bool t6, .slice a6 k6 d6, .slice a7 k7 d7]) := by
         have h := Rec.new3 w20 (.bool t6) (.slice a6 k6 d6) (.slice a7 k7 d7) 28
         exact h
       have hz21 : (w20.alloc (.cells #[.bool t6, .slice a6 k6 d6, .slice a7 k7 d7] 28)).heap.size = w20.heap.size + 1 := by simp
       generalize (w20.alloc (.cells #[.bool t6, .slice a6 k6 d6, .slice a7 k7 d7] 28)) = w21 at *
       refine Calls.mono (P := Tryz.prog) (HC2.out w21 _ _ (QIs.G HV20.out g21) (QIs.G HQ.out (G.trans gT20 g21))) ?_
       rintro e w22 ⟨rfl, g22⟩
       go_wp2_with fail
       try (refine Calls.mono (P := Tryz.prog) (HINF.out _) ?_; rintro e w30 ⟨rfl, g30⟩; go_wp2_with fail; refine Calls.mono (P := Tryz.prog) (HNX.out _) ?_; rintro e w31 ⟨rfl, g31⟩; go_wp2_with fail)
       refine Calls.mono (P := Tryz.prog) (HAI.out _) ?_
       rintro e w32 ⟨rfl, g32⟩
       go_wp2_with fail
       refine Calls.mono (P := Tryz.prog) (HAD.out _) ?_
       rintro e w33 ⟨rfl, g33⟩
       go_wp2_with fail
       refine Calls.mono (P := Tryz.prog) (HAU.out _) ?_
       rintro e w34 ⟨rfl, g34⟩
       go_wp2_with fail
       refine Calls.mono (P := Tryz.prog) (HMN.out _) ?_
       rintro e w35 ⟨rfl, g35⟩
       go_wp2_with fail
       go_ret
       exact ⟨rfl, (by repeat' (first | exact G.refl _ | assumption | refine G.alloc ?_ _ | refine G.drew ?_ | refine G.drewN ?_ _ | (refine G.trans ?_ (by assumption))))⟩
   skip)
end Go.Proofs.YtahfkkkfpcdjaabGreatDoor.EN
