/- What is proved here: the lesser of two floats that are not below 0 (no program).
What is proved here: the walk of the law on a number's four floats, over this seat's translation.
What is proved here: the law on a number's four floats, over this seat's translation. -/
import Derived.Test.YtahfkkkfpcdjaabGreatDoorC34
import GoSem.Extern.MathDim
import Derived.Test.YtahfkkkfpcdjaabGreatDoorC30
namespace Go.Proofs.YtahfkkkfpcdjaabGreatDoor.EN
open Go.ChangeShapes Go.WideShapes Go.ChangeAt Go.RowKit

theorem pos_word {x : Nat} (hx : x ≤ 2047 * 2 ^ 52) : FT.rung x = x ∧ FT.neg x = false ∧ FT.nan x = false := by
  have h1 := FT.wrd_rung false x (by omega)
  have h2 := FT.wrd_neg false x (by omega)
  have h3 := wrd_nan false hx
  rw [show FT.wrd false x = x from rfl] at h1 h2 h3
  exact ⟨h1, h2, h3⟩
theorem pos_read {x : Nat} (hx : x ≤ 2047 * 2 ^ 52) : (FloatKind.f64.decode x == .infinity true) = false ∧ (FloatKind.f64.decode x).isNaN = false ∧ (FloatKind.f64.decode x).neg = false ∧ ((FloatKind.f64.decode x).isZero = true → x = 0) := by
  obtain ⟨h1, h2, h3⟩ := pos_word hx
  by_cases h : x = 2047 * 2 ^ 52
  · have hr : FloatKind.f64.decode x = .infinity (FT.neg x) := FT.read_inf (by rw [h1]; exact h)
    rw [hr, h2]
    exact ⟨rfl, rfl, rfl, fun h => by cases h⟩
  · obtain ⟨m, p, hr, -, -, hz⟩ := FT.read_number (b := x) (by rw [h1]; unfold FT.infR; omega)
    have hr' : FloatKind.f64.decode x = .number (FT.neg x) m p := hr
    rw [hr', h2]
    refine ⟨rfl, rfl, rfl, fun h => ?_⟩
    rw [h1] at hz
    refine hz.1 ?_
    cases m with
    | zero => rfl
    | succ m => exact absurd h (by simp [Ieee.Datum.isZero])
theorem pick_min {x y : Nat} (hx : x ≤ 2047 * 2 ^ 52) (hy : y ≤ 2047 * 2 ^ 52) :
    Extern.MathDim.pick "math.archMin" true .lt #[.float .f64 x, .float .f64 y] = pure (.float .f64 (min x y)) := by
  obtain ⟨a1, a2, a3, a4⟩ := pos_read hx
  obtain ⟨b1, b2, b3, b4⟩ := pos_read hy
  obtain ⟨x1, x2, x3⟩ := pos_word hx
  obtain ⟨y1, y2, y3⟩ := pos_word hy
  have ho : (FloatKind.f64.decode x).order (FloatKind.f64.decode y) = some (compare (x : Int) y) := by
    have h := FT.ord_f x y
    rw [x3, y3] at h
    unfold FT.key at h
    rw [x1, x2, y1, y2] at h
    exact h
  have hc : (some (compare (x : Int) y) == some Ordering.lt) = decide (x < y) := by
    rcases Int.lt_trichotomy (x : Int) y with h1 | h1 | h1
    · rw [Int.compare_eq_lt.2 h1, decide_eq_true (by omega)]; rfl
    · rw [Int.compare_eq_eq.2 h1, decide_eq_false (by omega)]; rfl
    · rw [Int.compare_eq_gt.2 h1, decide_eq_false (by omega)]; rfl
  have e : Extern.MathDim.pick "math.archMin" true .lt #[.float .f64 x, .float .f64 y] = pure (.float .f64 (if FloatKind.f64.decode x == .infinity true || FloatKind.f64.decode y == .infinity true then FloatKind.f64.encode (.infinity true)
      else if (FloatKind.f64.decode x).isNaN || (FloatKind.f64.decode y).isNaN then 0x7FF8000000000001
      else if (FloatKind.f64.decode x).isZero && (FloatKind.f64.decode y).isZero then (if (FloatKind.f64.decode x).neg == true then x else y)
      else if (FloatKind.f64.decode x).order (FloatKind.f64.decode y) == some .lt then x else y)) := rfl
  rw [e]
  clear e
  simp only [a1, a2, a3, b1, b2, Bool.or_self, Bool.false_eq_true, if_false, ho, hc, decide_eq_true_eq]
  congr 2
  split
  · rename_i h
    simp only [Bool.and_eq_true] at h
    rw [a4 h.1, b4 h.2]
    rfl
  · split <;> omega
end Go.Proofs.YtahfkkkfpcdjaabGreatDoor.EN
namespace Go.Proofs.YtahfkkkfpcdjaabGreatDoor.EN
open Go.ChangeShapes Go.WideShapes Go.ChangeAt Go.RowKit

theorem pick_r (x y r : Nat) (h : Extern.MathDim.pick "math.archMin" true .lt #[.float .f64 x, .float .f64 y] = pure (.float .f64 r)) (w : World) :
    (callFunc 101 #[.float .f64 x, .float .f64 y]).run Tryz.prog w = .ok (.value (.float .f64 r)) w := by
  rw [run_callFunc_extern Tryz.func101 (by kernel_rfl) (by kernel_rfl) (by kernel_rfl) (e := Extern.MathDim.pick "math.archMin" true .lt) (by kernel_rfl), h]
  rfl
theorem min_c (x y : Nat) (hx : x ≤ 2047 * 2 ^ 52) (hy : y ≤ 2047 * 2 ^ 52) (w : World) :
    Calls Tryz.prog 35 #[.float .f64 x, .float .f64 y] w fun e w' => e = .returned (.float .f64 (min x y)) ∧ G w w' := by
  have hr := pick_r x y _ (pick_min hx hy)
  clear hx hy
  generalize min x y = r at *
  go_enter Tryz.func35, Tryz.ntmps35
  go_wp2
  go_ret
  exact ⟨rfl, G.refl _⟩


set_option maxRecDepth 10000 in
set_option maxHeartbeats 4000000 in
theorem near_core (w : World) (a b e : Int) (x y q x1 x2 : Rat) (D U N I dD dU dM dI : Nat) (c1 c2 s1 s2 : Int)
    (hT3 : ∀ w1, G w w1 → Calls Tryz.prog 9 #[] w1 fun e w' => e = .returned (.bool true) ∧ G w1 w')
    (hOV : ∀ w1, G w w1 → Calls Tryz.prog 29 #[.int .i64 a, .int .i64 b] w1 (RetOver w1 x))
    (hTW : ∀ w1, G w w1 → Calls Tryz.prog 30 #[.int .i64 e] w1 (RetQE w1 y 0))
    (hM : ∀ w1 v u, G w w1 → QIs w1 v x → QIs w1 u y → Calls Tryz.prog 21 #[v, u] w1 (RetQ w1 q))
    (hF2 : ∀ w1 v, QIs w1 v q → Calls Tryz.prog 23 #[v, .int .i64 2] w1 fun r w' => r = .returned (.tuple #[.float .f64 D, .int .i64 0]) ∧ G w1 w')
    (hF3 : ∀ w1 v, QIs w1 v q → Calls Tryz.prog 23 #[v, .int .i64 3] w1 fun r w' => r = .returned (.tuple #[.float .f64 U, .int .i64 0]) ∧ G w1 w')
    (hF1 : ∀ w1 v, QIs w1 v q → Calls Tryz.prog 23 #[v, .int .i64 1] w1 fun r w' => r = .returned (.tuple #[.float .f64 N, .int .i64 0]) ∧ G w1 w')
    (hF4 : ∀ w1 v, QIs w1 v q → Calls Tryz.prog 23 #[v, .int .i64 4] w1 fun r w' => r = .returned (.tuple #[.float .f64 I, .int .i64 0]) ∧ G w1 w')
    (hO1 : ∀ w1, G w w1 → Calls Tryz.prog 15 #[.float .f64 D] w1 (RetQE w1 x1 c1))
    (hO2 : ∀ w1, G w w1 → Calls Tryz.prog 15 #[.float .f64 U] w1 (RetQE w1 x2 c2))
    (hC1 : ∀ w1 v u, QIs w1 v x1 → QIs w1 u q → Calls Tryz.prog 31 #[v, u] w1 fun e w' => e = .returned (.int .i64 s1) ∧ G w1 w')
    (hC2 : ∀ w1 v u, QIs w1 v x2 → QIs w1 u q → Calls Tryz.prog 31 #[v, u] w1 fun e w' => e = .returned (.int .i64 s2) ∧ G w1 w')
    (hc1 : c1 = 4 ∨ (c1 = 0 ∧ decide (0 < s1) = false)) (hc2 : c2 = 4 ∨ (c2 = 0 ∧ decide (s2 < 0) = false))
    (hNX : ∀ w1, Calls Tryz.prog 32 #[.float .f64 D, .float .f64 FT.infR] w1 fun e w' => e = .returned (.float .f64 (upV D)) ∧ G w1 w')
    (hDU : (FloatKind.f64.format.order D U == some .eq) = true ∨ ((FloatKind.f64.format.order D U == some .eq) = false ∧ upV D = U)) (hUU : (FloatKind.f64.format.order U U == some .eq) = true)
    (hN : (FloatKind.f64.format.order N D == some .eq) = true ∨ ((FloatKind.f64.format.order N D == some .eq) = false ∧ (FloatKind.f64.format.order N U == some .eq) = true))
    (hAD : ∀ w1, Calls Tryz.prog 34 #[.float .f64 D] w1 fun e w' => e = .returned (.float .f64 dD) ∧ G w1 w')
    (hAU : ∀ w1, Calls Tryz.prog 34 #[.float .f64 U] w1 fun e w' => e = .returned (.float .f64 dU) ∧ G w1 w')
    (hAI : ∀ w1, Calls Tryz.prog 34 #[.float .f64 I] w1 fun e w' => e = .returned (.float .f64 dI) ∧ G w1 w')
    (hMN : ∀ w1, Calls Tryz.prog 35 #[.float .f64 dD, .float .f64 dU] w1 fun e w' => e = .returned (.float .f64 dM) ∧ G w1 w')
    (hIM : (FloatKind.f64.format.order dI dM == some .eq) = true) :
    Calls Tryz.prog 5 #[.int .i64 a, .int .i64 b, .int .i64 e] w fun r w' => r = .returned (.bool true) ∧ G w w' := by
  have HT3 : Hid (∀ w1, G w w1 → _) := hT3
  have HOV : Hid (∀ w1, G w w1 → _) := hOV
  have HTW : Hid (∀ w1, G w w1 → _) := hTW
  have HM : Hid (∀ w1 v u, G w w1 → _) := hM
  have HF2 : Hid (∀ w1 v, _) := hF2
  have HF3 : Hid (∀ w1 v, _) := hF3
  have HF1 : Hid (∀ w1 v, _) := hF1
  have HF4 : Hid (∀ w1 v, _) := hF4
  have HO1 : Hid (∀ w1, G w w1 → _) := hO1
  have HO2 : Hid (∀ w1, G w w1 → _) := hO2
  have HC1 : Hid (∀ w1 v u, _) := hC1
  have HC2 : Hid (∀ w1 v u, _) := hC2
  have HINF : Hid (∀ w1, _) := fun w1 => inf_c 1 w1 (by omega)
  have HNX : Hid (∀ w1, _) := hNX
  have HAD : Hid (∀ w1, _) := hAD
  have HAU : Hid (∀ w1, _) := hAU
  have HAI : Hid (∀ w1, _) := hAI
  have HMN : Hid (∀ w1, _) := hMN
  clear hT3 hOV hTW hM hF2 hF3 hF1 hF4 hO1 hO2 hC1 hC2 hNX hAD hAU hAI hMN
  have hUU2 : (FloatKind.f64.format.order U U != some .eq) = false := by show (!(_ == _)) = _; rw [hUU]; rfl
  have hDU : (FloatKind.f64.format.order D U != some .eq) = false ∨ ((FloatKind.f64.format.order D U != some .eq) = true ∧ upV D = U) := by
    rcases hDU with h | ⟨h, h2⟩
    · exact Or.inl (by show (!(_ == _)) = _; rw [h]; rfl)
    · exact Or.inr ⟨by show (!(_ == _)) = _; rw [h]; rfl, h2⟩
  rcases hDU with hDU | ⟨hDU, hup⟩ <;> rcases hN with hND | ⟨hND, hNU⟩
  all_goals try rw [hup] at HNX
  all_goals try clear hup
  all_goals
  (go_enter Tryz.func5, Tryz.ntmps5
   go_wp2_with fail
   refine Calls.mono (P := Tryz.prog) (HT3.out _ (G.refl _)) ?_
   rintro e w1 ⟨rfl, g1⟩
   go_wp2_with fail
   refine Calls.mono (P := Tryz.prog) (HOV.out w1 g1) ?_
   intro e1 w2 hs
   obtain ⟨v, p, rfl, g2, hv, -, -, -⟩ := hs
   have HV2 : Hid (QIs w2 v x) := hv
   obtain ⟨a1, k1, d1, a2, k2, d2, rfl, -, -⟩ := hv
   generalize decide (x.num < 0) = t1 at *
   go_wp2_with fail
   have g3 : G w2 (w2.alloc (.cells #[.bool t1, .slice a1 k1 d1, .slice a2 k2 d2] 28)) := ((G.refl w2).alloc _)
   have R0 : Hid (Rec (w2.alloc (.cells #[.bool t1, .slice a1 k1 d1, .slice a2 k2 d2] 28)) (w2.heap.size) [.bool t1, .slice a1 k1 d1, .slice a2 k2 d2]) := by
     have h := Rec.new3 w2 (.bool t1) (.slice a1 k1 d1) (.slice a2 k2 d2) 28
     exact h
   have hz3 : (w2.alloc (.cells #[.bool t1, .slice a1 k1 d1, .slice a2 k2 d2] 28)).heap.size = w2.heap.size + 1 := by simp
   generalize (w2.alloc (.cells #[.bool t1, .slice a1 k1 d1, .slice a2 k2 d2] 28)) = w3 at *
   have RN : Hid (Rec _ _ _) := R0
   clear R0
   have gw3 := G.trans g1 (G.trans g2 g3)
   have hsz : w.heap.size ≤ w2.heap.size := Nat.le_trans g1.size g2.size
   refine Calls.mono (P := Tryz.prog) (HTW.out w3 gw3) ?_
   intro e1 w4 hs
   obtain ⟨v, rfl, g4, hv⟩ := hs
   have HV4 : Hid (QIs w4 v y) := hv
   obtain ⟨a3, k3, d3, a4, k4, d4, rfl, -, -⟩ := hv
   generalize decide (y.num < 0) = t2 at *
   have hSRN := Rec.f3 (Rec.G RN.out (G.alloc g4 (.cells #[.bool t2, .slice a3 k3 d3, .slice a4 k4 d4] 28)))
   have hSRN_0 := hSRN.1
   have hSRN_1 := hSRN.2.1
   have hSRN_2 := hSRN.2.2.1
   have hSRN_3 := hSRN.2.2.2.1
   have hSRN_4 := hSRN.2.2.2.2.1
   have hSRN_5 := hSRN.2.2.2.2.2
   clear hSRN
   go_wp2_with fail
   clear hSRN_0 hSRN_1 hSRN_2 hSRN_3 hSRN_4 hSRN_5
   have g5 : G w4 (w4.alloc (.cells #[.bool t2, .slice a3 k3 d3, .slice a4 k4 d4] 28)) := ((G.refl w4).alloc _)
   have R0 : Hid (Rec (w4.alloc (.cells #[.bool t2, .slice a3 k3 d3, .slice a4 k4 d4] 28)) (w4.heap.size) [.bool t2, .slice a3 k3 d3, .slice a4 k4 d4]) := by
     have h := Rec.new3 w4 (.bool t2) (.slice a3 k3 d3) (.slice a4 k4 d4) 28
     exact h
   have hz5 : (w4.alloc (.cells #[.bool t2, .slice a3 k3 d3, .slice a4 k4 d4] 28)).heap.size = w4.heap.size + 1 := by simp
   generalize (w4.alloc (.cells #[.bool t2, .slice a3 k3 d3, .slice a4 k4 d4] 28)) = w5 at *
   have g35 := G.trans g4 g5
   have gw5 := G.trans gw3 g35
   refine Calls.mono (P := Tryz.prog) (HM.out w5 _ _ gw5 (QIs.G HV2.out (G.trans g3 g35)) (QIs.G HV4.out g5)) ?_
   intro e1 w6 hs
   obtain ⟨v, rfl, g6, hv⟩ := hs
   have HQ6 : Hid (QIs w6 v q) := hv
   obtain ⟨a5, k5, d5, a8, k8, d8, rfl, -, -⟩ := hv
   generalize decide (q.num < 0) = t3 at *
   have g36 := G.trans g35 g6
   have gw6 := G.trans gw5 g6
   have hSRN := Rec.f3 (Rec.G RN.out (g36))
   have hSRN_0 := hSRN.1
   have hSRN_1 := hSRN.2.1
   have hSRN_2 := hSRN.2.2.1
   have hSRN_3 := hSRN.2.2.2.1
   have hSRN_4 := hSRN.2.2.2.2.1
   have hSRN_5 := hSRN.2.2.2.2.2
   clear hSRN
   have HQ7 : QIs _ _ q := QIs.set3 (u1 := .bool t3) (u2 := .slice a5 k5 d5) (u3 := .slice a8 k8 d8) HQ6.out (Rec.G RN.out g36) trivial trivial trivial
   go_wp2_with fail
   have RN7 : Hid (Rec (((w6.setCell ⟨w2.heap.size, 0, none⟩ (.bool t3)).setCell ⟨w2.heap.size, 1, none⟩ (.slice a5 k5 d5)).setCell ⟨w2.heap.size, 2, none⟩ (.slice a8 k8 d8)) (w2.heap.size) [.bool t3, .slice a5 k5 d5, .slice a8 k8 d8]) := Rec.set3 (Rec.G RN.out g36)
   have g7 := Rec.g3 (b := w2.heap.size) (u := .bool t3) (v := .slice a5 k5 d5) (x := .slice a8 k8 d8) gw6 hsz
   generalize (((w6.setCell ⟨w2.heap.size, 0, none⟩ (.bool t3)).setCell ⟨w2.heap.size, 1, none⟩ (.slice a5 k5 d5)).setCell ⟨w2.heap.size, 2, none⟩ (.slice a8 k8 d8)) = w7 at *
   have HQ : Hid (QIs w7 _ q) := HQ7
   clear HQ7 HQ6 HV2 HV4 RN g36 gw6 g35 gw5 gw3 g6 hSRN_0 hSRN_1 hSRN_2 hSRN_3 hSRN_4 hSRN_5
   refine Calls.mono (P := Tryz.prog) (HF2.out w7 _ HQ.out) ?_
   rintro e w8 ⟨rfl, g8⟩
   have hSRN7 := Rec.f3 (Rec.G RN7.out (g8))
   have hSRN7_0 := hSRN7.1
   have hSRN7_1 := hSRN7.2.1
   have hSRN7_2 := hSRN7.2.2.1
   have hSRN7_3 := hSRN7.2.2.2.1
   have hSRN7_4 := hSRN7.2.2.2.2.1
   have hSRN7_5 := hSRN7.2.2.2.2.2
   clear hSRN7
   go_wp2_with fail
   clear hSRN7_0 hSRN7_1 hSRN7_2 hSRN7_3 hSRN7_4 hSRN7_5
   refine Calls.mono (P := Tryz.prog) (HF3.out w8 _ (QIs.G HQ.out g8)) ?_
   rintro e w9 ⟨rfl, g9⟩
   have g79 := G.trans g8 g9
   have hSRN7 := Rec.f3 (Rec.G RN7.out (g79))
   have hSRN7_0 := hSRN7.1
   have hSRN7_1 := hSRN7.2.1
   have hSRN7_2 := hSRN7.2.2.1
   have hSRN7_3 := hSRN7.2.2.2.1
   have hSRN7_4 := hSRN7.2.2.2.2.1
   have hSRN7_5 := hSRN7.2.2.2.2.2
   clear hSRN7
   go_wp2_with fail
   clear hSRN7_0 hSRN7_1 hSRN7_2 hSRN7_3 hSRN7_4 hSRN7_5
   refine Calls.mono (P := Tryz.prog) (HF1.out w9 _ (QIs.G HQ.out g79)) ?_
   rintro e w10 ⟨rfl, g10⟩
   have g710 := G.trans g79 g10
   have hSRN7 := Rec.f3 (Rec.G RN7.out (g710))
   have hSRN7_0 := hSRN7.1
   have hSRN7_1 := hSRN7.2.1
   have hSRN7_2 := hSRN7.2.2.1
   have hSRN7_3 := hSRN7.2.2.2.1
   have hSRN7_4 := hSRN7.2.2.2.2.1
   have hSRN7_5 := hSRN7.2.2.2.2.2
   clear hSRN7
   go_wp2_with fail
   clear hSRN7_0 hSRN7_1 hSRN7_2 hSRN7_3 hSRN7_4 hSRN7_5
   refine Calls.mono (P := Tryz.prog) (HF4.out w10 _ (QIs.G HQ.out g710)) ?_
   rintro e w11 ⟨rfl, g11⟩
   have g711 := G.trans g710 g11
   go_wp2_with fail
   refine Calls.mono (P := Tryz.prog) (HO1.out w11 (G.trans g7 g711)) ?_
   intro e1 w12 hs
   obtain ⟨v, rfl, g12, hv⟩ := hs
   have HV12 : Hid (QIs w12 v x1) := hv
   obtain ⟨a3, k3, d3, a4, k4, d4, rfl, -, -⟩ := hv
   generalize decide (x1.num < 0) = t5 at *
   have gT12 := G.trans g711 g12
   have hSRN7 := Rec.f3 (Rec.G RN7.out (G.alloc gT12 (.cells #[.bool t5, .slice a3 k3 d3, .slice a4 k4 d4] 28)))
   have hSRN7_0 := hSRN7.1
   have hSRN7_1 := hSRN7.2.1
   have hSRN7_2 := hSRN7.2.2.1
   have hSRN7_3 := hSRN7.2.2.2.1
   have hSRN7_4 := hSRN7.2.2.2.2.1
   have hSRN7_5 := hSRN7.2.2.2.2.2
   clear hSRN7
   rcases hc1 with rfl | ⟨rfl, hs1⟩
   · go_wp2_with fail
     clear hSRN7_0 hSRN7_1 hSRN7_2 hSRN7_3 hSRN7_4 hSRN7_5
     have g13 : G w12 (w12.alloc (.cells #[.bool t5, .slice a3 k3 d3, .slice a4 k4 d4] 28)) := ((G.refl w12).alloc _)
     have R0 : Hid (Rec (w12.alloc (.cells #[.bool t5, .slice a3 k3 d3, .slice a4 k4 d4] 28)) (w12.heap.size) [.bool t5, .slice a3 k3 d3, .slice a4 k4 d4]) := by
       have h := Rec.new3 w12 (.bool t5) (.slice a3 k3 d3) (.slice a4 k4 d4) 28
       exact h
     have hz13 : (w12.alloc (.cells #[.bool t5, .slice a3 k3 d3, .slice a4 k4 d4] 28)).heap.size = w12.heap.size + 1 := by simp
     generalize (w12.alloc (.cells #[.bool t5, .slice a3 k3 d3, .slice a4 k4 d4] 28)) = w13 at *
     have gT := G.trans gT12 g13
     refine Calls.mono (P := Tryz.prog) (HO2.out _ (G.trans g7 gT)) ?_
     intro e1 w20 hs
     obtain ⟨v, rfl, g20, hv⟩ := hs
     have HV20 : Hid (QIs w20 v x2) := hv
     obtain ⟨a6, k6, d6, a7, k7, d7, rfl, -, -⟩ := hv
     generalize decide (x2.num < 0) = t6 at *
     have gT20 := G.trans gT g20
     have hSRN7 := Rec.f3 (Rec.G RN7.out (G.alloc gT20 (.cells #[.bool t6, .slice a6 k6 d6, .slice a7 k7 d7] 28)))
     have hSRN7_0 := hSRN7.1
     have hSRN7_1 := hSRN7.2.1
     have hSRN7_2 := hSRN7.2.2.1
     have hSRN7_3 := hSRN7.2.2.2.1
     have hSRN7_4 := hSRN7.2.2.2.2.1
     have hSRN7_5 := hSRN7.2.2.2.2.2
     clear hSRN7
     rcases hc2 with rfl | ⟨rfl, hs2⟩
     · go_wp2_with fail
       have g21 : G w20 (w20.alloc (.cells #[.bool t6, .slice a6 k6 d6, .slice a7 k7 d7] 28)) := ((G.refl w20).alloc _)
       have R0 : Hid (Rec (w20.alloc (.cells #[.bool t6, .slice a6 k6 d6, .slice a7 k7 d7] 28)) (w20.heap.size) [.bool t6, .slice a6 k6 d6, .slice a7 k7 d7]) := by
         have h := Rec.new3 w20 (.bool t6) (.slice a6 k6 d6) (.slice a7 k7 d7) 28
         exact h
       have hz21 : (w20.alloc (.cells #[.bool t6, .slice a6 k6 d6, .slice a7 k7 d7] 28)).heap.size = w20.heap.size + 1 := by simp
       generalize (w20.alloc (.cells #[.bool t6, .slice a6 k6 d6, .slice a7 k7 d7] 28)) = w21 at *
       try (refine Calls.mono (P := Tryz.prog) (HINF.out _) ?_; rintro e w30 ⟨rfl, g30⟩; go_wp2_with fail; refine Calls.mono (P := Tryz.prog) (HNX.out _) ?_; rintro e w31 ⟨rfl, g31⟩; go_wp2_with fail)
       refine Calls.mono (P := Tryz.prog) (HAI.out _) ?_
       rintro e w32 ⟨rfl, g32⟩
       go_wp2_with fail
       refine Calls.mono (P := Tryz.prog) (HAD.out _) ?_
       rintro e w33 ⟨rfl, g33⟩
       go_wp2_with fail
       refine Calls.mono (P := Tryz.prog) (HAU.out _) ?_
       rintro e w34 ⟨rfl, g34⟩
       go_wp2_with fail
       refine Calls.mono (P := Tryz.prog) (HMN.out _) ?_
       rintro e w35 ⟨rfl, g35⟩
       go_wp2_with fail
       go_ret
       exact ⟨rfl, (by repeat' (first | exact G.refl _ | assumption | refine G.alloc ?_ _ | refine G.drew ?_ | refine G.drewN ?_ _ | (refine G.trans ?_ (by assumption))))⟩
     · go_wp2_with fail
       have g21 : G w20 (w20.alloc (.cells #[.bool t6, .slice a6 k6 d6, .slice a7 k7 d7] 28)) := ((G.refl w20).alloc _)
       have R0 : Hid (Rec (w20.alloc (.cells #[.bool t6, .slice a6 k6 d6, .slice a7 k7 d7] 28)) (w20.heap.size) [.bool t6, .slice a6 k6 d6, .slice a7 k7 d7]) := by
         have h := Rec.new3 w20 (.bool t6) (.slice a6 k6 d6) (.slice a7 k7 d7) 28
         exact h
       have hz21 : (w20.alloc (.cells #[.bool t6, .slice a6 k6 d6, .slice a7 k7 d7] 28)).heap.size = w20.heap.size + 1 := by simp
       generalize (w20.alloc (.cells #[.bool t6, .slice a6 k6 d6, .slice a7 k7 d7] 28)) = w21 at *
       refine Calls.mono (P := Tryz.prog) (HC2.out w21 _ _ (QIs.G HV20.out g21) (QIs.G HQ.out (G.trans gT20 g21))) ?_
       rintro e w22 ⟨rfl, g22⟩
       go_wp2_with fail
       try (refine Calls.mono (P := Tryz.prog) (HINF.out _) ?_; rintro e w30 ⟨rfl, g30⟩; go_wp2_with fail; refine Calls.mono (P := Tryz.prog) (HNX.out _) ?_; rintro e w31 ⟨rfl, g31⟩; go_wp2_with fail)
       refine Calls.mono (P := Tryz.prog) (HAI.out _) ?_
       rintro e w32 ⟨rfl, g32⟩
       go_wp2_with fail
       refine Calls.mono (P := Tryz.prog) (HAD.out _) ?_
       rintro e w33 ⟨rfl, g33⟩
       go_wp2_with fail
       refine Calls.mono (P := Tryz.prog) (HAU.out _) ?_
       rintro e w34 ⟨rfl, g34⟩
       go_wp2_with fail
       refine Calls.mono (P := Tryz.prog) (HMN.out _) ?_
       rintro e w35 ⟨rfl, g35⟩
       go_wp2_with fail
       go_ret
       exact ⟨rfl, (by repeat' (first | exact G.refl _ | assumption | refine G.alloc ?_ _ | refine G.drew ?_ | refine G.drewN ?_ _ | (refine G.trans ?_ (by assumption))))⟩
   · go_wp2_with fail
     clear hSRN7_0 hSRN7_1 hSRN7_2 hSRN7_3 hSRN7_4 hSRN7_5
     have g13 : G w12 (w12.alloc (.cells #[.bool t5, .slice a3 k3 d3, .slice a4 k4 d4] 28)) := ((G.refl w12).alloc _)
     have R0 : Hid (Rec (w12.alloc (.cells #[.bool t5, .slice a3 k3 d3, .slice a4 k4 d4] 28)) (w12.heap.size) [.bool t5, .slice a3 k3 d3, .slice a4 k4 d4]) := by
       have h := Rec.new3 w12 (.bool t5) (.slice a3 k3 d3) (.slice a4 k4 d4) 28
       exact h
     have hz13 : (w12.alloc (.cells #[.bool t5, .slice a3 k3 d3, .slice a4 k4 d4] 28)).heap.size = w12.heap.size + 1 := by simp
     generalize (w12.alloc (.cells #[.bool t5, .slice a3 k3 d3, .slice a4 k4 d4] 28)) = w13 at *
     refine Calls.mono (P := Tryz.prog) (HC1.out w13 _ _ (QIs.G HV12.out g13) (QIs.G HQ.out (G.trans gT12 g13))) ?_
     rintro e w14 ⟨rfl, g14⟩
     go_wp2_with fail
     have gT := G.trans gT12 (G.trans g13 g14)
     refine Calls.mono (P := Tryz.prog) (HO2.out _ (G.trans g7 gT)) ?_
     intro e1 w20 hs
     obtain ⟨v, rfl, g20, hv⟩ := hs
     have HV20 : Hid (QIs w20 v x2) := hv
     obtain ⟨a6, k6, d6, a7, k7, d7, rfl, -, -⟩ := hv
     generalize decide (x2.num < 0) = t6 at *
     have gT20 := G.trans gT g20
     have hSRN7 := Rec.f3 (Rec.G RN7.out (G.alloc gT20 (.cells #[.bool t6, .slice a6 k6 d6, .slice a7 k7 d7] 28)))
     have hSRN7_0 := hSRN7.1
     have hSRN7_1 := hSRN7.2.1
     have hSRN7_2 := hSRN7.2.2.1
     have hSRN7_3 := hSRN7.2.2.2.1
     have hSRN7_4 := hSRN7.2.2.2.2.1
     have hSRN7_5 := hSRN7.2.2.2.2.2
     clear hSRN7
     rcases hc2 with rfl | ⟨rfl, hs2⟩
     · go_wp2_with fail
       have g21 : G w20 (w20.alloc (.cells #[.bool t6, .slice a6 k6 d6, .slice a7 k7 d7] 28)) := ((G.refl w20).alloc _)
       have R0 : Hid (Rec (w20.alloc (.cells #[.bool t6, .slice a6 k6 d6, .slice a7 k7 d7] 28)) (w20.heap.size) [.bool t6, .slice a6 k6 d6, .slice a7 k7 d7]) := by
         have h := Rec.new3 w20 (.bool t6) (.slice a6 k6 d6) (.slice a7 k7 d7) 28
         exact h
       have hz21 : (w20.alloc (.cells #[.bool t6, .slice a6 k6 d6, .slice a7 k7 d7] 28)).heap.size = w20.heap.size + 1 := by simp
       generalize (w20.alloc (.cells #[.bool t6, .slice a6 k6 d6, .slice a7 k7 d7] 28)) = w21 at *
       try (refine Calls.mono (P := Tryz.prog) (HINF.out _) ?_; rintro e w30 ⟨rfl, g30⟩; go_wp2_with fail; refine Calls.mono (P := Tryz.prog) (HNX.out _) ?_; rintro e w31 ⟨rfl, g31⟩; go_wp2_with fail)
       refine Calls.mono (P := Tryz.prog) (HAI.out _) ?_
       rintro e w32 ⟨rfl, g32⟩
       go_wp2_with fail
       refine Calls.mono (P := Tryz.prog) (HAD.out _) ?_
       rintro e w33 ⟨rfl, g33⟩
       go_wp2_with fail
       refine Calls.mono (P := Tryz.prog) (HAU.out _) ?_
       rintro e w34 ⟨rfl, g34⟩
       go_wp2_with fail
       refine Calls.mono (P := Tryz.prog) (HMN.out _) ?_
       rintro e w35 ⟨rfl, g35⟩
       go_wp2_with fail
       go_ret
       exact ⟨rfl, (by repeat' (first | exact G.refl _ | assumption | refine G.alloc ?_ _ | refine G.drew ?_ | refine G.drewN ?_ _ | (refine G.trans ?_ (by assumption))))⟩
     · go_wp2_with fail
       have g21 : G w20 (w20.alloc (.cells #[.bool t6, .slice a6 k6 d6, .slice a7 k7 d7] 28)) := ((G.refl w20).alloc _)
       have R0 : Hid (Rec (w20.alloc (.cells #[.bool t6, .slice a6 k6 d6, .slice a7 k7 d7] 28)) (w20.heap.size) [.bool t6, .slice a6 k6 d6, .slice a7 k7 d7]) := by
         have h := Rec.new3 w20 (.bool t6) (.slice a6 k6 d6) (.slice a7 k7 d7) 28
         exact h
       have hz21 : (w20.alloc (.cells #[.bool t6, .slice a6 k6 d6, .slice a7 k7 d7] 28)).heap.size = w20.heap.size + 1 := by simp
       generalize (w20.alloc (.cells #[.bool t6, .slice a6 k6 d6, .slice a7 k7 d7] 28)) = w21 at *
       refine Calls.mono (P := Tryz.prog) (HC2.out w21 _ _ (QIs.G HV20.out g21) (QIs.G HQ.out (G.trans gT20 g21))) ?_
       rintro e w22 ⟨rfl, g22⟩
       go_wp2_with fail
       try (refine Calls.mono (P := Tryz.prog) (HINF.out _) ?_; rintro e w30 ⟨rfl, g30⟩; go_wp2_with fail; refine Calls.mono (P := Tryz.prog) (HNX.out _) ?_; rintro e w31 ⟨rfl, g31⟩; go_wp2_with fail)
       refine Calls.mono (P := Tryz.prog) (HAI.out _) ?_
       rintro e w32 ⟨rfl, g32⟩
       go_wp2_with fail
       refine Calls.mono (P := Tryz.prog) (HAD.out _) ?_
       rintro e w33 ⟨rfl, g33⟩
       go_wp2_with fail
       refine Calls.mono (P := Tryz.prog) (HAU.out _) ?_
       rintro e w34 ⟨rfl, g34⟩
       go_wp2_with fail
       refine Calls.mono (P := Tryz.prog) (HMN.out _) ?_
       rintro e w35 ⟨rfl, g35⟩
       go_wp2_with fail
       go_ret
       exact ⟨rfl, (by repeat' (first | exact G.refl _ | assumption | refine G.alloc ?_ _ | refine G.drew ?_ | refine G.drewN ?_ _ | (refine G.trans ?_ (by assumption))))⟩
   skip)
end Go.Proofs.YtahfkkkfpcdjaabGreatDoor.EN
namespace Go.Proofs.YtahfkkkfpcdjaabGreatDoor.EN
open Go.ChangeShapes Go.WideShapes Go.ChangeAt Go.RowKit

theorem qb_mk {q : Rat} {z : Int} {d K : Nat} (hd : 0 < d) (h : q = mkRat z d) (h1 : z.natAbs < 2 ^ (64 * K)) (h2 : d < 2 ^ (64 * K)) : QB q K := by
  obtain ⟨e1, e2⟩ := frac_low hd h
  refine ⟨?_, ?_⟩
  · rw [e1, Int.natAbs_tdiv, Int.natAbs_natCast]
    exact Nat.lt_of_le_of_lt (Nat.div_le_self _ _) h1
  · rw [e2]
    exact Nat.lt_of_le_of_lt (Nat.div_le_self _ _) h2
theorem qb_frac {a b : Int} (hb : b ≠ 0) (h1 : a.natAbs < 2 ^ (64 * 1)) (h2 : b.natAbs < 2 ^ (64 * 1)) : QB ((a : Rat) / (b : Rat)) 1 :=
  qb_mk (by omega) (frac_rat hb) (by split <;> omega) h2
theorem qb_two {e : Int} (h1 : -5000 ≤ e) (h2 : e ≤ 5000) : QB (mk2 1 e) 79 := by
  obtain ⟨K, hK⟩ : ∃ K : Nat, K = 79 := ⟨_, rfl⟩
  rw [← hK]
  have k : ∀ n : Nat, n ≤ 5000 → 2 ^ n < 2 ^ (64 * K) := fun n h => Nat.pow_lt_pow_right (by omega) (by omega)
  refine qb_mk (Nat.two_pow_pos _) rfl ?_ (k _ (by omega))
  rw [Int.one_mul, Int.natAbs_natCast]
  exact k _ (by omega)
theorem qb_mul {x y : Rat} {K L : Nat} (hx : QB x K) (hy : QB y L) : QB (x * y) (K + L) := by
  refine qb_mk (z := x.num * y.num) (d := x.den * y.den) (Nat.mul_pos x.den_pos y.den_pos) ?_ ?_ (lt_mul_pow hx.2 hy.2)
  · rw [← Rat.mkRat_mul_mkRat, Rat.mkRat_self, Rat.mkRat_self]
  · rw [Int.natAbs_mul]
    exact lt_mul_pow hx.1 hy.1
theorem qb_fq {b : Nat} (h : fex b < 2047) : QB (FQ b) 80 := by
  have hm : fmag b < 2 ^ 53 := by unfold fmag; split <;> omega
  obtain ⟨K, hK⟩ : ∃ K : Nat, K = 80 := ⟨_, rfl⟩
  obtain ⟨M, hM⟩ : ∃ M : Nat, M = 5000 := ⟨_, rfl⟩
  rw [← hK]
  refine qb_mk (frD_pos _) rfl ?_ ?_
  · rw [frN_abs]
    have h1 : 2 ^ (max (fex b) 1 - 1075) ≤ 2 ^ M := Nat.pow_le_pow_right (by omega) (by omega)
    have h2 : 2 ^ 53 * 2 ^ M < 2 ^ (64 * K) := by rw [← Nat.pow_add]; exact Nat.pow_lt_pow_right (by omega) (by omega)
    exact Nat.lt_of_le_of_lt (Nat.mul_le_mul (Nat.le_of_lt hm) h1) h2
  · unfold frD
    exact Nat.pow_lt_pow_right (by omega) (by omega)
theorem qb_zero {K : Nat} (h : 1 ≤ K) : QB 0 K := ⟨Nat.two_pow_pos _, Nat.one_lt_two_pow (by omega)⟩
theorem fex_top (s : Bool) : fex (FT.wrd s (2047 * 2 ^ 52)) = 2047 := by
  unfold fex FT.wrd
  cases s <;> simp only [if_true, Bool.false_eq_true, if_false] <;> omega

/-- What a float of the law is, or no number. -/
theorem of_any (w : World) (hT : Tab w) (s : Bool) (V : Nat) (hV : V ≤ 2047 * 2 ^ 52) : ∃ (x : Rat) (c : Int), QB x 80 ∧ (∀ w1, G w w1 → Calls Tryz.prog 15 #[.float .f64 (FT.wrd s V)] w1 (RetQE w1 x c)) ∧ (c = 4 ∨ (c = 0 ∧ V < 2047 * 2 ^ 52 ∧ x = FQ (FT.wrd s V))) := by
  by_cases h : V < 2047 * 2 ^ 52
  · have hf := (fq_v s h).2
    exact ⟨_, 0, qb_fq hf, fun w1 g => of_c w1 _ (hT.G g) (FT.wrd_lt s V (by omega)) hf, Or.inr ⟨rfl, h, rfl⟩⟩
  · have hV' : V = 2047 * 2 ^ 52 := by omega
    subst hV'
    exact ⟨0, 4, qb_zero (by omega), fun w1 g => of_nan_c w1 _ (FT.wrd_lt s _ (by omega)) (fex_top s), Or.inl rfl⟩

theorem near_far (w : World) (a b e : Int) (x : Rat)
    (hT3 : ∀ w1, G w w1 → Calls Tryz.prog 9 #[] w1 fun e w' => e = .returned (.bool true) ∧ G w1 w')
    (hOV : ∀ w1, G w w1 → Calls Tryz.prog 29 #[.int .i64 a, .int .i64 b] w1 (RetOver w1 x))
    (hTW : ∀ w1, G w w1 → Calls Tryz.prog 30 #[.int .i64 e] w1 (RetQE w1 0 3)) :
    Calls Tryz.prog 5 #[.int .i64 a, .int .i64 b, .int .i64 e] w fun r w' => r = .returned (.bool true) ∧ G w w' := by
  have HT3 : Hid (∀ w1, G w w1 → _) := hT3
  have HOV : Hid (∀ w1, G w w1 → _) := hOV
  have HTW : Hid (∀ w1, G w w1 → _) := hTW
  clear hT3 hOV hTW
  go_enter Tryz.func5, Tryz.ntmps5
  go_wp2_with fail
  refine Calls.mono (P := Tryz.prog) (HT3.out _ (G.refl _)) ?_
  rintro e w1 ⟨rfl, g1⟩
  go_wp2_with fail
  refine Calls.mono (P := Tryz.prog) (HOV.out w1 g1) ?_
  intro e1 w2 hs
  obtain ⟨v, p, rfl, g2, hv, -, -, -⟩ := hs
  obtain ⟨a1, k1, d1, a2, k2, d2, rfl, -, -⟩ := hv
  generalize decide (x.num < 0) = t1 at *
  go_wp2_with fail
  have g3 : G w2 (w2.alloc (.cells #[.bool t1, .slice a1 k1 d1, .slice a2 k2 d2] 28)) := ((G.refl w2).alloc _)
  have R0 : Hid (Rec (w2.alloc (.cells #[.bool t1, .slice a1 k1 d1, .slice a2 k2 d2] 28)) (w2.heap.size) [.bool t1, .slice a1 k1 d1, .slice a2 k2 d2]) := by
    have h := Rec.new3 w2 (.bool t1) (.slice a1 k1 d1) (.slice a2 k2 d2) 28
    exact h
  have hz3 : (w2.alloc (.cells #[.bool t1, .slice a1 k1 d1, .slice a2 k2 d2] 28)).heap.size = w2.heap.size + 1 := by simp
  generalize (w2.alloc (.cells #[.bool t1, .slice a1 k1 d1, .slice a2 k2 d2] 28)) = w3 at *
  have gw3 := G.trans g1 (G.trans g2 g3)
  refine Calls.mono (P := Tryz.prog) (HTW.out w3 gw3) ?_
  intro e1 w4 hs
  obtain ⟨v, rfl, g4, hv⟩ := hs
  obtain ⟨a3, k3, d3, a4, k4, d4, rfl, -, -⟩ := hv
  generalize decide ((0 : Rat).num < 0) = t2 at *
  go_wp2_with fail
  go_ret
  exact ⟨rfl, (G.trans gw3 g4).alloc _⟩

theorem exactNear_c (w : World) (a b e : Int) (hT : Tab w) (h1 : -9223372036854775808 ≤ a) (h2 : a < 9223372036854775808) (h3 : -9223372036854775808 ≤ b) (h4 : b < 9223372036854775808) :
    Calls Tryz.prog 5 #[.int .i64 a, .int .i64 b, .int .i64 e] w fun r w' => r = .returned (.bool true) ∧ G w w' := by
  obtain ⟨bb, hbb⟩ : ∃ bb : Int, bb = if b = 0 then 1 else b := ⟨_, rfl⟩
  have hb0 : bb ≠ 0 := by rw [hbb]; split <;> omega
  have hbl : bb.natAbs < 2 ^ (64 * 1) := by rw [hbb]; split <;> omega
  have hT3 : ∀ w1, G w w1 → Calls Tryz.prog 9 #[] w1 fun e w' => e = .returned (.bool true) ∧ G w1 w' := fun w1 g => third_c w1 (hT.G g)
  have hOV : ∀ w1, G w w1 → Calls Tryz.prog 29 #[.int .i64 a, .int .i64 b] w1 (RetOver w1 ((a : Rat) / (bb : Rat))) := fun w1 g => lawover_c w1 a b bb hbb (hT.G g) h1 h2 h3 h4
  have hqx : QB ((a : Rat) / (bb : Rat)) 1 := qb_frac hb0 (by omega) hbl
  generalize (a : Rat) / (bb : Rat) = x at *
  by_cases he : -5000 ≤ e ∧ e ≤ 5000
  case neg => exact near_far w a b e x hT3 hOV (fun w1 g => two_far_c w1 e (by omega))
  have hTW : ∀ w1, G w w1 → Calls Tryz.prog 30 #[.int .i64 e] w1 (RetQE w1 (mk2 1 e) 0) := fun w1 g => two_c w1 e he.1 he.2
  have hqy := qb_two he.1 he.2
  generalize mk2 1 e = y at *
  have hqq := qb_mul hqx hqy
  have hM : ∀ w1 v u, G w w1 → QIs w1 v x → QIs w1 u y → Calls Tryz.prog 21 #[v, u] w1 (RetQ w1 (x * y)) := fun w1 v u g k1 k2 => qmul_c w1 v u x y 80 (by omega) (by omega) (hT.G g) k1 k2 (hqx.mono (by omega)) (hqy.mono (by omega))
  generalize x * y = q at *
  have hUU : ∀ (s : Bool) (V : Nat), V ≤ 2047 * 2 ^ 52 → (FloatKind.f64.format.order (FT.wrd s V) (FT.wrd s V) == some .eq) = true := fun s V h => by rw [ord_wrd s h h]; exact decide_eq_true rfl
  by_cases h0 : q = 0
  · subst h0
    have hF : ∀ m : Int, (m = 1 ∨ m = 2 ∨ m = 3 ∨ m = 4) → ∀ w1 v, QIs w1 v 0 → Calls Tryz.prog 23 #[v, .int .i64 m] w1 fun r w' => r = .returned (.tuple #[.float .f64 (FT.wrd false 0), .int .i64 0]) ∧ G w1 w' := fun m hm w1 v k => float_zero_c w1 v m hm k
    obtain ⟨x1, c1, hq1, hO, hc⟩ := of_any w hT false 0 (by omega)
    have hz : (0 : Rat).num = 0 := rfl
    have hzz : c1 = 0 → (x1.num * (0 : Rat).den - (0 : Rat).num * x1.den).sign = 0 := fun hc0 => by
      rcases hc with h | ⟨-, hv, hx⟩
      · omega
      · have e1 := (fq_v false hv).1
        rw [← hx] at e1
        have k0 : FT.v 0 = 0 := rfl
        rw [k0] at e1
        have k1 : ∀ D : Nat, ((0 : Nat) : Int) * ((0 : Rat).den : Int) = (0 : Rat).num * (D : Int) := fun D => by rw [hz]; simp
        have l1 := cmp_le (q := 0) (Nat.two_pow_pos _) e1 (Int.le_of_eq (k1 _))
        have l2 := cmp_ge (q := 0) (Nat.two_pow_pos _) e1 (Int.le_of_eq (k1 _).symm)
        omega
    refine near_core w a b e x y 0 x1 x1 (FT.wrd false 0) (FT.wrd false 0) (FT.wrd false 0) (FT.wrd false 0) 0 0 (min 0 0) 0 c1 c1 _ _ hT3 hOV hTW hM (hF 2 (by omega)) (hF 3 (by omega)) (hF 1 (by omega)) (hF 4 (by omega)) hO hO
      (fun w1 v u k1 k2 => qcmp_c w1 v u x1 0 80 (by omega) k1 k2 hq1 hqq) (fun w1 v u k1 k2 => qcmp_c w1 v u x1 0 80 (by omega) k1 k2 hq1 hqq) ?_ ?_
      (fun w1 => nextafter_up_c _ w1 (by decide)) (Or.inl (hUU false 0 (by omega))) (hUU false 0 (by omega)) (Or.inl (hUU false 0 (by omega)))
      (fun w1 => abs_c _ w1 (by decide)) (fun w1 => abs_c _ w1 (by decide)) (fun w1 => abs_c _ w1 (by decide)) (fun w1 => min_c 0 0 (by omega) (by omega) w1) (hUU false 0 (by omega))
    · rcases hc with h | ⟨h, -⟩
      · exact Or.inl h
      · exact Or.inr ⟨h, by rw [hzz h]; rfl⟩
    · rcases hc with h | ⟨h, -⟩
      · exact Or.inl h
      · exact Or.inr ⟨h, by rw [hzz h]; rfl⟩
  · have hA : q.num.natAbs ≠ 0 := fun h => h0 (Rat.num_eq_zero.1 (by omega))
    have hF : ∀ m : Int, (m = 1 ∨ m = 2 ∨ m = 3 ∨ m = 4) → ∀ w1 v, QIs w1 v q → Calls Tryz.prog 23 #[v, .int .i64 m] w1 fun r w' => r = .returned (.tuple #[.float .f64 (FT.wrd (decide (q.num < 0)) (rdV m (decide (q.num < 0)) q.num.natAbs q.den)), .int .i64 0]) ∧ G w1 w' := fun m hm w1 v k => float_c w1 v q m 80 (by omega) (by omega) hm k h0 hqq
    have hle : ∀ m, rdV m (decide (q.num < 0)) q.num.natAbs q.den ≤ 2047 * 2 ^ 52 := fun m => rd_le m _ hA q.den_nz
    have hdn := @down_is q h0
    have hup := @up_is q h0
    have hnr := near_is (decide (q.num < 0)) q.num.natAbs q.den
    have hin := in_is (decide (q.num < 0)) q.num.natAbs q.den
    have hnx := @next_is (decide (q.num < 0)) _ _ hA q.den_nz
    generalize decide (q.num < 0) = s at *
    obtain ⟨x1, c1, hq1, hO1, hc1⟩ := of_any w hT s _ (hle 2)
    obtain ⟨x2, c2, hq2, hO2, hc2⟩ := of_any w hT s _ (hle 3)
    have hF2 := hF 2 (by omega)
    have hF3 := hF 3 (by omega)
    have hF1 := hF 1 (by omega)
    have hF4 := hF 4 (by omega)
    have l2 := hle 2
    have l3 := hle 3
    have l1 := hle 1
    have l4 := hle 4
    clear hF hle
    generalize rdV 2 s q.num.natAbs q.den = D at *
    generalize rdV 3 s q.num.natAbs q.den = U at *
    generalize rdV 1 s q.num.natAbs q.den = N at *
    generalize rdV 4 s q.num.natAbs q.den = I at *
    have hab : ∀ V : Nat, V ≤ 2047 * 2 ^ 52 → ∀ w1, Calls Tryz.prog 34 #[.float .f64 (FT.wrd s V)] w1 fun e w' => e = .returned (.float .f64 V) ∧ G w1 w' := fun V h w1 => by
      have k := abs_c (FT.wrd s V) w1 (FT.wrd_lt s V (by omega))
      rw [FT.wrd_rung s V (by omega)] at k
      exact k
    refine near_core w a b e x y q x1 x2 (FT.wrd s D) (FT.wrd s U) (FT.wrd s N) (FT.wrd s I) D U (min D U) I c1 c2 _ _ hT3 hOV hTW hM hF2 hF3 hF1 hF4 hO1 hO2
      (fun w1 v u k1 k2 => qcmp_c w1 v u x1 q 80 (by omega) k1 k2 hq1 hqq) (fun w1 v u k1 k2 => qcmp_c w1 v u x2 q 80 (by omega) k1 k2 hq2 hqq) ?_ ?_
      (fun w1 => nextafter_up_c _ w1 (FT.wrd_lt s D (by omega))) ?_ (hUU s U l3) ?_
      (hab D l2) (hab U l3) (hab I l4) (fun w1 => min_c D U l2 l3 w1) ?_
    · rcases hc1 with h | ⟨h, hv, rfl⟩
      · exact Or.inl h
      · exact Or.inr ⟨h, decide_eq_false (by have := hdn hv; omega)⟩
    · rcases hc2 with h | ⟨h, hv, rfl⟩
      · exact Or.inl h
      · exact Or.inr ⟨h, decide_eq_false (by have := hup hv; omega)⟩
    · rw [ord_wrd s l2 l3]
      by_cases h : D = U
      · exact Or.inl (decide_eq_true h)
      · exact Or.inr ⟨decide_eq_false h, hnx h⟩
    · rw [ord_wrd s l1 l2, ord_wrd s l1 l3]
      by_cases h : N = D
      · exact Or.inl (decide_eq_true h)
      · exact Or.inr ⟨decide_eq_false h, decide_eq_true (by omega)⟩
    · have k := ord_wrd false l4 (show min D U ≤ 2047 * 2 ^ 52 by omega)
      rw [show FT.wrd false I = I from rfl, show FT.wrd false (min D U) = min D U from rfl] at k
      rw [k]
      exact decide_eq_true hin
end Go.Proofs.YtahfkkkfpcdjaabGreatDoor.EN
