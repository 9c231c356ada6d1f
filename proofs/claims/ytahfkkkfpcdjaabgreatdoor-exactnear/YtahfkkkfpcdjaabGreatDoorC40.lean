/- What is proved here: the law on a number's four floats, over this seat's translation. -/
import Derived.Test.YtahfkkkfpcdjaabGreatDoorC39
namespace Go.Proofs.YtahfkkkfpcdjaabGreatDoor.EN
open Go.ChangeShapes Go.WideShapes Go.ChangeAt Go.RowKit

theorem qb_mk {q : Rat} {z : Int} {d K : Nat} (hd : 0 < d) (h : q = mkRat z d) (h1 : z.natAbs < 2 ^ (64 * K)) (h2 : d < 2 ^ (64 * K)) : QB q K := by
  obtain ⟨e1, e2⟩ := frac_low hd h
  refine ⟨?_, ?_⟩
  · rw [e1, Int.natAbs_tdiv, Int.natAbs_natCast]
    exact Nat.lt_of_le_of_lt (Nat.div_le_self _ _) h1
  · rw [e2]
    exact Nat.lt_of_le_of_lt (Nat.div_le_self _ _) h2
theorem qb_frac {a b : Int} (hb : b ≠ 0) (h1 : a.natAbs < 2 ^ (64 * 1)) (h2 : b.natAbs < 2 ^ (64 * 1)) : QB ((a : Rat) / (b : Rat)) 1 :=
  qb_mk (by omega) (frac_rat hb) (by split <;> omega) h2
theorem qb_two {e : Int} (h1 : -5000 ≤ e) (h2 : e ≤ 5000) : QB (mk2 1 e) 79 := by
  obtain ⟨K, hK⟩ : ∃ K : Nat, K = 79 := ⟨_, rfl⟩
  rw [← hK]
  have k : ∀ n : Nat, n ≤ 5000 → 2 ^ n < 2 ^ (64 * K) := fun n h => Nat.pow_lt_pow_right (by omega) (by omega)
  refine qb_mk (Nat.two_pow_pos _) rfl ?_ (k _ (by omega))
  rw [Int.one_mul, Int.natAbs_natCast]
  exact k _ (by omega)
theorem qb_mul {x y : Rat} {K L : Nat} (hx : QB x K) (hy : QB y L) : QB (x * y) (K + L) := by
  refine qb_mk (z := x.num * y.num) (d := x.den * y.den) (Nat.mul_pos x.den_pos y.den_pos) ?_ ?_ (lt_mul_pow hx.2 hy.2)
  · rw [← Rat.mkRat_mul_mkRat, Rat.mkRat_self, Rat.mkRat_self]
  · rw [Int.natAbs_mul]
    exact lt_mul_pow hx.1 hy.1
theorem qb_fq {b : Nat} (h : fex b < 2047) : QB (FQ b) 80 := by
  have hm : fmag b < 2 ^ 53 := by unfold fmag; split <;> omega
  obtain ⟨K, hK⟩ : ∃ K : Nat, K = 80 := ⟨_, rfl⟩
  obtain ⟨M, hM⟩ : ∃ M : Nat, M = 5000 := ⟨_, rfl⟩
  rw [← hK]
  refine qb_mk (frD_pos _) rfl ?_ ?_
  · rw [frN_abs]
    have h1 : 2 ^ (max (fex b) 1 - 1075) ≤ 2 ^ M := Nat.pow_le_pow_right (by omega) (by omega)
    have h2 : 2 ^ 53 * 2 ^ M < 2 ^ (64 * K) := by rw [← Nat.pow_add]; exact Nat.pow_lt_pow_right (by omega) (by omega)
    exact Nat.lt_of_le_of_lt (Nat.mul_le_mul (Nat.le_of_lt hm) h1) h2
  · unfold frD
    exact Nat.pow_lt_pow_right (by omega) (by omega)
theorem qb_zero {K : Nat} (h : 1 ≤ K) : QB 0 K := ⟨Nat.two_pow_pos _, Nat.one_lt_two_pow (by omega)⟩
theorem fex_top (s : Bool) : fex (FT.wrd s (2047 * 2 ^ 52)) = 2047 := by
  unfold fex FT.wrd
  cases s <;> simp only [if_true, Bool.false_eq_true, if_false] <;> omega

/-- What a float of the law is, or no number. -/
theorem of_any (w : World) (hT : Tab w) (s : Bool) (V : Nat) (hV : V ≤ 2047 * 2 ^ 52) : ∃ (x : Rat) (c : Int), QB x 80 ∧ (∀ w1, G w w1 → Calls Tryz.prog 15 #[.float .f64 (FT.wrd s V)] w1 (RetQE w1 x c)) ∧ (c = 4 ∨ (c = 0 ∧ V < 2047 * 2 ^ 52 ∧ x = FQ (FT.wrd s V))) := by
  by_cases h : V < 2047 * 2 ^ 52
  · have hf := (fq_v s h).2
    exact ⟨_, 0, qb_fq hf, fun w1 g => of_c w1 _ (hT.G g) (FT.wrd_lt s V (by omega)) hf, Or.inr ⟨rfl, h, rfl⟩⟩
  · have hV' : V = 2047 * 2 ^ 52 := by omega
    subst hV'
    exact ⟨0, 4, qb_zero (by omega), fun w1 g => of_nan_c w1 _ (FT.wrd_lt s _ (by omega)) (fex_top s), Or.inl rfl⟩

theorem near_far (w : World) (a b e : Int) (x : Rat)
    (hT3 : ∀ w1, G w w1 → Calls Tryz.prog 9 #[] w1 fun e w' => e = .returned (.bool true) ∧ G w1 w')
    (hOV : ∀ w1, G w w1 → Calls Tryz.prog 29 #[.int .i64 a, .int .i64 b] w1 (RetOver w1 x))
    (hTW : ∀ w1, G w w1 → Calls Tryz.prog 30 #[.int .i64 e] w1 (RetQE w1 0 3)) :
    Calls Tryz.prog 5 #[.int .i64 a, .int .i64 b, .int .i64 e] w fun r w' => r = .returned (.bool true) ∧ G w w' := by
  have HT3 : Hid (∀ w1, G w w1 → _) := hT3
  have HOV : Hid (∀ w1, G w w1 → _) := hOV
  have HTW : Hid (∀ w1, G w w1 → _) := hTW
  clear hT3 hOV hTW
  go_enter Tryz.func5, Tryz.ntmps5
  go_wp2_with fail
  refine Calls.mono (P := Tryz.prog) (HT3.out _ (G.refl _)) ?_
  rintro e w1 ⟨rfl, g1⟩
  go_wp2_with fail
  refine Calls.mono (P := Tryz.prog) (HOV.out w1 g1) ?_
  intro e1 w2 hs
  obtain ⟨v, p, rfl, g2, hv, -, -, -⟩ := hs
  obtain ⟨a1, k1, d1, a2, k2, d2, rfl, -, -⟩ := hv
  generalize decide (x.num < 0) = t1 at *
  go_wp2_with fail
  have g3 : G w2 (w2.alloc (.cells #[.bool t1, .slice a1 k1 d1, .slice a2 k2 d2] 28)) := ((G.refl w2).alloc _)
  have R0 : Hid (Rec (w2.alloc (.cells #[.bool t1, .slice a1 k1 d1, .slice a2 k2 d2] 28)) (w2.heap.size) [.bool t1, .slice a1 k1 d1, .slice a2 k2 d2]) := by
    have h := Rec.new3 w2 (.bool t1) (.slice a1 k1 d1) (.slice a2 k2 d2) 28
    exact h
  have hz3 : (w2.alloc (.cells #[.bool t1, .slice a1 k1 d1, .slice a2 k2 d2] 28)).heap.size = w2.heap.size + 1 := by simp
  generalize (w2.alloc (.cells #[.bool t1, .slice a1 k1 d1, .slice a2 k2 d2] 28)) = w3 at *
  have gw3 := G.trans g1 (G.trans g2 g3)
  refine Calls.mono (P := Tryz.prog) (HTW.out w3 gw3) ?_
  intro e1 w4 hs
  obtain ⟨v, rfl, g4, hv⟩ := hs
  obtain ⟨a3, k3, d3, a4, k4, d4, rfl, -, -⟩ := hv
  generalize decide ((0 : Rat).num < 0) = t2 at *
  go_wp2_with fail
  go_ret
  exact ⟨rfl, (G.trans gw3 g4).alloc _⟩

theorem exactNear_c (w : World) (a b e : Int) (hT : Tab w) (h1 : -9223372036854775808 ≤ a) (h2 : a < 9223372036854775808) (h3 : -9223372036854775808 ≤ b) (h4 : b < 9223372036854775808) :
    Calls Tryz.prog 5 #[.int .i64 a, .int .i64 b, .int .i64 e] w fun r w' => r = .returned (.bool true) ∧ G w w' := by
  obtain ⟨bb, hbb⟩ : ∃ bb : Int, bb = if b = 0 then 1 else b := ⟨_, rfl⟩
  have hb0 : bb ≠ 0 := by rw [hbb]; split <;> omega
  have hbl : bb.natAbs < 2 ^ (64 * 1) := by rw [hbb]; split <;> omega
  have hT3 : ∀ w1, G w w1 → Calls Tryz.prog 9 #[] w1 fun e w' => e = .returned (.bool true) ∧ G w1 w' := fun w1 g => third_c w1 (hT.G g)
  have hOV : ∀ w1, G w w1 → Calls Tryz.prog 29 #[.int .i64 a, .int .i64 b] w1 (RetOver w1 ((a : Rat) / (bb : Rat))) := fun w1 g => lawover_c w1 a b bb hbb (hT.G g) h1 h2 h3 h4
  have hqx : QB ((a : Rat) / (bb : Rat)) 1 := qb_frac hb0 (by omega) hbl
  generalize (a : Rat) / (bb : Rat) = x at *
  by_cases he : -5000 ≤ e ∧ e ≤ 5000
  case neg => exact near_far w a b e x hT3 hOV (fun w1 g => two_far_c w1 e (by omega))
  have hTW : ∀ w1, G w w1 → Calls Tryz.prog 30 #[.int .i64 e] w1 (RetQE w1 (mk2 1 e) 0) := fun w1 g => two_c w1 e he.1 he.2
  have hqy := qb_two he.1 he.2
  generalize mk2 1 e = y at *
  have hqq := qb_mul hqx hqy
  have hM : ∀ w1 v u, G w w1 → QIs w1 v x → QIs w1 u y → Calls Tryz.prog 21 #[v, u] w1 (RetQ w1 (x * y)) := fun w1 v u g k1 k2 => qmul_c w1 v u x y 80 (by omega) (by omega) (hT.G g) k1 k2 (hqx.mono (by omega)) (hqy.mono (by omega))
  generalize x * y = q at *
  have hUU : ∀ (s : Bool) (V : Nat), V ≤ 2047 * 2 ^ 52 → (FloatKind.f64.format.order (FT.wrd s V) (FT.wrd s V) == some .eq) = true := fun s V h => by rw [ord_wrd s h h]; exact decide_eq_true rfl
  by_cases h0 : q = 0
  · subst h0
    have hF : ∀ m : Int, (m = 1 ∨ m = 2 ∨ m = 3 ∨ m = 4) → ∀ w1 v, QIs w1 v 0 → Calls Tryz.prog 23 #[v, .int .i64 m] w1 fun r w' => r = .returned (.tuple #[.float .f64 (FT.wrd false 0), .int .i64 0]) ∧ G w1 w' := fun m hm w1 v k => float_zero_c w1 v m hm k
    obtain ⟨x1, c1, hq1, hO, hc⟩ := of_any w hT false 0 (by omega)
    have hz : (0 : Rat).num = 0 := rfl
    have hzz : c1 = 0 → (x1.num * (0 : Rat).den - (0 : Rat).num * x1.den).sign = 0 := fun hc0 => by
      rcases hc with h | ⟨-, hv, hx⟩
      · omega
      · have e1 := (fq_v false hv).1
        rw [← hx] at e1
        have k0 : FT.v 0 = 0 := rfl
        rw [k0] at e1
        have k1 : ∀ D : Nat, ((0 : Nat) : Int) * ((0 : Rat).den : Int) = (0 : Rat).num * (D : Int) := fun D => by rw [hz]; simp
        have l1 := cmp_le (q := 0) (Nat.two_pow_pos _) e1 (Int.le_of_eq (k1 _))
        have l2 := cmp_ge (q := 0) (Nat.two_pow_pos _) e1 (Int.le_of_eq (k1 _).symm)
        omega
    refine near_core w a b e x y 0 x1 x1 (FT.wrd false 0) (FT.wrd false 0) (FT.wrd false 0) (FT.wrd false 0) 0 0 (min 0 0) 0 c1 c1 _ _ hT3 hOV hTW hM (hF 2 (by omega)) (hF 3 (by omega)) (hF 1 (by omega)) (hF 4 (by omega)) hO hO
      (fun w1 v u k1 k2 => qcmp_c w1 v u x1 0 80 (by omega) k1 k2 hq1 hqq) (fun w1 v u k1 k2 => qcmp_c w1 v u x1 0 80 (by omega) k1 k2 hq1 hqq) ?_ ?_
      (fun w1 => nextafter_up_c _ w1 (by decide)) (Or.inl (hUU false 0 (by omega))) (hUU false 0 (by omega)) (Or.inl (hUU false 0 (by omega)))
      (fun w1 => abs_c _ w1 (by decide)) (fun w1 => abs_c _ w1 (by decide)) (fun w1 => abs_c _ w1 (by decide)) (fun w1 => min_c 0 0 (by omega) (by omega) w1) (hUU false 0 (by omega))
    · rcases hc with h | ⟨h, -⟩
      · exact Or.inl h
      · exact Or.inr ⟨h, by rw [hzz h]; rfl⟩
    · rcases hc with h | ⟨h, -⟩
      · exact Or.inl h
      · exact Or.inr ⟨h, by rw [hzz h]; rfl⟩
  · have hA : q.num.natAbs ≠ 0 := fun h => h0 (Rat.num_eq_zero.1 (by omega))
    have hF : ∀ m : Int, (m = 1 ∨ m = 2 ∨ m = 3 ∨ m = 4) → ∀ w1 v, QIs w1 v q → Calls Tryz.prog 23 #[v, .int .i64 m] w1 fun r w' => r = .returned (.tuple #[.float .f64 (FT.wrd (decide (q.num < 0)) (rdV m (decide (q.num < 0)) q.num.natAbs q.den)), .int .i64 0]) ∧ G w1 w' := fun m hm w1 v k => float_c w1 v q m 80 (by omega) (by omega) hm k h0 hqq
    have hle : ∀ m, rdV m (decide (q.num < 0)) q.num.natAbs q.den ≤ 2047 * 2 ^ 52 := fun m => rd_le m _ hA q.den_nz
    have hdn := @down_is q h0
    have hup := @up_is q h0
    have hnr := near_is (decide (q.num < 0)) q.num.natAbs q.den
    have hin := in_is (decide (q.num < 0)) q.num.natAbs q.den
    have hnx := @next_is (decide (q.num < 0)) _ _ hA q.den_nz
    generalize decide (q.num < 0) = s at *
    obtain ⟨x1, c1, hq1, hO1, hc1⟩ := of_any w hT s _ (hle 2)
    obtain ⟨x2, c2, hq2, hO2, hc2⟩ := of_any w hT s _ (hle 3)
    have hF2 := hF 2 (by omega)
    have hF3 := hF 3 (by omega)
    have hF1 := hF 1 (by omega)
    have hF4 := hF 4 (by omega)
    have l2 := hle 2
    have l3 := hle 3
    have l1 := hle 1
    have l4 := hle 4
    clear hF hle
    generalize rdV 2 s q.num.natAbs q.den = D at *
    generalize rdV 3 s q.num.natAbs q.den = U at *
    generalize rdV 1 s q.num.natAbs q.den = N at *
    generalize rdV 4 s q.num.natAbs q.den = I at *
    have hab : ∀ V : Nat, V ≤ 2047 * 2 ^ 52 → ∀ w1, Calls Tryz.prog 34 #[.float .f64 (FT.wrd s V)] w1 fun e w' => e = .returned (.float .f64 V) ∧ G w1 w' := fun V h w1 => by
      have k := abs_c (FT.wrd s V) w1 (FT.wrd_lt s V (by omega))
      rw [FT.wrd_rung s V (by omega)] at k
      exact k
    refine near_core w a b e x y q x1 x2 (FT.wrd s D) (FT.wrd s U) (FT.wrd s N) (FT.wrd s I) D U (min D U) I c1 c2 _ _ hT3 hOV hTW hM hF2 hF3 hF1 hF4 hO1 hO2
      (fun w1 v u k1 k2 => qcmp_c w1 v u x1 q 80 (by omega) k1 k2 hq1 hqq) (fun w1 v u k1 k2 => qcmp_c w1 v u x2 q 80 (by omega) k1 k2 hq2 hqq) ?_ ?_
      (fun w1 => nextafter_up_c _ w1 (FT.wrd_lt s D (by omega))) ?_ (hUU s U l3) ?_
      (hab D l2) (hab U l3) (hab I l4) (fun w1 => min_c D U l2 l3 w1) ?_
    · rcases hc1 with h | ⟨h, hv, rfl⟩
      · exact Or.inl h
      · exact Or.inr ⟨h, decide_eq_false (by have := hdn hv; omega)⟩
    · rcases hc2 with h | ⟨h, hv, rfl⟩
      · exact Or.inl h
      · exact Or.inr ⟨h, decide_eq_false (by have := hup hv; omega)⟩
    · rw [ord_wrd s l2 l3]
      by_cases h : D = U
      · exact Or.inl (decide_eq_true h)
      · exact Or.inr ⟨decide_eq_false h, hnx h⟩
    · rw [ord_wrd s l1 l2, ord_wrd s l1 l3]
      by_cases h : N = D
      · exact Or.inl (decide_eq_true h)
      · exact Or.inr ⟨decide_eq_false h, decide_eq_true (by omega)⟩
    · have k := ord_wrd false l4 (show min D U ≤ 2047 * 2 ^ 52 by omega)
      rw [show FT.wrd false I = I from rfl, show FT.wrd false (min D U) = min D U from rfl] at k
      rw [k]
      exact decide_eq_true hin
end Go.Proofs.YtahfkkkfpcdjaabGreatDoor.EN
