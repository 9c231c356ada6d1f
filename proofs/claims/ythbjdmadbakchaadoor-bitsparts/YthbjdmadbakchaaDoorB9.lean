/- What is proved here: contracts of Frexp and of the reference's kinds and odd parts, over this seat's translation. -/
import Derived.Test.YthbjdmadbakchaaDoorB8
import Derived.Test.YthbjdmadbakchaaDoorF5
namespace Go.Proofs.YthbjdmadbakchaaDoor
open Go.ChangeShapes Go.WideShapes Go.ChangeAt Go.RowKit
attribute [local go_sem] frombits_r tobits_r unary_negf

def kindR (b : Nat) : Int := if FT.nan b then 1 else if FT.rung b = FT.infR then 2 else if FT.rung b = 0 then 3 else if FT.rung b < 2 ^ 52 then 4 else 5

set_option maxRecDepth 100000 in
theorem kindof_c (b : Nat) (w : World) (h : b < 2 ^ 64) :
    Calls Tryd.prog 9 #[.float .f64 b] w fun e w' => e = .returned (.int .i64 (kindR b)) ∧ G w w' := by
  have K1 : Hid _ := fun w => isnan_c b w
  have K2 : Hid _ := fun w => isinf_c b w h
  have K3 : Hid _ := fun w => abs_c b w h
  have e1 := FT.eq_zero b
  have e2 := FT.lt_const b 4503599627370496 (by decide)
  unfold kindR
  generalize FT.nan b = n at *
  generalize FT.rung b = r at *
  have H : decide (r < 4503599627370496) = decide (r < 2 ^ 52) := rfl
  rw [H] at e2
  clear H
  cases n
  · by_cases h1 : r = FT.infR
    · rw [decide_eq_true h1] at K2
      rw [if_neg (by simp), if_pos h1]
      clear h1 e1 e2 K3
      go_enter Tryd.func9, Tryd.ntmps9
      go_wp2_with (first | (go_at_call 31; refine (K1.out _).mono ?_; rintro e wn ⟨rfl, hbn⟩) | (go_at_call 32; refine (K2.out _).mono ?_; rintro e wn ⟨rfl, hbn⟩))
      go_ret
      exact ⟨rfl, (by repeat' (first | exact G.refl _ | assumption | refine G.alloc ?_ _ | refine G.drew ?_ | refine G.drewN ?_ _ | (refine G.trans ?_ (by assumption))))⟩
    · rw [decide_eq_false h1] at K2
      rw [if_neg (by simp), if_neg h1]
      clear h1
      by_cases h2 : r = 0
      · rw [decide_eq_true h2] at e1
        rw [if_pos h2]
        clear h2 e2
        go_enter Tryd.func9, Tryd.ntmps9
        go_wp2_with (first | (go_at_call 31; refine (K1.out _).mono ?_; rintro e wn ⟨rfl, hbn⟩) | (go_at_call 32; refine (K2.out _).mono ?_; rintro e wn ⟨rfl, hbn⟩) | (go_at_call 33; refine (K3.out _).mono ?_; rintro e wn ⟨rfl, hbn⟩))
        go_ret
        exact ⟨rfl, (by repeat' (first | exact G.refl _ | assumption | refine G.alloc ?_ _ | refine G.drew ?_ | refine G.drewN ?_ _ | (refine G.trans ?_ (by assumption))))⟩
      · rw [decide_eq_false h2] at e1
        rw [if_neg h2]
        clear h2
        by_cases h3 : r < 2 ^ 52
        · rw [decide_eq_true h3] at e2
          rw [if_pos h3]
          clear h3
          go_enter Tryd.func9, Tryd.ntmps9
          go_wp2_with (first | (go_at_call 31; refine (K1.out _).mono ?_; rintro e wn ⟨rfl, hbn⟩) | (go_at_call 32; refine (K2.out _).mono ?_; rintro e wn ⟨rfl, hbn⟩) | (go_at_call 33; refine (K3.out _).mono ?_; rintro e wn ⟨rfl, hbn⟩))
          go_ret
          exact ⟨rfl, (by repeat' (first | exact G.refl _ | assumption | refine G.alloc ?_ _ | refine G.drew ?_ | refine G.drewN ?_ _ | (refine G.trans ?_ (by assumption))))⟩
        · rw [decide_eq_false h3] at e2
          rw [if_neg h3]
          clear h3
          go_enter Tryd.func9, Tryd.ntmps9
          go_wp2_with (first | (go_at_call 31; refine (K1.out _).mono ?_; rintro e wn ⟨rfl, hbn⟩) | (go_at_call 32; refine (K2.out _).mono ?_; rintro e wn ⟨rfl, hbn⟩) | (go_at_call 33; refine (K3.out _).mono ?_; rintro e wn ⟨rfl, hbn⟩))
          go_ret
          exact ⟨rfl, (by repeat' (first | exact G.refl _ | assumption | refine G.alloc ?_ _ | refine G.drew ?_ | refine G.drewN ?_ _ | (refine G.trans ?_ (by assumption))))⟩
  · rw [if_pos rfl]
    clear e1 e2 K2 K3
    go_enter Tryd.func9, Tryd.ntmps9
    go_wp2_with (first | (go_at_call 31; refine (K1.out _).mono ?_; rintro e wn ⟨rfl, hbn⟩))
    go_ret
    exact ⟨rfl, (by repeat' (first | exact G.refl _ | assumption | refine G.alloc ?_ _ | refine G.drew ?_ | refine G.drewN ?_ _ | (refine G.trans ?_ (by assumption))))⟩

theorem normalize_nor_c (b : Nat) (w : World) (h : b < 2 ^ 64) (hr : 2 ^ 52 ≤ FT.rung b) :
    Calls Tryd.prog 66 #[.float .f64 b] w fun e w' => e = .returned (.tuple #[.float .f64 b, .int .i64 0]) ∧ G w w' := by
  have K3 : Hid _ := fun w => abs_c b w h
  have e2 := FT.lt_const b 4503599627370496 (by decide)
  rw [decide_eq_false (by omega)] at e2
  generalize FT.rung b = r at *
  clear hr h
  go_enter Tryd.func66, Tryd.ntmps66
  go_wp2_with (first | (go_at_call 33; refine (K3.out _).mono ?_; rintro e wn ⟨rfl, hbn⟩))
  go_ret2
  exact ⟨rfl, (by repeat' (first | exact G.refl _ | assumption | refine G.alloc ?_ _ | refine G.drew ?_ | refine G.drewN ?_ _ | (refine G.trans ?_ (by assumption))))⟩

theorem normalize_sub_c (s : Bool) (f n t : Nat) (w : World) (hf : f < 2 ^ 52) (h0 : f ≠ 0) (hn : n ≤ 52) (ht : t < 2 ^ 52) (e : f * 2 ^ n = 2 ^ 52 + t) :
    Calls Tryd.prog 66 #[.float .f64 (FT.wrd s f)] w fun e w' => e = .returned (.tuple #[.float .f64 (FT.wrd s ((53 - n) * 2 ^ 52 + t)), .int .i64 (-52)]) ∧ G w w' := by
  have K3 : Hid _ := fun w => abs_c (FT.wrd s f) w (FT.wrd_lt s f (by omega))
  have e2 := FT.lt_const (FT.wrd s f) 4503599627370496 (by decide)
  rw [FT.wrd_rung s f (by omega)] at e2 K3
  rw [decide_eq_true (by omega)] at e2
  have hm := fun (w : World) => run_float_arith (P := Tryd.prog) w .mul 22 .f64 _ _ _ (FT.mul52 s f n t hf h0 hn ht e)
  generalize FT.wrd s ((53 - n) * 2 ^ 52 + t) = y at *
  generalize FT.wrd s f = b at *
  clear hf h0 hn ht e
  go_enter Tryd.func66, Tryd.ntmps66
  go_wp2_with (first | (go_at_call 33; refine (K3.out _).mono ?_; rintro e wn ⟨rfl, hbn⟩))
  go_ret2
  exact ⟨rfl, (by repeat' (first | exact G.refl _ | assumption | refine G.alloc ?_ _ | refine G.drew ?_ | refine G.drewN ?_ _ | (refine G.trans ?_ (by assumption))))⟩

theorem ret_ii {a a' b b' : Int} (h1 : a = a') (h2 : b = b') : Ending.returned (.tuple #[.int .i64 a, .int .i64 b]) = .returned (.tuple #[.int .i64 a', .int .i64 b']) := by rw [h1, h2]
theorem ret_fi {a a' : Nat} {b b' : Int} (h1 : a = a') (h2 : b = b') : Ending.returned (.tuple #[.float .f64 a, .int .i64 b]) = .returned (.tuple #[.float .f64 a', .int .i64 b']) := by rw [h1, h2]

set_option maxRecDepth 100000 in
/-- The rest of Frexp behind 'normalize'. -/
theorem frexp_core (b e y z u : Nat) (x : Int) (w : World) (he2 : e < 2048) (hx1 : -60 ≤ x) (hx2 : x ≤ 0)
    (hb : b < 2 ^ 64) (hfin : FT.rung b < FT.infR) (h0 : FT.rung b ≠ 0)
    (L1 : bits BinOp.and IntKind.u64 ((y : Int) / 4503599627370496) 2047 = (e : Int))
    (L2 : bits BinOp.andNot IntKind.u64 (y : Int) 9218868437227405312 = (u : Int))
    (L3 : bits BinOp.or IntKind.u64 (u : Int) 4602678819172646912 = (z : Int))
    (hN : ∀ w, Calls Tryd.prog 66 #[.float .f64 b] w fun r w' => r = .returned (.tuple #[.float .f64 y, .int .i64 x]) ∧ G w w') :
    Calls Tryd.prog 50 #[.float .f64 b] w fun r w' => r = .returned (.tuple #[.float .f64 z, .int .i64 (x + (e - 1022))]) ∧ G w w' := by
  have K1 : Hid _ := fun w => isnan_c b w
  have K2 : Hid _ := fun w => isinf_c b w hb
  have hnan : FT.nan b = false := by unfold FT.nan; simp; omega
  rw [hnan] at K1
  rw [decide_eq_false (by omega)] at K2
  have e1 := FT.eq_zero b
  rw [decide_eq_false h0] at e1
  have K3 : Hid _ := hN
  clear hN h0 hfin hnan hb
  go_enter Tryd.func50, Tryd.ntmps50
  go_wp2_with (first | (go_at_call 31; refine (K1.out _).mono ?_; rintro e wn ⟨rfl, hbn⟩) | (go_at_call 32; refine (K2.out _).mono ?_; rintro e wn ⟨rfl, hbn⟩) | (go_at_call 66; refine (K3.out _).mono ?_; rintro e wn ⟨rfl, hbn⟩))
  go_ret2
  exact ⟨ret_fi rfl (by omega), (by repeat' (first | exact G.refl _ | assumption | refine G.alloc ?_ _ | refine G.drew ?_ | refine G.drewN ?_ _ | (refine G.trans ?_ (by assumption))))⟩

theorem frexp_c (b ex fr mag sh t : Nat) (w : World) (hb : b < 2 ^ 64) (he : b / 2 ^ 52 % 2 ^ 11 = ex) (hf : b % 2 ^ 52 = fr) (h1 : ex < 2047)
    (hm : (if ex = 0 then fr else 2 ^ 52 + fr) = mag) (h0 : mag ≠ 0) (ht : t < 2 ^ 52) (hsh : mag * 2 ^ sh = 2 ^ 52 + t) (hs1 : sh ≤ 52) (hs2 : ex ≠ 0 → sh = 0) :
    Calls Tryd.prog 38 #[.float .f64 b] w fun r w' => r = .returned (.tuple #[.float .f64 (FT.wrd (FT.neg b) (1022 * 2 ^ 52 + t)), .int .i64 ((max ex 1 : Nat) - 1022 - sh)]) ∧ G w w' := by
  have hrf := FT.rung_fields b
  rw [he, hf] at hrf
  have hfr : fr < 2 ^ 52 := by omega
  have hbw : b = FT.wrd (FT.neg b) (FT.rung b) := by
    rcases FT.neg_cases b hb with ⟨a1, a2⟩ | ⟨a1, a2⟩ <;> rw [a1] <;> exact a2
  have key : ∀ w, Calls Tryd.prog 50 #[.float .f64 b] w fun r w' => r = .returned (.tuple #[.float .f64 (FT.wrd (FT.neg b) (1022 * 2 ^ 52 + t)), .int .i64 ((max ex 1 : Nat) - 1022 - sh)]) ∧ G w w' := by
    intro w
    by_cases hz : ex = 0
    · rw [if_pos hz] at hm
      subst hm
      have hr : FT.rung b = fr := by rw [hrf, hz]; omega
      have hN := fun w => normalize_sub_c (FT.neg b) fr sh t w hfr h0 hs1 ht hsh
      rw [← hr, ← hbw] at hN
      have := frexp_core b (53 - sh) _ _ _ (-52) w (by omega) (by omega) (by omega) hb (by rw [hr]; unfold FT.infR; omega) (by rw [hr]; exact h0)
        (FT.exp_field (FT.neg b) (53 - sh) t (by omega) ht) (FT.clear_exp (FT.neg b) (53 - sh) t (by omega) ht) (FT.set_exp (FT.neg b) t ht) hN
      have hx : (-52 : Int) + (((53 - sh : Nat) : Int) - 1022) = (max ex 1 : Nat) - 1022 - sh := by omega
      rw [hx] at this
      exact this
    · rw [if_neg hz] at hm
      have hs0 := hs2 hz
      subst hs0
      have htf : t = fr := by omega
      subst htf
      have hr : FT.rung b = ex * 2 ^ 52 + t := hrf
      have hN := fun w => normalize_nor_c b w hb (by rw [hr]; omega)
      have hbw2 : b = FT.wrd (FT.neg b) (ex * 2 ^ 52 + t) := by rw [← hr]; exact hbw
      have l1 := FT.exp_field (FT.neg b) ex t (by omega) ht
      have l2 := FT.clear_exp (FT.neg b) ex t (by omega) ht
      rw [← hbw2] at l1 l2
      have := frexp_core b ex _ _ _ 0 w (by omega) (by omega) (by omega) hb (by rw [hr]; unfold FT.infR; omega) (by rw [hr]; omega) l1 l2 (FT.set_exp (FT.neg b) t ht) hN
      have hx : (0 : Int) + ((ex : Int) - 1022) = (max ex 1 : Nat) - 1022 - (0 : Nat) := by omega
      rw [hx] at this
      exact this
  have K : Hid _ := key
  clear key hbw hrf he hf hm hb hsh ht h1 hs1 hs2 h0 hfr
  go_enter Tryd.func38, Tryd.ntmps38
  go_wp2_with (first | (go_at_call 50; refine (K.out _).mono ?_; rintro e wn ⟨rfl, hbn⟩))
  go_ret2
  exact ⟨rfl, (by repeat' (first | exact G.refl _ | assumption | refine G.alloc ?_ _ | refine G.drew ?_ | refine G.drewN ?_ _ | (refine G.trans ?_ (by assumption))))⟩

theorem half_even (s q : Int) (d : Nat) : (s * (q * 2 ^ (d + 1))).tmod 2 = 0 ∧ (s * (q * 2 ^ (d + 1))).tdiv 2 = s * (q * 2 ^ d) := by
  have e : s * (q * 2 ^ (d + 1)) = (s * (q * 2 ^ d)) * 2 := by rw [Int.pow_succ, ← Int.mul_assoc, ← Int.mul_assoc, ← Int.mul_assoc]
  rw [e]
  exact ⟨Int.mul_tmod_left _ _, Int.mul_tdiv_cancel _ (by decide)⟩

theorem odd_no (s : Int) (j : Nat) (hs : s = 1 ∨ s = -1) : ((s * ((2 * j + 1) * 2 ^ 0)).tmod 2 == 0) = false := by
  have e : s * ((2 * (j : Int) + 1) * 2 ^ 0) = s * (2 * j + 1) := by simp
  rw [e]
  rw [beq_eq_false_iff_ne]
  intro h
  have h2 := Int.dvd_of_tmod_eq_zero h
  rcases hs with rfl | rfl <;> omega

set_option maxRecDepth 100000 in
theorem odd_core (b z y j D : Nat) (x E s m : Int) (w : World) (e1 : (FloatKind.f64.format.order b 0 == some .eq) = false) (hx1 : -2000 ≤ x) (hx2 : x ≤ 2000)
    (hs : s = 1 ∨ s = -1) (hD : D ≤ 200) (hE : E = x - 53 + D) (hm : m = s * ((2 * j + 1) * 2 ^ D)) (hm1 : -9007199254740992 ≤ m) (hm2 : m ≤ 9007199254740992)
    (hF : ∀ w, Calls Tryd.prog 38 #[.float .f64 b] w fun r w' => r = .returned (.tuple #[.float .f64 z, .int .i64 x]) ∧ G w w')
    (hmul : ∀ w : World, (binOp .mul 22 (.float .f64 z) (.float .f64 4845873199050653696)).run Tryd.prog w = .ok (.float .f64 y) w)
    (hcv : ∀ w : World, (convert 22 3 (.float .f64 y)).run Tryd.prog w = .ok (.int .i64 m) w) :
    Calls Tryd.prog 15 #[.float .f64 b] w fun r w' => r = .returned (.tuple #[.int .i64 (s * (2 * j + 1)), .int .i64 E]) ∧ G w w' := by
  have K : Hid _ := hF
  have HM : Hid _ := hm
  have HE : Hid _ := hE
  clear hF hm hE
  go_enter Tryd.func15, Tryd.ntmps15
  go_wp2_with (first | (go_at_call 38; refine (K.out _).mono ?_; rintro e wn ⟨rfl, hbn⟩))
  go_loop [5, 6] (fun ve vm => ∃ (d : Nat) (m' : Int), d ≤ D ∧ ve = .int .i64 (E - d) ∧ vm = .int .i64 m' ∧ m' = s * ((2 * j + 1) * 2 ^ d) ∧ -9007199254740992 ≤ m' ∧ m' ≤ 9007199254740992) (fun ve _ => (E - intOf ve).toNat)
  case atStart => exact ⟨D, m, Nat.le_refl _, by rw [HE.out]; congr 1; omega, rfl, HM.out, hm1, hm2⟩
  case round =>
    obtain ⟨d, m', hd, rfl, rfl, hm', hb1, hb2⟩ := hrel
    have hEb : -3000 ≤ E ∧ E ≤ 3000 := by have := HE.out; omega
    cases d with
    | zero =>
      have ht := odd_no s j hs
      rw [← hm'] at ht
      have hres : s * (2 * (j : Int) + 1) = m' := by rw [hm']; simp
      have HR : Hid _ := hres
      clear hres hm'
      go_wp2
      go_ret2
      exact ⟨ret_ii HR.out.symm (by simp), (by repeat' (first | exact G.refl _ | assumption | refine G.alloc ?_ _ | refine G.drew ?_ | refine G.drewN ?_ _ | (refine G.trans ?_ (by assumption))))⟩
    | succ d =>
      obtain ⟨t1, t2⟩ := half_even s (2 * j + 1) d
      rw [← hm'] at t1 t2
      have ht : (m'.tmod 2 == 0) = true := by rw [t1]; rfl
      have hq : -9007199254740992 ≤ m'.tdiv 2 ∧ m'.tdiv 2 ≤ 9007199254740992 := by
        have e2 : m' = (m'.tdiv 2) * 2 := by
          rw [t2, hm', Int.pow_succ, ← Int.mul_assoc, ← Int.mul_assoc, ← Int.mul_assoc]
        omega
      have T2 : Hid _ := t2
      clear t1 t2 hm'
      go_wp2
      go_round
      case rel => exact ⟨d, _, by omega, by congr 1; omega, rfl, T2.out, by omega, by omega⟩
      case measure => simp [intOf]; omega

end Go.Proofs.YthbjdmadbakchaaDoor
