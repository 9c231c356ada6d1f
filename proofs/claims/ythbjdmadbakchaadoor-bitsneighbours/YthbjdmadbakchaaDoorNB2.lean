/- What is proved here: the law BitsNeighbours returns true for any two words of 64 bits, in memory in which the library's table lies where it was laid; nothing that was there has turned. -/
import Derived.Test.YthbjdmadbakchaaDoorNB
namespace Go.Proofs.YthbjdmadbakchaaDoor
open Go.ChangeShapes Go.WideShapes Go.ChangeAt Go.RowKit

theorem same_self (a : Nat) : same a a = true := by unfold same; simp
theorem nan_qnan : FT.nan FT.qnan = true := by decide

theorem upV_eq (x : Nat) (hn : FT.nan x = false) : upV x = nextV x := by
  unfold upV nextV
  rw [hn]
  simp

theorem same_up (x : Nat) (h : x < 2 ^ 64) : same (nextV x) (if decide (FT.rung (upV x) = 0) then 9223372036854775808 else upV x) = true := by
  cases hn : FT.nan x
  · rw [upV_eq x hn]
    by_cases h0 : FT.rung (nextV x) = 0
    · rw [decide_eq_true h0, if_pos rfl]
      have hr := FT.nan_false hn
      have hlt := nextV_lt x h
      have : nextV x = 9223372036854775808 := by
        unfold nextV at h0 ⊢
        rw [hn] at h0 ⊢
        rw [if_neg (by simp)] at h0 ⊢
        by_cases h1 : x = FT.infR
        · rw [if_pos h1] at h0
          rw [h1, FT.rung_small (by decide)] at h0
          exact absurd h0 (by decide)
        · rw [if_neg h1] at h0 ⊢
          by_cases h2 : FT.rung x = 0
          · rw [if_pos h2] at h0
            exact absurd h0 (by decide)
          · rw [if_neg h2] at h0 ⊢
            rcases FT.neg_cases x h with ⟨a1, a2⟩ | ⟨a1, a2⟩
            · rw [if_pos a1] at h0 ⊢
              have e : FT.rung (x - 1) = (x - 1) % 2 ^ 63 := rfl
              have hl := FT.rung_lt x
              omega
            · rw [if_neg (by rw [a1]; simp)] at h0
              have e : FT.rung (x + 1) = (x + 1) % 2 ^ 63 := rfl
              unfold FT.infR at hr
              omega
      rw [this]
      exact same_self _
    · rw [decide_eq_false h0, if_neg (by simp)]
      exact same_self _
  · have e1 : nextV x = x := by unfold nextV; rw [hn]; rfl
    have e2 : upV x = FT.qnan := by unfold upV; rw [hn]; rfl
    have e3 : ¬ FT.rung FT.qnan = 0 := by decide
    rw [e1, e2, decide_eq_false e3, if_neg (by simp)]
    unfold same
    rw [hn, nan_qnan]
    simp

theorem negV_nan (x : Nat) (h : x < 2 ^ 64) : FT.nan (negV x) = FT.nan x ∧ FT.rung (negV x) = FT.rung x ∧ FT.neg (negV x) = !FT.neg x := by
  have hl := FT.rung_lt x
  have key : negV x = FT.wrd (!FT.neg x) (FT.rung x) := by
    unfold negV FT.wrd
    rcases FT.neg_cases x h with ⟨a1, a2⟩ | ⟨a1, a2⟩
    · rw [a1]; simp; omega
    · rw [a1]; simp; omega
  rw [key, FT.wrd_rung _ _ hl, FT.wrd_neg _ _ hl]
  refine ⟨?_, rfl, rfl⟩
  unfold FT.nan
  rw [FT.wrd_rung _ _ hl]

theorem nextV_zero {b : Nat} (hn : FT.nan b = false) (h : b ≠ FT.infR) (h0 : FT.rung b = 0) : nextV b = 1 := by
  unfold nextV; rw [hn, if_neg (by simp), if_neg h, if_pos h0]
theorem nextV_neg {b : Nat} (hn : FT.nan b = false) (h : b ≠ FT.infR) (h0 : FT.rung b ≠ 0) (hs : FT.neg b = true) : nextV b = b - 1 := by
  unfold nextV; rw [hn, if_neg (by simp), if_neg h, if_neg h0, if_pos hs]
theorem nextV_pos {b : Nat} (hn : FT.nan b = false) (h : b ≠ FT.infR) (h0 : FT.rung b ≠ 0) (hs : FT.neg b = false) : nextV b = b + 1 := by
  unfold nextV; rw [hn, if_neg (by simp), if_neg h, if_neg h0, if_neg (by rw [hs]; simp)]
theorem nextV_inf : nextV FT.infR = FT.infR := by unfold nextV; rw [FT.nan_inf, if_neg (by simp), if_pos rfl]
theorem downV_zero {b : Nat} (hn : FT.nan b = false) (h : b ≠ FT.ninf) (h0 : FT.rung b = 0) : downV b = 1 + 2 ^ 63 := by
  unfold downV; rw [hn, if_neg (by simp), if_neg h, if_pos h0]
theorem downV_neg {b : Nat} (hn : FT.nan b = false) (h : b ≠ FT.ninf) (h0 : FT.rung b ≠ 0) (hs : FT.neg b = true) : downV b = b + 1 := by
  unfold downV; rw [hn, if_neg (by simp), if_neg h, if_neg h0, if_pos hs]
theorem downV_pos {b : Nat} (hn : FT.nan b = false) (h : b ≠ FT.ninf) (h0 : FT.rung b ≠ 0) (hs : FT.neg b = false) : downV b = b - 1 := by
  unfold downV; rw [hn, if_neg (by simp), if_neg h, if_neg h0, if_neg (by rw [hs]; simp)]
theorem downV_ninf : downV FT.ninf = FT.ninf := by unfold downV; rw [FT.nan_ninf, if_neg (by simp), if_pos rfl]
theorem negV_of {b : Nat} (s : Bool) (r : Nat) (hr : r < 2 ^ 63) (h : b = FT.wrd s r) : negV b = FT.wrd (!s) r := by
  subst h
  unfold negV
  rw [FT.wrd_neg s r hr]
  cases s <;> simp [FT.wrd]

theorem down_eq (x : Nat) (h : x < 2 ^ 64) (hn : FT.nan x = false) : negV (nextV (negV x)) = if FT.rung (downV x) = 0 then 0 else downV x := by
  obtain ⟨m1, m2, m3⟩ := negV_nan x h
  have hl := FT.rung_lt x
  have hr := FT.nan_false hn
  rw [hn] at m1
  have hi : FT.infR = 2047 * 2 ^ 52 := rfl
  have hni : FT.ninf = FT.infR + 2 ^ 63 := rfl
  generalize hm : negV x = m at *
  by_cases h0 : FT.rung x = 0
  · have hx : x ≠ FT.ninf := by intro e; rw [e, FT.rung_ninf, hi] at h0; omega
    have hmi : m ≠ FT.infR := by intro e; rw [e, FT.rung_small (by decide), hi] at m2; omega
    rw [nextV_zero m1 hmi (by rw [m2]; exact h0), downV_zero hn hx h0, negV_of (b := 1) false 1 (by omega) rfl, if_neg (by decide)]
    rfl
  · rcases FT.neg_cases x h with ⟨a1, a2⟩ | ⟨a1, a2⟩
    · rw [a1] at m3
      have em : m = FT.rung x := by rw [← hm, negV_of true (FT.rung x) hl a2]; rfl
      by_cases hx : x = FT.ninf
      · have hrx : FT.rung x = FT.infR := by rw [hx, FT.rung_ninf]
        rw [em, hrx, nextV_inf, hx, downV_ninf, negV_of (b := FT.infR) false FT.infR (by decide) rfl, if_neg (by rw [FT.rung_ninf]; decide)]
        rfl
      · have hmi : m ≠ FT.infR := by omega
        have e : FT.rung (x + 1) = (x + 1) % 2 ^ 63 := rfl
        rw [nextV_pos m1 hmi (by rw [m2]; exact h0) m3, downV_neg hn hx h0 a1, if_neg (by omega), negV_of (b := m + 1) false (m + 1) (by omega) rfl, em]
        show FT.rung x + 1 + 2 ^ 63 = x + 1
        omega
    · rw [a1] at m3
      have em : m = FT.rung x + 2 ^ 63 := by rw [← hm, negV_of false (FT.rung x) hl a2]; rfl
      have hx : x ≠ FT.ninf := by omega
      have hmi : m ≠ FT.infR := by omega
      rw [nextV_neg m1 hmi (by rw [m2]; exact h0) m3, downV_pos hn hx h0 a1, negV_of true (FT.rung x - 1) (by omega) (by show m - 1 = FT.rung x - 1 + 2 ^ 63; omega)]
      show FT.rung x - 1 = _
      have e : FT.rung (x - 1) = (x - 1) % 2 ^ 63 := rfl
      by_cases h4 : x = 1
      · rw [if_pos (by omega)]; omega
      · rw [if_neg (by omega)]; omega

theorem same_down (x : Nat) (h : x < 2 ^ 64) : same (negV (nextV (negV x))) (if decide (FT.rung (downV x) = 0) then 0 else downV x) = true := by
  cases hn : FT.nan x
  · rw [down_eq x h hn]
    by_cases h0 : FT.rung (downV x) = 0
    · rw [decide_eq_true h0, if_pos h0, if_pos rfl]; exact same_self _
    · rw [decide_eq_false h0, if_neg h0, if_neg (by simp)]; exact same_self _
  · obtain ⟨m1, -, -⟩ := negV_nan x h
    have e1 : nextV (negV x) = negV x := by unfold nextV; rw [m1, hn]; rfl
    have e2 : downV x = FT.qnan := by unfold downV; rw [hn]; rfl
    have e3 : ¬ FT.rung FT.qnan = 0 := by decide
    obtain ⟨q1, -, -⟩ := negV_nan (negV x) (negV_lt x h)
    rw [e1, e2, decide_eq_false e3, if_neg (by simp)]
    unfold same
    rw [q1, m1, hn, nan_qnan]
    simp

theorem keyV_lt (x y : Nat) (hx : FT.nan x = false) (hy : FT.nan y = false) :
    (FT.key x < FT.key y → keyV x < keyV y) ∧ (keyV x < keyV y → FT.key x ≤ FT.key y) := by
  unfold keyV FT.key
  rw [hx, hy]
  cases FT.neg x <;> cases FT.neg y <;> simp <;> omega

theorem neighbours_c (x y : Nat) (w : World) (hx : x < 2 ^ 64) (hy : y < 2 ^ 64) (ht : Tab w) :
    Calls Tryd.prog 5 #[.float .f64 x, .float .f64 y] w fun e w' => e = .returned (.bool true) ∧ G w w' := by
  obtain ⟨r, U1, U2⟩ : ∃ r, (∀ w, Calls Tryd.prog 24 #[.float .f64 x] w fun e w' => e = .returned (.float .f64 r) ∧ G w w') ∧ (∀ w, Calls Tryd.prog 25 #[.float .f64 x] w fun e w' => e = .returned (.float .f64 r) ∧ G w w') := by
    have hrf := FT.rung_fields x
    by_cases he : x / 2 ^ 52 % 2 ^ 11 = 2047
    · exact ⟨0, fun w => ulp_inf_c x _ w hx he rfl, fun w => ulpof_inf_c x w hx (by rw [hrf, he]; unfold FT.infR; omega)⟩
    · have hlt : x / 2 ^ 52 % 2 ^ 11 < 2047 := by omega
      exact ⟨_, fun w => ulp_fin_c x _ _ _ w hx rfl rfl hlt rfl, fun w => ulpof_c x _ _ w hx rfl rfl hlt⟩
  have X : AtX x (upV x) (if decide (FT.rung (upV x) = 0) then 9223372036854775808 else upV x) (downV x) (if decide (FT.rung (downV x) = 0) then 0 else downV x) (nextV x) (negV (nextV (negV x))) r r (decide (FT.rung (upV x) = 0)) (decide (FT.rung (downV x) = 0)) (keyV x) :=
    { M := made_c
      I1 := fun w => inf_c 1 w (by omega)
      I2 := fun w => inf_neg_c (-1) w (by omega)
      A1 := fun w => nextafter_up_c x w hx
      A2 := fun w => nextafter_down_c x w hx
      E1 := FT.eq_zero _
      E2 := FT.eq_zero _
      CS := fun w => by
        have := copysign_c 0 13830554455654793216 w (by decide) (by decide)
        rw [show FT.neg 13830554455654793216 = true from by decide, show FT.rung 0 = 0 from by decide] at this
        exact this
      N1 := fun w => next_c x w hx
      B1 := fun w => by have := bits_c (nextV x) (if decide (FT.rung (upV x) = 0) then 9223372036854775808 else upV x) w; rw [same_up x hx] at this; exact this
      P1 := fun w => prev_c x w hx
      B2 := fun w => by have := bits_c (negV (nextV (negV x))) (if decide (FT.rung (downV x) = 0) then 0 else downV x) w; rw [same_down x hx] at this; exact this
      U1 := U1
      U2 := U2
      B3 := fun w => by have := bits_c r r w; rw [same_self] at this; exact this
      K1 := fun w => key_c x w hx
      K2 := fun w => keyof_c x w hx }
  have KY := fun w => key_c y w hy
  have o1 := FT.eq_self x
  have o2 := FT.eq_self y
  have o3 := FT.ord_f x y
  have key : ∀ (U U' D D' N P : Nat) (c1 c2 : Bool), AtX x U U' D D' N P r r c1 c2 (keyV x) → (U' = if c1 then 9223372036854775808 else U) → (D' = if c2 then 0 else D) →
      Calls Tryd.prog 5 #[.float .f64 x, .float .f64 y] w fun e w' => e = .returned (.bool true) ∧ G w w' := by
    intro U U' D D' N P c1 c2 X hU hD
    subst hU hD
    cases hnx : FT.nan x
    · rw [hnx] at o1
      cases hny : FT.nan y
      · rw [hny] at o2
        rw [hnx, hny] at o3
        simp only [Bool.or_self, Bool.false_eq_true, if_false] at o3
        obtain ⟨k1, k2⟩ := keyV_lt x y hnx hny
        by_cases hk : keyV x < keyV y
        · have hle := k2 hk
          have o4 : (FloatKind.f64.format.order x y != some .eq) = (FloatKind.f64.format.order x y == some .lt) := by
            rw [o3]
            rcases Int.lt_or_eq_of_le hle with h1 | h1
            · rw [FT.cmp_lt h1]; rfl
            · rw [h1]; simp
          cases c1 <;> cases c2
          · exact neigh_ff_lt x y U D N P r r _ w X _ _ o1 o2 KY hk rfl o4 ht
          · exact neigh_ft_lt x y U D N P r r _ w X _ _ o1 o2 KY hk rfl o4 ht
          · exact neigh_tf_lt x y U D N P r r _ w X _ _ o1 o2 KY hk rfl o4 ht
          · exact neigh_tt_lt x y U D N P r r _ w X _ _ o1 o2 KY hk rfl o4 ht
        · have o4 : (FloatKind.f64.format.order x y == some .lt) = false := by
            rw [o3, FT.some_beq]
            exact decide_eq_false (FT.cmp_ne_lt (fun h => hk (k1 h)))
          cases c1 <;> cases c2
          · exact neigh_ff_ge x y U D N P r r _ w X _ o1 o2 KY hk o4 ht
          · exact neigh_ft_ge x y U D N P r r _ w X _ o1 o2 KY hk o4 ht
          · exact neigh_tf_ge x y U D N P r r _ w X _ o1 o2 KY hk o4 ht
          · exact neigh_tt_ge x y U D N P r r _ w X _ o1 o2 KY hk o4 ht
      · rw [hny] at o2
        cases c1 <;> cases c2
        · exact neigh_ff_nany x y U D N P r r _ w X o1 o2 ht
        · exact neigh_ft_nany x y U D N P r r _ w X o1 o2 ht
        · exact neigh_tf_nany x y U D N P r r _ w X o1 o2 ht
        · exact neigh_tt_nany x y U D N P r r _ w X o1 o2 ht
    · rw [hnx] at o1
      cases c1 <;> cases c2
      · exact neigh_ff_nan x y U D N P r r _ w X o1 ht
      · exact neigh_ft_nan x y U D N P r r _ w X o1 ht
      · exact neigh_tf_nan x y U D N P r r _ w X o1 ht
      · exact neigh_tt_nan x y U D N P r r _ w X o1 ht
  exact key _ _ _ _ _ _ _ _ X rfl rfl

end Go.Proofs.YthbjdmadbakchaaDoor
