/- What is proved here: contracts of package bits, Split to Join, over this seat's translation. -/
import Derived.Test.YthbjdmadbakchaaDoorB
namespace Go.Proofs.YthbjdmadbakchaaDoor
open Go.ChangeShapes Go.WideShapes Go.ChangeAt Go.RowKit

attribute [local go_sem] frombits_r tobits_r

theorem ret_tup3 {a a' : Bool} {b b' c c' : Int} (h1 : a = a') (h2 : b = b') (h3 : c = c') :
    Ending.returned (.tuple #[.bool a, .int .i64 b, .int .u64 c]) = .returned (.tuple #[.bool a', .int .i64 b', .int .u64 c']) := by rw [h1, h2, h3]

set_option maxRecDepth 100000 in
theorem fields_c (b E F : Nat) (w : World) (h0 : b < 2 ^ 64) (h1 : E ≤ 11) (h2 : F ≤ 52) (h3 : 1 ≤ F) :
    Calls Tryd.prog 28 #[.int .u64 b, .agg #[.int .i64 E, .int .i64 F]] w fun e w' => 
      e = .returned (.tuple #[.bool (b / 2 ^ (E + F) % 2 == 1), .int .i64 (b / 2 ^ F % 2 ^ E : Nat), .int .u64 (b % 2 ^ F : Nat)]) ∧ G w w' := by
  have hp := pow_bd h1
  have hq := pow_bd h2
  have hdiv : b / 2 ^ F < 2 ^ 63 := by
    have : 2 ^ 1 ≤ 2 ^ F := pow_le h3
    rw [Nat.div_lt_iff_lt_mul (by omega)]
    calc b < 2 ^ 64 := h0
      _ = 2 ^ 63 * 2 ^ 1 := by rfl
      _ ≤ 2 ^ 63 * 2 ^ F := Nat.mul_le_mul_left _ this
  have f1 := FT.and_mask b F h0 (by omega)
  have f2 := FT.and_mask_i64 (b / 2 ^ F) E hdiv (by omega)
  have f3 := FT.and_bit b (E + F) h0 (by omega)
  have f4 : wrap64 ((b : Int) / 2 ^ F) = ((b / 2 ^ F : Nat) : Int) := by
    rw [FT.ipow, ← Int.natCast_ediv]
    generalize b / 2 ^ F = q at *
    rw [IntWalk.wrap64_in _ (by omega)]
  have F1 : Hid _ := f1; have F2 : Hid _ := f2; have F3 : Hid _ := f3; have F4 : Hid _ := f4
  clear f1 f2 f3 f4
  go_enter Tryd.func28, Tryd.ntmps28
  go_wp2_with fail
  refine (leading_c E F _ (by omega)).mono ?_
  rintro e w1 ⟨rfl, hb1⟩
  have hc0 := hb1.cell (p := ⟨w.heap.size, 0, none⟩) (v := .int .i64 E) (by simp) (by simp [go_sem])
  have hc1 := hb1.cell (p := ⟨w.heap.size, 1, none⟩) (v := .int .i64 F) (by simp) (by simp [go_sem])
  have hz1 : w.heap.size + 1 ≤ w1.heap.size := by simpa using hb1.size
  go_wp2_with fail
  go_region_with (go_at_call 30; refine (greatest_c E F _ h1).mono ?_; rintro e w2 ⟨rfl, hb2⟩; have hd1 := hb2.cell (p := ⟨w.heap.size, 1, none⟩) (v := .int .i64 F) (by simp; omega) (by simpa using hc1); have hd0 := hb2.cell (p := ⟨w.heap.size, 0, none⟩) (v := .int .i64 E) (by simp; omega) (by simpa using hc0))
  all_goals
    clear hc0 hc1
    go_wp2_with fail
    refine (sign_c E F _ (by omega)).mono ?_
    rintro e w3 ⟨rfl, hb3⟩
    go_wp2
    go_ret3
    exact ⟨ret_tup3 F3.out (by rw [F4.out]; exact F2.out) F1.out, G.trans (G.trans (G.trans ((G.refl _).alloc _) hb1).drew hb2) hb3⟩

set_option maxRecDepth 100000 in
theorem signed_c (neg : Bool) (b : Nat) (w : World) (h : b < 2 ^ 63) :
    Calls Tryd.prog 35 #[.bool neg, .int .u64 b] w fun e w' => e = .returned (.float .f64 (if neg then b + 2 ^ 63 else b)) ∧ G w w' := by
  have F1 : Hid _ := FT.or_sign b h
  cases neg
  · go_enter Tryd.func35, Tryd.ntmps35
    go_wp2
    go_ret
    exact ⟨by simp, G.refl _⟩
  · go_enter Tryd.func35, Tryd.ntmps35
    go_wp2_with fail
    refine (double_c _).mono ?_
    rintro e w1 ⟨rfl, hb1⟩
    go_wp2_with fail
    refine (sign_c 11 52 _ (by omega)).mono ?_
    rintro e w2 ⟨rfl, hb2⟩
    go_wp2
    go_ret
    exact ⟨by rw [F1.out]; rfl, G.trans hb1 hb2⟩

set_option maxRecDepth 100000 in
theorem scaled_c (exp frac E F : Nat) (w : World) (h0 : frac < 2 ^ F) (h1 : 1 ≤ E) (h2 : E ≤ 11) (h3 : F ≤ 52) (h4 : exp < 2 ^ 11) :
    Calls Tryd.prog 36 #[.int .i64 exp, .int .u64 frac, .agg #[.int .i64 E, .int .i64 F]] w fun e w' =>
      e = .returned (.tuple #[.int .u64 ((if exp = 0 then frac else 2 ^ F + frac : Nat) : Int), .int .i64 ((max exp 1 : Nat) - (2 ^ (E - 1) - 1) - F)]) ∧ G w w' := by
  have hp := pow_bd (show E - 1 ≤ 11 by omega)
  have hq := pow_bd h3
  have hor : bits .or .u64 (frac : Int) (2 ^ F) = ((2 ^ F + frac : Nat) : Int) := by
    have hq' := pow_le h3
    rw [FT.ipow, u64_or_nat frac _ (by omega) (by omega), Nat.or_comm, nat_join F (2 ^ F) frac (by simp) h0]
  have F1 : Hid _ := hor
  clear hor
  by_cases hz : exp = 0
  · subst hz
    go_enter Tryd.func36, Tryd.ntmps36
    go_wp2_with fail
    refine region_gw (by kernel_rfl) (by kernel_rfl) ?_
    intro W hW
    have hq1 := gw_cell (w := W) (a := ⟨w.heap.size, 0, none⟩) (x := .int .i64 E) (by rw [hW]; first | (simp; done) | (simp; omega) | omega) (by rw [hW]; first | assumption | (simp [go_sem]; done) | (simp [*, go_sem]; done))
    have hq2 := gw_cell (w := W) (a := ⟨w.heap.size, 1, none⟩) (x := .int .i64 F) (by rw [hW]; first | (simp; done) | (simp; omega) | omega) (by rw [hW]; first | assumption | (simp [go_sem]; done) | (simp [*, go_sem]; done))
    clear hW
    repeat (go_big_quiet_step ((go_at_call 46; exact quiet_gw (less_c E F _ h1 h2))))
    refine wpQuiet_nil ?_
    clear hq1 hq2
    intro w1 hw1
    go_wp2
    go_ret2
    exact ⟨by simp, G.trans ((G.refl _).alloc _) hw1⟩
  · have hz' : ((exp : Int) == 0) = false := by simp; omega
    have hne : ((exp : Int) != 0) = true := by simp; omega
    have hm : max exp 1 = exp := by omega
    rw [hm]
    clear hm
    go_enter Tryd.func36, Tryd.ntmps36
    go_wp2_with fail
    refine (leading_c E F _ (by omega)).mono ?_
    rintro e w1 ⟨rfl, hb1⟩
    have hc5 := hb1.cell (p := ⟨w.heap.size, 0, none⟩) (v := .int .i64 E) (by first | (simp; done) | (simp; omega) | omega) (by first | assumption | (simp [go_sem]; done) | (simp [*, go_sem]; done))
    have hc6 := hb1.cell (p := ⟨w.heap.size, 1, none⟩) (v := .int .i64 F) (by first | (simp; done) | (simp; omega) | omega) (by first | assumption | (simp [go_sem]; done) | (simp [*, go_sem]; done))
    have zhb1 := hb1.size
    try simp at zhb1
    go_wp2_with fail
    refine region_gw (by kernel_rfl) (by kernel_rfl) ?_
    intro W hW
    have hq3 := gw_cell (w := W) (a := ⟨w.heap.size, 0, none⟩) (x := .int .i64 E) (by rw [hW]; first | (simp; done) | (simp; omega) | omega) (by rw [hW]; first | assumption | (simp [go_sem]; done) | (simp [*, go_sem]; done))
    have hq4 := gw_cell (w := W) (a := ⟨w.heap.size, 1, none⟩) (x := .int .i64 F) (by rw [hW]; first | (simp; done) | (simp; omega) | omega) (by rw [hW]; first | assumption | (simp [go_sem]; done) | (simp [*, go_sem]; done))
    clear hW
    repeat (go_big_quiet_step ((go_at_call 46; exact quiet_gw (less_c E F _ h1 h2))))
    refine wpQuiet_nil ?_
    clear hq3 hq4
    intro w2 hw2
    go_wp2
    go_ret2
    exact ⟨by simp [F1.out], G.trans (G.trans ((G.refl _).alloc _) hb1) hw2⟩

/-- The two fields of a word. -/
theorem split_c (b ex fr : Nat) (w : World) (h0 : b < 2 ^ 64) (he : b / 2 ^ 52 % 2 ^ 11 = ex) (hf : b % 2 ^ 52 = fr) :
    Calls Tryd.prog 7 #[.float .f64 b] w fun e w' => e = .returned (.tuple #[.bool (FT.neg b), .int .i64 ex, .int .u64 fr]) ∧ G w w' := by
  have key : ∀ w, Calls Tryd.prog 28 #[.int .u64 b, .agg #[.int .i64 11, .int .i64 52]] w fun e w' => e = .returned (.tuple #[.bool (FT.neg b), .int .i64 ex, .int .u64 fr]) ∧ G w w' := by
    intro w
    have := fields_c b 11 52 w h0 (by omega) (by omega) (by omega)
    rw [he, hf] at this
    exact this
  clear he hf
  have K : Hid _ := key
  clear key
  go_enter Tryd.func7, Tryd.ntmps7
  go_wp2_with fail
  refine (double_c _).mono ?_
  rintro e w1 ⟨rfl, hb1⟩
  have zhb1 := hb1.size
  try simp at zhb1
  go_wp2_with fail
  refine (K.out _).mono ?_
  rintro e w2 ⟨rfl, hb2⟩
  have zhb2 := hb2.size
  try simp at zhb2
  go_wp2
  go_ret3
  exact ⟨rfl, G.trans hb1 hb2⟩

def kindV (ex fr : Nat) : Int := if ex = 2047 then (if fr = 0 then 2 else 1) else if ex = 0 then (if fr = 0 then 3 else 4) else 5

set_option maxRecDepth 100000 in
theorem kind_c (b ex fr : Nat) (w : World) (h0 : b < 2 ^ 64) (he : b / 2 ^ 52 % 2 ^ 11 = ex) (hf : b % 2 ^ 52 = fr) :
    Calls Tryd.prog 8 #[.float .f64 b] w fun e w' => e = .returned (.int .i64 (kindV ex fr)) ∧ G w w' := by
  have key := fun w => split_c b ex fr w h0 he hf
  have hex : ex < 2048 := by omega
  clear he hf
  have K : Hid _ := key
  clear key
  have hB : ∀ {a b : Int}, a ≠ b → (a == b) = false := fun h => by simpa using h
  have hN : ∀ {a b : Int}, a ≠ b → (a != b) = true := fun h => by simpa using h
  have H1 : Hid _ := @hB; have H2 : Hid _ := @hN
  clear hB hN
  by_cases h1 : ex = 2047 <;> by_cases h2 : fr = 0 <;> by_cases h3 : ex = 0 <;>
    first
    | (exfalso; omega)
    | (have t1 := fun h => H1.out (a := (ex : Int)) (b := 2047) h
       have t2 := fun h => H2.out (a := (fr : Int)) (b := 0) h
       have t3 := fun h => H2.out (a := (ex : Int)) (b := 0) h
       try (have t1' := t1 (by omega))
       try (have t2' := t2 (by omega))
       try (have t3' := t3 (by omega))
       clear t1 t2 t3
       try subst h1
       try subst h2
       try subst h3
       go_enter Tryd.func8, Tryd.ntmps8
       go_wp2_with (first | (go_at_call 7; refine (K.out _).mono ?_; rintro e wn ⟨rfl, hbn⟩) | (go_at_call 29; refine (double_c _).mono ?_; rintro e wn ⟨rfl, hbn⟩) | (go_at_call 30; refine (greatest_c 11 52 _ (by omega)).mono ?_; rintro e wn ⟨rfl, hbn⟩))
       go_ret
       exact ⟨ret_int (by simp [kindV, *]), (by repeat' (first | exact G.refl _ | assumption | refine G.alloc ?_ _ | refine G.drew ?_ | refine G.drewN ?_ _ | (refine G.trans ?_ (by assumption))))⟩)

end Go.Proofs.YthbjdmadbakchaaDoor
