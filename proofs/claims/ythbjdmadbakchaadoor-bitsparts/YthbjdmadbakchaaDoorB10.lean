/- What is proved here: contracts of Ldexp, of the reference's odd parts and units, and of Ulp, over this seat's translation. -/
import Derived.Test.YthbjdmadbakchaaDoorB9
import Derived.Test.YthbjdmadbakchaaDoorF6
namespace Go.Proofs.YthbjdmadbakchaaDoor
open Go.ChangeShapes Go.WideShapes Go.ChangeAt Go.RowKit
attribute [local go_sem] frombits_r tobits_r unary_negf

set_option maxRecDepth 100000 in
theorem ldexp_mid_core (b e u z r : Nat) (n : Int) (w : World) (he : e < 2048) (hn1 : -6000 ≤ n) (hn2 : n ≤ 6000)
    (hb : b < 2 ^ 64) (hfin : FT.rung b < FT.infR) (hnor : 2 ^ 52 ≤ FT.rung b)
    (hx1 : -1022 ≤ n + ((e : Int) - 1023)) (hx2 : n + ((e : Int) - 1023) ≤ 1023)
    (L1 : bits BinOp.and IntKind.i64 ((b : Int) / 4503599627370496) 2047 = (e : Int))
    (L2 : bits BinOp.andNot IntKind.u64 (b : Int) 9218868437227405312 = (u : Int))
    (L3 : bits BinOp.or IntKind.u64 (u : Int) ((n + ((e : Int) - 1023) + 1023) * 4503599627370496) = (z : Int))
    (hmul : ∀ w : World, (binOp .mul 22 (.float .f64 4607182418800017408) (.float .f64 z)).run Tryd.prog w = .ok (.float .f64 r) w) :
    Calls Tryd.prog 65 #[.float .f64 b, .int .i64 n] w fun o w' => o = .returned (.float .f64 r) ∧ G w w' := by
  have K1 : Hid _ := fun w => isnan_c b w
  have K2 : Hid _ := fun w => isinf_c b w hb
  have K3 : Hid _ := fun w => normalize_nor_c b w hb hnor
  have hnan : FT.nan b = false := by unfold FT.nan; simp; omega
  rw [hnan] at K1
  rw [decide_eq_false (by omega)] at K2
  have e1 := FT.eq_zero b
  rw [decide_eq_false (by omega)] at e1
  have hw : wrap64 ((b : Int) / 4503599627370496) = (b : Int) / 4503599627370496 := IntWalk.wrap64_in _ (by omega)
  clear hfin hnan hb hnor
  go_enter Tryd.func65, Tryd.ntmps65
  go_wp2_with fail
  refine (K2.out _).mono ?_
  rintro e w1 ⟨rfl, hb1⟩
  have zhb1 := hb1.size
  try simp at zhb1
  go_wp2_with fail
  refine (K1.out _).mono ?_
  rintro e w2 ⟨rfl, hb2⟩
  have zhb2 := hb2.size
  try simp at zhb2
  go_wp2_with fail
  refine (K3.out _).mono ?_
  rintro e w3 ⟨rfl, hb3⟩
  have zhb3 := hb3.size
  try simp at zhb3
  go_wp2
  go_ret
  exact ⟨rfl, (by repeat' (first | exact G.refl _ | assumption | refine G.alloc ?_ _ | refine G.drew ?_ | refine G.drewN ?_ _ | (refine G.trans ?_ (by assumption))))⟩

set_option maxRecDepth 100000 in
theorem ldexp_den_core (b e u z r : Nat) (n : Int) (w : World) (he : e < 2048) (hn1 : -6000 ≤ n) (hn2 : n ≤ 6000)
    (hb : b < 2 ^ 64) (hfin : FT.rung b < FT.infR) (hnor : 2 ^ 52 ≤ FT.rung b)
    (hx1 : -1075 ≤ n + ((e : Int) - 1023)) (hx2 : n + ((e : Int) - 1023) < -1022)
    (L1 : bits BinOp.and IntKind.i64 ((b : Int) / 4503599627370496) 2047 = (e : Int))
    (L2 : bits BinOp.andNot IntKind.u64 (b : Int) 9218868437227405312 = (u : Int))
    (L3 : bits BinOp.or IntKind.u64 (u : Int) ((n + ((e : Int) - 1023) + 53 + 1023) * 4503599627370496) = (z : Int))
    (hmul : ∀ w : World, (binOp .mul 22 (.float .f64 4368491638549381120) (.float .f64 z)).run Tryd.prog w = .ok (.float .f64 r) w) :
    Calls Tryd.prog 65 #[.float .f64 b, .int .i64 n] w fun o w' => o = .returned (.float .f64 r) ∧ G w w' := by
  have K1 : Hid _ := fun w => isnan_c b w
  have K2 : Hid _ := fun w => isinf_c b w hb
  have K3 : Hid _ := fun w => normalize_nor_c b w hb hnor
  have hnan : FT.nan b = false := by unfold FT.nan; simp; omega
  rw [hnan] at K1
  rw [decide_eq_false (by omega)] at K2
  have e1 := FT.eq_zero b
  rw [decide_eq_false (by omega)] at e1
  have hw : wrap64 ((b : Int) / 4503599627370496) = (b : Int) / 4503599627370496 := IntWalk.wrap64_in _ (by omega)
  clear hfin hnan hb hnor
  go_enter Tryd.func65, Tryd.ntmps65
  go_wp2_with fail
  refine (K2.out _).mono ?_
  rintro e w1 ⟨rfl, hb1⟩
  have zhb1 := hb1.size
  try simp at zhb1
  go_wp2_with fail
  refine (K1.out _).mono ?_
  rintro e w2 ⟨rfl, hb2⟩
  have zhb2 := hb2.size
  try simp at zhb2
  go_wp2_with fail
  refine (K3.out _).mono ?_
  rintro e w3 ⟨rfl, hb3⟩
  have zhb3 := hb3.size
  try simp at zhb3
  go_wp2
  go_ret
  exact ⟨rfl, (by repeat' (first | exact G.refl _ | assumption | refine G.alloc ?_ _ | refine G.drew ?_ | refine G.drewN ?_ _ | (refine G.trans ?_ (by assumption))))⟩

set_option maxRecDepth 100000 in
theorem ldexp_big_core (b e : Nat) (n : Int) (w : World) (he : e < 2048) (hn1 : -6000 ≤ n) (hn2 : n ≤ 6000)
    (hb : b < 2 ^ 64) (hfin : FT.rung b < FT.infR) (hnor : 2 ^ 52 ≤ FT.rung b)
    (hx1 : 1023 < n + ((e : Int) - 1023))
    (L1 : bits BinOp.and IntKind.i64 ((b : Int) / 4503599627370496) 2047 = (e : Int)) :
    Calls Tryd.prog 65 #[.float .f64 b, .int .i64 n] w fun o w' => o = .returned (.float .f64 (FT.wrd (FT.neg b) FT.infR)) ∧ G w w' := by
  have K1 : Hid _ := fun w => isnan_c b w
  have K2 : Hid _ := fun w => isinf_c b w hb
  have K3 : Hid _ := fun w => normalize_nor_c b w hb hnor
  have hnan : FT.nan b = false := by unfold FT.nan; simp; omega
  rw [hnan] at K1
  rw [decide_eq_false (by omega)] at K2
  have e1 := FT.eq_zero b
  rw [decide_eq_false (by omega)] at e1
  have e2 := FT.lt_zero b hnan
  rw [decide_eq_true (by omega), Bool.and_true] at e2
  have hw : wrap64 ((b : Int) / 4503599627370496) = (b : Int) / 4503599627370496 := IntWalk.wrap64_in _ (by omega)
  clear hfin hnan hb hnor
  cases hs : FT.neg b
  · rw [hs] at e2
    have hv : FT.wrd false FT.infR = FT.infR := rfl
    rw [hv]
    clear hs hv
    go_enter Tryd.func65, Tryd.ntmps65
    go_wp2_with fail
    refine (K2.out _).mono ?_
    rintro e w1 ⟨rfl, hb1⟩
    have zhb1 := hb1.size
    try simp at zhb1
    go_wp2_with fail
    refine (K1.out _).mono ?_
    rintro e w2 ⟨rfl, hb2⟩
    have zhb2 := hb2.size
    try simp at zhb2
    go_wp2_with fail
    refine (K3.out _).mono ?_
    rintro e w3 ⟨rfl, hb3⟩
    have zhb3 := hb3.size
    try simp at zhb3
    go_wp2_with fail
    refine (inf_c 1 _ (by omega)).mono ?_
    rintro e w4 ⟨rfl, hb4⟩
    have zhb4 := hb4.size
    try simp at zhb4
    go_wp2
    go_ret
    exact ⟨rfl, (by repeat' (first | exact G.refl _ | assumption | refine G.alloc ?_ _ | refine G.drew ?_ | refine G.drewN ?_ _ | (refine G.trans ?_ (by assumption))))⟩
  · rw [hs] at e2
    have hv : FT.wrd true FT.infR = FT.infR + 2 ^ 63 := rfl
    rw [hv]
    clear hs hv
    go_enter Tryd.func65, Tryd.ntmps65
    go_wp2_with fail
    refine (K2.out _).mono ?_
    rintro e w1 ⟨rfl, hb1⟩
    have zhb1 := hb1.size
    try simp at zhb1
    go_wp2_with fail
    refine (K1.out _).mono ?_
    rintro e w2 ⟨rfl, hb2⟩
    have zhb2 := hb2.size
    try simp at zhb2
    go_wp2_with fail
    refine (K3.out _).mono ?_
    rintro e w3 ⟨rfl, hb3⟩
    have zhb3 := hb3.size
    try simp at zhb3
    go_wp2_with fail
    refine (inf_neg_c (-1) _ (by omega)).mono ?_
    rintro e w4 ⟨rfl, hb4⟩
    have zhb4 := hb4.size
    try simp at zhb4
    go_wp2
    go_ret
    exact ⟨rfl, (by repeat' (first | exact G.refl _ | assumption | refine G.alloc ?_ _ | refine G.drew ?_ | refine G.drewN ?_ _ | (refine G.trans ?_ (by assumption))))⟩

theorem wrd_nor_bd (s : Bool) (e t : Nat) (h1 : 1 ≤ e) (h2 : e < 2047) (ht : t < 2 ^ 52) :
    FT.wrd s (e * 2 ^ 52 + t) < 2 ^ 64 ∧ FT.rung (FT.wrd s (e * 2 ^ 52 + t)) < FT.infR ∧ 2 ^ 52 ≤ FT.rung (FT.wrd s (e * 2 ^ 52 + t)) := by
  rw [FT.wrd_rung s _ (by omega)]
  exact ⟨FT.wrd_lt s _ (by omega), by unfold FT.infR; omega, by omega⟩

theorem ldexp_of_core (f n : Value) (w : World) (R : Value)
    (h : ∀ w, Calls Tryd.prog 65 #[f, n] w fun o w' => o = .returned R ∧ G w w') :
    Calls Tryd.prog 47 #[f, n] w fun o w' => o = .returned R ∧ G w w' := by
  have K : Hid _ := h
  clear h
  go_enter Tryd.func47, Tryd.ntmps47
  go_wp2_with (first | (go_at_call 65; refine (K.out _).mono ?_; rintro e wn ⟨rfl, hbn⟩))
  go_ret
  exact ⟨rfl, (by repeat' (first | exact G.refl _ | assumption | refine G.alloc ?_ _ | refine G.drew ?_ | refine G.drewN ?_ _ | (refine G.trans ?_ (by assumption))))⟩

/-- Ldexp of a normal number: within the normal range. -/
theorem ldexp_mid_c (s : Bool) (e t : Nat) (n : Int) (w : World) (h1 : 1 ≤ e) (h2 : e < 2047) (ht : t < 2 ^ 52) (hn1 : -6000 ≤ n) (hn2 : n ≤ 6000)
    (hx1 : 1 ≤ n + e) (hx2 : n + e ≤ 2046) :
    Calls Tryd.prog 47 #[.float .f64 (FT.wrd s (e * 2 ^ 52 + t)), .int .i64 n] w fun o w' => o = .returned (.float .f64 (FT.wrd s ((n + e).toNat * 2 ^ 52 + t))) ∧ G w w' := by
  obtain ⟨b1, b2, b3⟩ := wrd_nor_bd s e t h1 h2 ht
  refine ldexp_of_core _ _ w _ (fun w => ?_)
  have l3 := FT.put_exp s (n + e).toNat t (by omega) ht
  rw [show (((n + (e : Int)).toNat : Nat) : Int) = n + ((e : Int) - 1023) + 1023 from by omega] at l3
  exact ldexp_mid_core _ e (FT.wrd s t) _ _ n w (by omega) hn1 hn2 b1 b2 b3 (by omega) (by omega) (FT.exp_field_i64 s e t (by omega) ht) (FT.clear_exp s e t (by omega) ht) l3
    (fun w => run_float_arith w .mul 22 .f64 _ _ _ (FT.mul_one s (n + e).toNat t (by omega) (by omega) ht))

/-- Ldexp of a normal number: below the normal range, exactly. -/
theorem ldexp_den_c (s : Bool) (e t r d : Nat) (n : Int) (w : World) (h1 : 1 ≤ e) (h2 : e < 2047) (ht : t < 2 ^ 52) (hn1 : -6000 ≤ n) (hn2 : n ≤ 6000)
    (hd1 : 1 ≤ d) (hd2 : d ≤ 53) (hd : (d : Int) = 1 - (n + e)) (hr : r < 2 ^ 52) (h : 2 ^ 52 + t = r * 2 ^ d) :
    Calls Tryd.prog 47 #[.float .f64 (FT.wrd s (e * 2 ^ 52 + t)), .int .i64 n] w fun o w' => o = .returned (.float .f64 (FT.wrd s r)) ∧ G w w' := by
  obtain ⟨b1, b2, b3⟩ := wrd_nor_bd s e t h1 h2 ht
  refine ldexp_of_core _ _ w _ (fun w => ?_)
  have l3 := FT.put_exp s (54 - d) t (by omega) ht
  rw [show (((54 - d : Nat) : Nat) : Int) = n + ((e : Int) - 1023) + 53 + 1023 from by omega] at l3
  have hm := FT.mul_den s (54 - d) t r (by omega) (by omega) ht hr (by rw [show 54 - (54 - d) = d from by omega]; exact h)
  exact ldexp_den_core _ e (FT.wrd s t) _ _ n w (by omega) hn1 hn2 b1 b2 b3 (by omega) (by omega) (FT.exp_field_i64 s e t (by omega) ht) (FT.clear_exp s e t (by omega) ht) l3
    (fun w => run_float_arith w .mul 22 .f64 _ _ _ hm)

/-- Ldexp of a normal number: beyond the greatest. -/
theorem ldexp_big_c (s : Bool) (e t : Nat) (n : Int) (w : World) (h1 : 1 ≤ e) (h2 : e < 2047) (ht : t < 2 ^ 52) (hn1 : -6000 ≤ n) (hn2 : n ≤ 6000)
    (hx : 2046 < n + e) :
    Calls Tryd.prog 47 #[.float .f64 (FT.wrd s (e * 2 ^ 52 + t)), .int .i64 n] w fun o w' => o = .returned (.float .f64 (FT.wrd s FT.infR)) ∧ G w w' := by
  obtain ⟨b1, b2, b3⟩ := wrd_nor_bd s e t h1 h2 ht
  refine ldexp_of_core _ _ w _ (fun w => ?_)
  have := ldexp_big_core _ e n w (by omega) hn1 hn2 b1 b2 b3 (by omega) (FT.exp_field_i64 s e t (by omega) ht)
  rw [FT.wrd_neg s _ (by omega)] at this
  exact this

end Go.Proofs.YthbjdmadbakchaaDoor
