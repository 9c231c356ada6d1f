/- What is proved here: the walk of the law BitsParts: for any word of 64 bits and any fields, in memory in which the library's table lies where it was laid, it returns true, and nothing that was there has turned. -/
import Derived.Test.YthbjdmadbakchaaDoorB13
namespace Go.Proofs.YthbjdmadbakchaaDoor
open Go.ChangeShapes Go.WideShapes Go.ChangeAt Go.RowKit
attribute [local go_sem] frombits_r tobits_r unary_negf

/-- What the law's callees give at x. -/
structure PartsX (x ex fr : Nat) (s : Bool) (kd : Int) : Prop where
  M : ∀ w, Tab w → Calls Tryd.prog 6 #[] w fun e w' => e = .returned (.bool true) ∧ G w w'
  S1 : ∀ w, Calls Tryd.prog 7 #[.float .f64 x] w fun e w' => e = .returned (.tuple #[.bool s, .int .i64 ex, .int .u64 fr]) ∧ G w w'
  K1 : ∀ w, Calls Tryd.prog 8 #[.float .f64 x] w fun e w' => e = .returned (.int .i64 kd) ∧ G w w'
  K2 : ∀ w, Calls Tryd.prog 9 #[.float .f64 x] w fun e w' => e = .returned (.int .i64 kd) ∧ G w w'
  G1 : ∀ w, Calls Tryd.prog 10 #[.float .f64 x] w fun e w' => e = .returned (.bool s) ∧ G w w'
  J1 : ∀ w, Calls Tryd.prog 12 #[.bool s, .int .i64 ex, .int .u64 fr] w fun e w' => e = .returned (.tuple #[.float .f64 x, .int .i64 0]) ∧ G w w'
  E1 : bits BinOp.and IntKind.u64 ((x : Int) / 4503599627370496) 2047 = (ex : Int)
  E2 : bits BinOp.and IntKind.u64 (x : Int) 4503599627370495 = (fr : Int)
  X1 : ex < 2048

set_option maxRecDepth 100000 in
set_option maxHeartbeats 1000000 in
theorem parts_inf_lo (x ex fr : Nat) (s neg : Bool) (kd : Int) (w : World) (X : PartsX x ex fr s kd) (W1 : ∀ w, Tab w → Calls Tryd.prog 13 #[.float .f64 x] w fun e w' => e = .returned (.tuple #[.int .i64 0, .int .i64 0, .int .i64 4]) ∧ G w w') (F1 : ∀ w, Calls Tryd.prog 14 #[.float .f64 x] w fun e w' => e = .returned (.bool false) ∧ G w w') (exp : Int) (frac : Nat) (hE : exp < 0) (JB : ∀ w, Calls Tryd.prog 12 #[.bool neg, .int .i64 exp, .int .u64 frac] w fun e w' => e = .returned (.tuple #[.float .f64 0, .int .i64 3]) ∧ G w w') (Z : (FloatKind.f64.format.order 0 0 != some .eq) = false) (ht : Tab w) :
    Calls Tryd.prog 3 #[.float .f64 x, .bool neg, .int .i64 exp, .int .u64 frac] w fun e w' => e = .returned (.bool true) ∧ G w w' := by
  have Y : Hid _ := X
  have E1 := X.E1
  have E2 := X.E2
  have X1 := X.X1
  have JB' : Hid _ := JB
  have W1' : Hid _ := W1
  have F1' : Hid _ := F1
  clear X JB W1 F1
  go_enter Tryd.func3, Tryd.ntmps3
  go_wp2_with fail
  refine (Y.out.M _ ht).mono ?_
  rintro e v ⟨rfl, hv⟩
  have zhv := hv.size
  try simp at zhv
  go_wp2_with fail
  refine (Y.out.S1 _).mono ?_
  rintro e v0 ⟨rfl, hv0⟩
  have zhv0 := hv0.size
  try simp at zhv0
  go_wp2_with fail
  refine (Y.out.K1 _).mono ?_
  rintro e v1 ⟨rfl, hv1⟩
  have zhv1 := hv1.size
  try simp at zhv1
  go_wp2_with fail
  refine (Y.out.K2 _).mono ?_
  rintro e v2 ⟨rfl, hv2⟩
  have zhv2 := hv2.size
  try simp at zhv2
  go_wp2_with fail
  refine (Y.out.G1 _).mono ?_
  rintro e v3 ⟨rfl, hv3⟩
  have zhv3 := hv3.size
  try simp at zhv3
  go_wp2_with fail
  refine (Y.out.J1 _).mono ?_
  rintro e v4 ⟨rfl, hv4⟩
  have zhv4 := hv4.size
  try simp at zhv4
  go_wp2_with fail
  refine (JB'.out _).mono ?_
  rintro e v5 ⟨rfl, hv5⟩
  have zhv5 := hv5.size
  try simp at zhv5
  have htw : Tab _ := ht.G (G.trans (G.trans (G.trans (G.trans (G.trans (G.trans (hv) hv0) hv1) hv2) hv3) hv4) hv5)
  clear ht
  have HT : Hid _ := htw
  clear htw
  go_wp2_with fail
  refine (W1'.out _ HT.out).mono ?_
  rintro e u0 ⟨rfl, hu0⟩
  have zhu0 := hu0.size
  try simp at zhu0
  clear HT
  go_wp2_with fail
  refine (F1'.out _).mono ?_
  rintro e u1 ⟨rfl, hu1⟩
  have zhu1 := hu1.size
  try simp at zhu1
  go_wp2
  go_ret
  exact ⟨ret_bool (by simp), (by repeat' (first | exact G.refl _ | assumption | refine G.alloc ?_ _ | refine G.drew ?_ | refine G.drewN ?_ _ | (refine G.trans ?_ (by assumption))))⟩

set_option maxRecDepth 100000 in
set_option maxHeartbeats 1000000 in
theorem parts_inf_hi (x ex fr : Nat) (s neg : Bool) (kd : Int) (w : World) (X : PartsX x ex fr s kd) (W1 : ∀ w, Tab w → Calls Tryd.prog 13 #[.float .f64 x] w fun e w' => e = .returned (.tuple #[.int .i64 0, .int .i64 0, .int .i64 4]) ∧ G w w') (F1 : ∀ w, Calls Tryd.prog 14 #[.float .f64 x] w fun e w' => e = .returned (.bool false) ∧ G w w') (exp : Int) (frac : Nat) (hE : 2047 < exp) (JB : ∀ w, Calls Tryd.prog 12 #[.bool neg, .int .i64 exp, .int .u64 frac] w fun e w' => e = .returned (.tuple #[.float .f64 0, .int .i64 3]) ∧ G w w') (Z : (FloatKind.f64.format.order 0 0 != some .eq) = false) (ht : Tab w) :
    Calls Tryd.prog 3 #[.float .f64 x, .bool neg, .int .i64 exp, .int .u64 frac] w fun e w' => e = .returned (.bool true) ∧ G w w' := by
  have Y : Hid _ := X
  have E1 := X.E1
  have E2 := X.E2
  have X1 := X.X1
  have JB' : Hid _ := JB
  have W1' : Hid _ := W1
  have F1' : Hid _ := F1
  clear X JB W1 F1
  go_enter Tryd.func3, Tryd.ntmps3
  go_wp2_with fail
  refine (Y.out.M _ ht).mono ?_
  rintro e v ⟨rfl, hv⟩
  have zhv := hv.size
  try simp at zhv
  go_wp2_with fail
  refine (Y.out.S1 _).mono ?_
  rintro e v0 ⟨rfl, hv0⟩
  have zhv0 := hv0.size
  try simp at zhv0
  go_wp2_with fail
  refine (Y.out.K1 _).mono ?_
  rintro e v1 ⟨rfl, hv1⟩
  have zhv1 := hv1.size
  try simp at zhv1
  go_wp2_with fail
  refine (Y.out.K2 _).mono ?_
  rintro e v2 ⟨rfl, hv2⟩
  have zhv2 := hv2.size
  try simp at zhv2
  go_wp2_with fail
  refine (Y.out.G1 _).mono ?_
  rintro e v3 ⟨rfl, hv3⟩
  have zhv3 := hv3.size
  try simp at zhv3
  go_wp2_with fail
  refine (Y.out.J1 _).mono ?_
  rintro e v4 ⟨rfl, hv4⟩
  have zhv4 := hv4.size
  try simp at zhv4
  go_wp2_with fail
  refine (JB'.out _).mono ?_
  rintro e v5 ⟨rfl, hv5⟩
  have zhv5 := hv5.size
  try simp at zhv5
  have htw : Tab _ := ht.G (G.trans (G.trans (G.trans (G.trans (G.trans (G.trans (hv) hv0) hv1) hv2) hv3) hv4) hv5)
  clear ht
  have HT : Hid _ := htw
  clear htw
  go_wp2_with fail
  refine (W1'.out _ HT.out).mono ?_
  rintro e u0 ⟨rfl, hu0⟩
  have zhu0 := hu0.size
  try simp at zhu0
  clear HT
  go_wp2_with fail
  refine (F1'.out _).mono ?_
  rintro e u1 ⟨rfl, hu1⟩
  have zhu1 := hu1.size
  try simp at zhu1
  go_wp2
  go_ret
  exact ⟨ret_bool (by simp), (by repeat' (first | exact G.refl _ | assumption | refine G.alloc ?_ _ | refine G.drew ?_ | refine G.drewN ?_ _ | (refine G.trans ?_ (by assumption))))⟩

set_option maxRecDepth 100000 in
set_option maxHeartbeats 1000000 in
theorem parts_inf_fr (x ex fr : Nat) (s neg : Bool) (kd : Int) (w : World) (X : PartsX x ex fr s kd) (W1 : ∀ w, Tab w → Calls Tryd.prog 13 #[.float .f64 x] w fun e w' => e = .returned (.tuple #[.int .i64 0, .int .i64 0, .int .i64 4]) ∧ G w w') (F1 : ∀ w, Calls Tryd.prog 14 #[.float .f64 x] w fun e w' => e = .returned (.bool false) ∧ G w w') (exp : Int) (frac : Nat) (hE0 : 0 ≤ exp) (hE1 : exp ≤ 2047) (hE : (4503599627370495 : Int) < (frac : Int)) (JB : ∀ w, Calls Tryd.prog 12 #[.bool neg, .int .i64 exp, .int .u64 frac] w fun e w' => e = .returned (.tuple #[.float .f64 0, .int .i64 3]) ∧ G w w') (Z : (FloatKind.f64.format.order 0 0 != some .eq) = false) (ht : Tab w) :
    Calls Tryd.prog 3 #[.float .f64 x, .bool neg, .int .i64 exp, .int .u64 frac] w fun e w' => e = .returned (.bool true) ∧ G w w' := by
  have Y : Hid _ := X
  have E1 := X.E1
  have E2 := X.E2
  have X1 := X.X1
  have JB' : Hid _ := JB
  have W1' : Hid _ := W1
  have F1' : Hid _ := F1
  clear X JB W1 F1
  go_enter Tryd.func3, Tryd.ntmps3
  go_wp2_with fail
  refine (Y.out.M _ ht).mono ?_
  rintro e v ⟨rfl, hv⟩
  have zhv := hv.size
  try simp at zhv
  go_wp2_with fail
  refine (Y.out.S1 _).mono ?_
  rintro e v0 ⟨rfl, hv0⟩
  have zhv0 := hv0.size
  try simp at zhv0
  go_wp2_with fail
  refine (Y.out.K1 _).mono ?_
  rintro e v1 ⟨rfl, hv1⟩
  have zhv1 := hv1.size
  try simp at zhv1
  go_wp2_with fail
  refine (Y.out.K2 _).mono ?_
  rintro e v2 ⟨rfl, hv2⟩
  have zhv2 := hv2.size
  try simp at zhv2
  go_wp2_with fail
  refine (Y.out.G1 _).mono ?_
  rintro e v3 ⟨rfl, hv3⟩
  have zhv3 := hv3.size
  try simp at zhv3
  go_wp2_with fail
  refine (Y.out.J1 _).mono ?_
  rintro e v4 ⟨rfl, hv4⟩
  have zhv4 := hv4.size
  try simp at zhv4
  go_wp2_with fail
  refine (JB'.out _).mono ?_
  rintro e v5 ⟨rfl, hv5⟩
  have zhv5 := hv5.size
  try simp at zhv5
  have htw : Tab _ := ht.G (G.trans (G.trans (G.trans (G.trans (G.trans (G.trans (hv) hv0) hv1) hv2) hv3) hv4) hv5)
  clear ht
  have HT : Hid _ := htw
  clear htw
  go_wp2_with fail
  refine (W1'.out _ HT.out).mono ?_
  rintro e u0 ⟨rfl, hu0⟩
  have zhu0 := hu0.size
  try simp at zhu0
  clear HT
  go_wp2_with fail
  refine (F1'.out _).mono ?_
  rintro e u1 ⟨rfl, hu1⟩
  have zhu1 := hu1.size
  try simp at zhu1
  go_wp2
  go_ret
  exact ⟨ret_bool (by simp), (by repeat' (first | exact G.refl _ | assumption | refine G.alloc ?_ _ | refine G.drew ?_ | refine G.drewN ?_ _ | (refine G.trans ?_ (by assumption))))⟩

set_option maxRecDepth 100000 in
set_option maxHeartbeats 1000000 in
theorem parts_inf_ok (x ex fr : Nat) (s neg : Bool) (kd : Int) (w : World) (X : PartsX x ex fr s kd) (W1 : ∀ w, Tab w → Calls Tryd.prog 13 #[.float .f64 x] w fun e w' => e = .returned (.tuple #[.int .i64 0, .int .i64 0, .int .i64 4]) ∧ G w w') (F1 : ∀ w, Calls Tryd.prog 14 #[.float .f64 x] w fun e w' => e = .returned (.bool false) ∧ G w w') (exp : Nat) (frac y : Nat) (hE1 : (exp : Int) ≤ 2047) (hE : (frac : Int) ≤ 4503599627370495) (JB : ∀ w, Calls Tryd.prog 12 #[.bool neg, .int .i64 exp, .int .u64 frac] w fun e w' => e = .returned (.tuple #[.float .f64 y, .int .i64 0]) ∧ G w w') (S2 : ∀ w, Calls Tryd.prog 7 #[.float .f64 y] w fun e w' => e = .returned (.tuple #[.bool neg, .int .i64 exp, .int .u64 frac]) ∧ G w w') (ht : Tab w) :
    Calls Tryd.prog 3 #[.float .f64 x, .bool neg, .int .i64 exp, .int .u64 frac] w fun e w' => e = .returned (.bool true) ∧ G w w' := by
  have Y : Hid _ := X
  have E1 := X.E1
  have E2 := X.E2
  have X1 := X.X1
  have JB' : Hid _ := JB
  have W1' : Hid _ := W1
  have F1' : Hid _ := F1
  have S2' : Hid _ := S2
  clear X JB W1 F1 S2
  go_enter Tryd.func3, Tryd.ntmps3
  go_wp2_with fail
  refine (Y.out.M _ ht).mono ?_
  rintro e v ⟨rfl, hv⟩
  have zhv := hv.size
  try simp at zhv
  go_wp2_with fail
  refine (Y.out.S1 _).mono ?_
  rintro e v0 ⟨rfl, hv0⟩
  have zhv0 := hv0.size
  try simp at zhv0
  go_wp2_with fail
  refine (Y.out.K1 _).mono ?_
  rintro e v1 ⟨rfl, hv1⟩
  have zhv1 := hv1.size
  try simp at zhv1
  go_wp2_with fail
  refine (Y.out.K2 _).mono ?_
  rintro e v2 ⟨rfl, hv2⟩
  have zhv2 := hv2.size
  try simp at zhv2
  go_wp2_with fail
  refine (Y.out.G1 _).mono ?_
  rintro e v3 ⟨rfl, hv3⟩
  have zhv3 := hv3.size
  try simp at zhv3
  go_wp2_with fail
  refine (Y.out.J1 _).mono ?_
  rintro e v4 ⟨rfl, hv4⟩
  have zhv4 := hv4.size
  try simp at zhv4
  go_wp2_with fail
  refine (JB'.out _).mono ?_
  rintro e v5 ⟨rfl, hv5⟩
  have zhv5 := hv5.size
  try simp at zhv5
  go_wp2_with fail
  refine (S2'.out _).mono ?_
  rintro e v6 ⟨rfl, hv6⟩
  have zhv6 := hv6.size
  try simp at zhv6
  have htw : Tab _ := ht.G (G.trans (G.trans (G.trans (G.trans (G.trans (G.trans (G.trans (hv) hv0) hv1) hv2) hv3) hv4) hv5) hv6)
  clear ht
  have HT : Hid _ := htw
  clear htw
  go_wp2_with fail
  refine (W1'.out _ HT.out).mono ?_
  rintro e u0 ⟨rfl, hu0⟩
  have zhu0 := hu0.size
  try simp at zhu0
  clear HT
  go_wp2_with fail
  refine (F1'.out _).mono ?_
  rintro e u1 ⟨rfl, hu1⟩
  have zhu1 := hu1.size
  try simp at zhu1
  go_wp2
  go_ret
  exact ⟨ret_bool (by simp), (by repeat' (first | exact G.refl _ | assumption | refine G.alloc ?_ _ | refine G.drew ?_ | refine G.drewN ?_ _ | (refine G.trans ?_ (by assumption))))⟩

set_option maxRecDepth 100000 in
set_option maxHeartbeats 1000000 in
theorem parts_fin_lo (x ex fr : Nat) (s neg : Bool) (kd : Int) (w : World) (X : PartsX x ex fr s kd) (m k : Int) (z v : Nat) (W1 : ∀ w, Tab w → Calls Tryd.prog 13 #[.float .f64 x] w fun e w' => e = .returned (.tuple #[.int .i64 m, .int .i64 k, .int .i64 0]) ∧ G w w') (F1 : ∀ w, Calls Tryd.prog 14 #[.float .f64 x] w fun e w' => e = .returned (.bool true) ∧ G w w') (O1 : ∀ w, Calls Tryd.prog 15 #[.float .f64 x] w fun e w' => e = .returned (.tuple #[.int .i64 m, .int .i64 k]) ∧ G w w') (M1 : ∀ w, Calls Tryd.prog 17 #[.int .i64 m, .int .i64 k] w fun e w' => e = .returned (.float .f64 v) ∧ G w w') (AD : ∀ w : World, (binOp .add 22 (.float .f64 x) (.float .f64 0)).run Tryd.prog w = .ok (.float .f64 z) w) (B1 : ∀ w, Calls Tryd.prog 16 #[.float .f64 v, .float .f64 z] w fun e w' => e = .returned (.bool true) ∧ G w w') (exp : Int) (frac : Nat) (hE : exp < 0) (JB : ∀ w, Calls Tryd.prog 12 #[.bool neg, .int .i64 exp, .int .u64 frac] w fun e w' => e = .returned (.tuple #[.float .f64 0, .int .i64 3]) ∧ G w w') (Z : (FloatKind.f64.format.order 0 0 != some .eq) = false) (ht : Tab w) :
    Calls Tryd.prog 3 #[.float .f64 x, .bool neg, .int .i64 exp, .int .u64 frac] w fun e w' => e = .returned (.bool true) ∧ G w w' := by
  have Y : Hid _ := X
  have E1 := X.E1
  have E2 := X.E2
  have X1 := X.X1
  have JB' : Hid _ := JB
  have W1' : Hid _ := W1
  have F1' : Hid _ := F1
  have O1' : Hid _ := O1
  have M1' : Hid _ := M1
  have B1' : Hid _ := B1
  clear X JB W1 F1 O1 M1 B1
  go_enter Tryd.func3, Tryd.ntmps3
  go_wp2_with fail
  refine (Y.out.M _ ht).mono ?_
  rintro e v ⟨rfl, hv⟩
  have zhv := hv.size
  try simp at zhv
  go_wp2_with fail
  refine (Y.out.S1 _).mono ?_
  rintro e v0 ⟨rfl, hv0⟩
  have zhv0 := hv0.size
  try simp at zhv0
  go_wp2_with fail
  refine (Y.out.K1 _).mono ?_
  rintro e v1 ⟨rfl, hv1⟩
  have zhv1 := hv1.size
  try simp at zhv1
  go_wp2_with fail
  refine (Y.out.K2 _).mono ?_
  rintro e v2 ⟨rfl, hv2⟩
  have zhv2 := hv2.size
  try simp at zhv2
  go_wp2_with fail
  refine (Y.out.G1 _).mono ?_
  rintro e v3 ⟨rfl, hv3⟩
  have zhv3 := hv3.size
  try simp at zhv3
  go_wp2_with fail
  refine (Y.out.J1 _).mono ?_
  rintro e v4 ⟨rfl, hv4⟩
  have zhv4 := hv4.size
  try simp at zhv4
  go_wp2_with fail
  refine (JB'.out _).mono ?_
  rintro e v5 ⟨rfl, hv5⟩
  have zhv5 := hv5.size
  try simp at zhv5
  have htw : Tab _ := ht.G (G.trans (G.trans (G.trans (G.trans (G.trans (G.trans (hv) hv0) hv1) hv2) hv3) hv4) hv5)
  clear ht
  have HT : Hid _ := htw
  clear htw
  go_wp2_with fail
  refine (W1'.out _ HT.out).mono ?_
  rintro e u0 ⟨rfl, hu0⟩
  have zhu0 := hu0.size
  try simp at zhu0
  clear HT
  go_wp2_with fail
  refine (F1'.out _).mono ?_
  rintro e u1 ⟨rfl, hu1⟩
  have zhu1 := hu1.size
  try simp at zhu1
  go_wp2_with fail
  refine (O1'.out _).mono ?_
  rintro e t0 ⟨rfl, ht0⟩
  have zht0 := ht0.size
  try simp at zht0
  go_wp2_with fail
  refine (M1'.out _).mono ?_
  rintro e t1 ⟨rfl, ht1⟩
  have zht1 := ht1.size
  try simp at zht1
  go_wp2_with fail
  refine (B1'.out _).mono ?_
  rintro e t2 ⟨rfl, ht2⟩
  have zht2 := ht2.size
  try simp at zht2
  go_wp2
  go_ret
  exact ⟨ret_bool (by simp), (by repeat' (first | exact G.refl _ | assumption | refine G.alloc ?_ _ | refine G.drew ?_ | refine G.drewN ?_ _ | (refine G.trans ?_ (by assumption))))⟩

set_option maxRecDepth 100000 in
set_option maxHeartbeats 1000000 in
theorem parts_fin_hi (x ex fr : Nat) (s neg : Bool) (kd : Int) (w : World) (X : PartsX x ex fr s kd) (m k : Int) (z v : Nat) (W1 : ∀ w, Tab w → Calls Tryd.prog 13 #[.float .f64 x] w fun e w' => e = .returned (.tuple #[.int .i64 m, .int .i64 k, .int .i64 0]) ∧ G w w') (F1 : ∀ w, Calls Tryd.prog 14 #[.float .f64 x] w fun e w' => e = .returned (.bool true) ∧ G w w') (O1 : ∀ w, Calls Tryd.prog 15 #[.float .f64 x] w fun e w' => e = .returned (.tuple #[.int .i64 m, .int .i64 k]) ∧ G w w') (M1 : ∀ w, Calls Tryd.prog 17 #[.int .i64 m, .int .i64 k] w fun e w' => e = .returned (.float .f64 v) ∧ G w w') (AD : ∀ w : World, (binOp .add 22 (.float .f64 x) (.float .f64 0)).run Tryd.prog w = .ok (.float .f64 z) w) (B1 : ∀ w, Calls Tryd.prog 16 #[.float .f64 v, .float .f64 z] w fun e w' => e = .returned (.bool true) ∧ G w w') (exp : Int) (frac : Nat) (hE : 2047 < exp) (JB : ∀ w, Calls Tryd.prog 12 #[.bool neg, .int .i64 exp, .int .u64 frac] w fun e w' => e = .returned (.tuple #[.float .f64 0, .int .i64 3]) ∧ G w w') (Z : (FloatKind.f64.format.order 0 0 != some .eq) = false) (ht : Tab w) :
    Calls Tryd.prog 3 #[.float .f64 x, .bool neg, .int .i64 exp, .int .u64 frac] w fun e w' => e = .returned (.bool true) ∧ G w w' := by
  have Y : Hid _ := X
  have E1 := X.E1
  have E2 := X.E2
  have X1 := X.X1
  have JB' : Hid _ := JB
  have W1' : Hid _ := W1
  have F1' : Hid _ := F1
  have O1' : Hid _ := O1
  have M1' : Hid _ := M1
  have B1' : Hid _ := B1
  clear X JB W1 F1 O1 M1 B1
  go_enter Tryd.func3, Tryd.ntmps3
  go_wp2_with fail
  refine (Y.out.M _ ht).mono ?_
  rintro e v ⟨rfl, hv⟩
  have zhv := hv.size
  try simp at zhv
  go_wp2_with fail
  refine (Y.out.S1 _).mono ?_
  rintro e v0 ⟨rfl, hv0⟩
  have zhv0 := hv0.size
  try simp at zhv0
  go_wp2_with fail
  refine (Y.out.K1 _).mono ?_
  rintro e v1 ⟨rfl, hv1⟩
  have zhv1 := hv1.size
  try simp at zhv1
  go_wp2_with fail
  refine (Y.out.K2 _).mono ?_
  rintro e v2 ⟨rfl, hv2⟩
  have zhv2 := hv2.size
  try simp at zhv2
  go_wp2_with fail
  refine (Y.out.G1 _).mono ?_
  rintro e v3 ⟨rfl, hv3⟩
  have zhv3 := hv3.size
  try simp at zhv3
  go_wp2_with fail
  refine (Y.out.J1 _).mono ?_
  rintro e v4 ⟨rfl, hv4⟩
  have zhv4 := hv4.size
  try simp at zhv4
  go_wp2_with fail
  refine (JB'.out _).mono ?_
  rintro e v5 ⟨rfl, hv5⟩
  have zhv5 := hv5.size
  try simp at zhv5
  have htw : Tab _ := ht.G (G.trans (G.trans (G.trans (G.trans (G.trans (G.trans (hv) hv0) hv1) hv2) hv3) hv4) hv5)
  clear ht
  have HT : Hid _ := htw
  clear htw
  go_wp2_with fail
  refine (W1'.out _ HT.out).mono ?_
  rintro e u0 ⟨rfl, hu0⟩
  have zhu0 := hu0.size
  try simp at zhu0
  clear HT
  go_wp2_with fail
  refine (F1'.out _).mono ?_
  rintro e u1 ⟨rfl, hu1⟩
  have zhu1 := hu1.size
  try simp at zhu1
  go_wp2_with fail
  refine (O1'.out _).mono ?_
  rintro e t0 ⟨rfl, ht0⟩
  have zht0 := ht0.size
  try simp at zht0
  go_wp2_with fail
  refine (M1'.out _).mono ?_
  rintro e t1 ⟨rfl, ht1⟩
  have zht1 := ht1.size
  try simp at zht1
  go_wp2_with fail
  refine (B1'.out _).mono ?_
  rintro e t2 ⟨rfl, ht2⟩
  have zht2 := ht2.size
  try simp at zht2
  go_wp2
  go_ret
  exact ⟨ret_bool (by simp), (by repeat' (first | exact G.refl _ | assumption | refine G.alloc ?_ _ | refine G.drew ?_ | refine G.drewN ?_ _ | (refine G.trans ?_ (by assumption))))⟩

set_option maxRecDepth 100000 in
set_option maxHeartbeats 1000000 in
theorem parts_fin_fr (x ex fr : Nat) (s neg : Bool) (kd : Int) (w : World) (X : PartsX x ex fr s kd) (m k : Int) (z v : Nat) (W1 : ∀ w, Tab w → Calls Tryd.prog 13 #[.float .f64 x] w fun e w' => e = .returned (.tuple #[.int .i64 m, .int .i64 k, .int .i64 0]) ∧ G w w') (F1 : ∀ w, Calls Tryd.prog 14 #[.float .f64 x] w fun e w' => e = .returned (.bool true) ∧ G w w') (O1 : ∀ w, Calls Tryd.prog 15 #[.float .f64 x] w fun e w' => e = .returned (.tuple #[.int .i64 m, .int .i64 k]) ∧ G w w') (M1 : ∀ w, Calls Tryd.prog 17 #[.int .i64 m, .int .i64 k] w fun e w' => e = .returned (.float .f64 v) ∧ G w w') (AD : ∀ w : World, (binOp .add 22 (.float .f64 x) (.float .f64 0)).run Tryd.prog w = .ok (.float .f64 z) w) (B1 : ∀ w, Calls Tryd.prog 16 #[.float .f64 v, .float .f64 z] w fun e w' => e = .returned (.bool true) ∧ G w w') (exp : Int) (frac : Nat) (hE0 : 0 ≤ exp) (hE1 : exp ≤ 2047) (hE : (4503599627370495 : Int) < (frac : Int)) (JB : ∀ w, Calls Tryd.prog 12 #[.bool neg, .int .i64 exp, .int .u64 frac] w fun e w' => e = .returned (.tuple #[.float .f64 0, .int .i64 3]) ∧ G w w') (Z : (FloatKind.f64.format.order 0 0 != some .eq) = false) (ht : Tab w) :
    Calls Tryd.prog 3 #[.float .f64 x, .bool neg, .int .i64 exp, .int .u64 frac] w fun e w' => e = .returned (.bool true) ∧ G w w' := by
  have Y : Hid _ := X
  have E1 := X.E1
  have E2 := X.E2
  have X1 := X.X1
  have JB' : Hid _ := JB
  have W1' : Hid _ := W1
  have F1' : Hid _ := F1
  have O1' : Hid _ := O1
  have M1' : Hid _ := M1
  have B1' : Hid _ := B1
  clear X JB W1 F1 O1 M1 B1
  go_enter Tryd.func3, Tryd.ntmps3
  go_wp2_with fail
  refine (Y.out.M _ ht).mono ?_
  rintro e v ⟨rfl, hv⟩
  have zhv := hv.size
  try simp at zhv
  go_wp2_with fail
  refine (Y.out.S1 _).mono ?_
  rintro e v0 ⟨rfl, hv0⟩
  have zhv0 := hv0.size
  try simp at zhv0
  go_wp2_with fail
  refine (Y.out.K1 _).mono ?_
  rintro e v1 ⟨rfl, hv1⟩
  have zhv1 := hv1.size
  try simp at zhv1
  go_wp2_with fail
  refine (Y.out.K2 _).mono ?_
  rintro e v2 ⟨rfl, hv2⟩
  have zhv2 := hv2.size
  try simp at zhv2
  go_wp2_with fail
  refine (Y.out.G1 _).mono ?_
  rintro e v3 ⟨rfl, hv3⟩
  have zhv3 := hv3.size
  try simp at zhv3
  go_wp2_with fail
  refine (Y.out.J1 _).mono ?_
  rintro e v4 ⟨rfl, hv4⟩
  have zhv4 := hv4.size
  try simp at zhv4
  go_wp2_with fail
  refine (JB'.out _).mono ?_
  rintro e v5 ⟨rfl, hv5⟩
  have zhv5 := hv5.size
  try simp at zhv5
  have htw : Tab _ := ht.G (G.trans (G.trans (G.trans (G.trans (G.trans (G.trans (hv) hv0) hv1) hv2) hv3) hv4) hv5)
  clear ht
  have HT : Hid _ := htw
  clear htw
  go_wp2_with fail
  refine (W1'.out _ HT.out).mono ?_
  rintro e u0 ⟨rfl, hu0⟩
  have zhu0 := hu0.size
  try simp at zhu0
  clear HT
  go_wp2_with fail
  refine (F1'.out _).mono ?_
  rintro e u1 ⟨rfl, hu1⟩
  have zhu1 := hu1.size
  try simp at zhu1
  go_wp2_with fail
  refine (O1'.out _).mono ?_
  rintro e t0 ⟨rfl, ht0⟩
  have zht0 := ht0.size
  try simp at zht0
  go_wp2_with fail
  refine (M1'.out _).mono ?_
  rintro e t1 ⟨rfl, ht1⟩
  have zht1 := ht1.size
  try simp at zht1
  go_wp2_with fail
  refine (B1'.out _).mono ?_
  rintro e t2 ⟨rfl, ht2⟩
  have zht2 := ht2.size
  try simp at zht2
  go_wp2
  go_ret
  exact ⟨ret_bool (by simp), (by repeat' (first | exact G.refl _ | assumption | refine G.alloc ?_ _ | refine G.drew ?_ | refine G.drewN ?_ _ | (refine G.trans ?_ (by assumption))))⟩

set_option maxRecDepth 100000 in
set_option maxHeartbeats 1000000 in
theorem parts_fin_ok (x ex fr : Nat) (s neg : Bool) (kd : Int) (w : World) (X : PartsX x ex fr s kd) (m k : Int) (z v : Nat) (W1 : ∀ w, Tab w → Calls Tryd.prog 13 #[.float .f64 x] w fun e w' => e = .returned (.tuple #[.int .i64 m, .int .i64 k, .int .i64 0]) ∧ G w w') (F1 : ∀ w, Calls Tryd.prog 14 #[.float .f64 x] w fun e w' => e = .returned (.bool true) ∧ G w w') (O1 : ∀ w, Calls Tryd.prog 15 #[.float .f64 x] w fun e w' => e = .returned (.tuple #[.int .i64 m, .int .i64 k]) ∧ G w w') (M1 : ∀ w, Calls Tryd.prog 17 #[.int .i64 m, .int .i64 k] w fun e w' => e = .returned (.float .f64 v) ∧ G w w') (AD : ∀ w : World, (binOp .add 22 (.float .f64 x) (.float .f64 0)).run Tryd.prog w = .ok (.float .f64 z) w) (B1 : ∀ w, Calls Tryd.prog 16 #[.float .f64 v, .float .f64 z] w fun e w' => e = .returned (.bool true) ∧ G w w') (exp : Nat) (frac y : Nat) (hE1 : (exp : Int) ≤ 2047) (hE : (frac : Int) ≤ 4503599627370495) (JB : ∀ w, Calls Tryd.prog 12 #[.bool neg, .int .i64 exp, .int .u64 frac] w fun e w' => e = .returned (.tuple #[.float .f64 y, .int .i64 0]) ∧ G w w') (S2 : ∀ w, Calls Tryd.prog 7 #[.float .f64 y] w fun e w' => e = .returned (.tuple #[.bool neg, .int .i64 exp, .int .u64 frac]) ∧ G w w') (ht : Tab w) :
    Calls Tryd.prog 3 #[.float .f64 x, .bool neg, .int .i64 exp, .int .u64 frac] w fun e w' => e = .returned (.bool true) ∧ G w w' := by
  have Y : Hid _ := X
  have E1 := X.E1
  have E2 := X.E2
  have X1 := X.X1
  have JB' : Hid _ := JB
  have W1' : Hid _ := W1
  have F1' : Hid _ := F1
  have S2' : Hid _ := S2
  have O1' : Hid _ := O1
  have M1' : Hid _ := M1
  have B1' : Hid _ := B1
  clear X JB W1 F1 S2 O1 M1 B1
  go_enter Tryd.func3, Tryd.ntmps3
  go_wp2_with fail
  refine (Y.out.M _ ht).mono ?_
  rintro e v ⟨rfl, hv⟩
  have zhv := hv.size
  try simp at zhv
  go_wp2_with fail
  refine (Y.out.S1 _).mono ?_
  rintro e v0 ⟨rfl, hv0⟩
  have zhv0 := hv0.size
  try simp at zhv0
  go_wp2_with fail
  refine (Y.out.K1 _).mono ?_
  rintro e v1 ⟨rfl, hv1⟩
  have zhv1 := hv1.size
  try simp at zhv1
  go_wp2_with fail
  refine (Y.out.K2 _).mono ?_
  rintro e v2 ⟨rfl, hv2⟩
  have zhv2 := hv2.size
  try simp at zhv2
  go_wp2_with fail
  refine (Y.out.G1 _).mono ?_
  rintro e v3 ⟨rfl, hv3⟩
  have zhv3 := hv3.size
  try simp at zhv3
  go_wp2_with fail
  refine (Y.out.J1 _).mono ?_
  rintro e v4 ⟨rfl, hv4⟩
  have zhv4 := hv4.size
  try simp at zhv4
  go_wp2_with fail
  refine (JB'.out _).mono ?_
  rintro e v5 ⟨rfl, hv5⟩
  have zhv5 := hv5.size
  try simp at zhv5
  go_wp2_with fail
  refine (S2'.out _).mono ?_
  rintro e v6 ⟨rfl, hv6⟩
  have zhv6 := hv6.size
  try simp at zhv6
  have htw : Tab _ := ht.G (G.trans (G.trans (G.trans (G.trans (G.trans (G.trans (G.trans (hv) hv0) hv1) hv2) hv3) hv4) hv5) hv6)
  clear ht
  have HT : Hid _ := htw
  clear htw
  go_wp2_with fail
  refine (W1'.out _ HT.out).mono ?_
  rintro e u0 ⟨rfl, hu0⟩
  have zhu0 := hu0.size
  try simp at zhu0
  clear HT
  go_wp2_with fail
  refine (F1'.out _).mono ?_
  rintro e u1 ⟨rfl, hu1⟩
  have zhu1 := hu1.size
  try simp at zhu1
  go_wp2_with fail
  refine (O1'.out _).mono ?_
  rintro e t0 ⟨rfl, ht0⟩
  have zht0 := ht0.size
  try simp at zht0
  go_wp2_with fail
  refine (M1'.out _).mono ?_
  rintro e t1 ⟨rfl, ht1⟩
  have zht1 := ht1.size
  try simp at zht1
  go_wp2_with fail
  refine (B1'.out _).mono ?_
  rintro e t2 ⟨rfl, ht2⟩
  have zht2 := ht2.size
  try simp at zht2
  go_wp2
  go_ret
  exact ⟨ret_bool (by simp), (by repeat' (first | exact G.refl _ | assumption | refine G.alloc ?_ _ | refine G.drew ?_ | refine G.drewN ?_ _ | (refine G.trans ?_ (by assumption))))⟩

end Go.Proofs.YthbjdmadbakchaaDoor
