/- What is proved here: the walk of the law BitsNeighbours: for any two words of 64 bits, in memory in which the library's table lies where it was laid, it returns true, and nothing that was there has turned. -/
import Derived.Test.YthbjdmadbakchaaDoorB13
namespace Go.Proofs.YthbjdmadbakchaaDoor
open Go.ChangeShapes Go.WideShapes Go.ChangeAt Go.RowKit
attribute [local go_sem] frombits_r tobits_r unary_negf

/-- What the law's callees give at x. -/
structure AtX (x U U' D D' N P ul uo : Nat) (c1 c2 : Bool) (k : Int) : Prop where
  M : ∀ w, Tab w → Calls Tryd.prog 6 #[] w fun e w' => e = .returned (.bool true) ∧ G w w'
  I1 : ∀ w, Calls Tryd.prog 20 #[.int .i64 1] w fun e w' => e = .returned (.float .f64 FT.infR) ∧ G w w'
  I2 : ∀ w, Calls Tryd.prog 20 #[.int .i64 (-1)] w fun e w' => e = .returned (.float .f64 FT.ninf) ∧ G w w'
  A1 : ∀ w, Calls Tryd.prog 19 #[.float .f64 x, .float .f64 FT.infR] w fun e w' => e = .returned (.float .f64 U) ∧ G w w'
  A2 : ∀ w, Calls Tryd.prog 19 #[.float .f64 x, .float .f64 FT.ninf] w fun e w' => e = .returned (.float .f64 D) ∧ G w w'
  E1 : (FloatKind.f64.format.order U 0 == some .eq) = c1
  E2 : (FloatKind.f64.format.order D 0 == some .eq) = c2
  CS : ∀ w, Calls Tryd.prog 21 #[.float .f64 0, .float .f64 13830554455654793216] w fun e w' => e = .returned (.float .f64 9223372036854775808) ∧ G w w'
  N1 : ∀ w, Calls Tryd.prog 22 #[.float .f64 x] w fun e w' => e = .returned (.float .f64 N) ∧ G w w'
  B1 : ∀ w, Calls Tryd.prog 16 #[.float .f64 N, .float .f64 U'] w fun e w' => e = .returned (.bool true) ∧ G w w'
  P1 : ∀ w, Calls Tryd.prog 23 #[.float .f64 x] w fun e w' => e = .returned (.float .f64 P) ∧ G w w'
  B2 : ∀ w, Calls Tryd.prog 16 #[.float .f64 P, .float .f64 D'] w fun e w' => e = .returned (.bool true) ∧ G w w'
  U1 : ∀ w, Calls Tryd.prog 24 #[.float .f64 x] w fun e w' => e = .returned (.float .f64 ul) ∧ G w w'
  U2 : ∀ w, Calls Tryd.prog 25 #[.float .f64 x] w fun e w' => e = .returned (.float .f64 uo) ∧ G w w'
  B3 : ∀ w, Calls Tryd.prog 16 #[.float .f64 ul, .float .f64 uo] w fun e w' => e = .returned (.bool true) ∧ G w w'
  K1 : ∀ w, Calls Tryd.prog 26 #[.float .f64 x] w fun e w' => e = .returned (.int .i64 k) ∧ G w w'
  K2 : ∀ w, Calls Tryd.prog 27 #[.float .f64 x] w fun e w' => e = .returned (.int .i64 k) ∧ G w w'

set_option maxHeartbeats 1000000 in
theorem neigh_ff_nan (x y U D N P ul uo : Nat) (k : Int) (w : World) (X : AtX x U U D D N P ul uo false false k) (E5 : (FloatKind.f64.format.order x x == some .eq) = false) (ht : Tab w) :
    Calls Tryd.prog 5 #[.float .f64 x, .float .f64 y] w fun e w' => e = .returned (.bool true) ∧ G w w' := by
  have hk : ((k : Int) == k) = true := by simp
  have Y : Hid _ := X
  have E1 := X.E1
  have E2 := X.E2
  clear X
  go_enter Tryd.func5, Tryd.ntmps5
  go_wp2_with fail
  refine (Y.out.M _ ht).mono ?_
  rintro e v ⟨rfl, hv⟩
  have zhv := hv.size
  try simp at zhv
  clear ht
  go_wp2_with fail
  refine (Y.out.I1 _).mono ?_
  rintro e v0 ⟨rfl, hv0⟩
  have zhv0 := hv0.size
  try simp at zhv0
  go_wp2_with fail
  refine (Y.out.A1 _).mono ?_
  rintro e v1 ⟨rfl, hv1⟩
  have zhv1 := hv1.size
  try simp at zhv1
  go_wp2_with fail
  refine (Y.out.I2 _).mono ?_
  rintro e v2 ⟨rfl, hv2⟩
  have zhv2 := hv2.size
  try simp at zhv2
  go_wp2_with fail
  refine (Y.out.A2 _).mono ?_
  rintro e v3 ⟨rfl, hv3⟩
  have zhv3 := hv3.size
  try simp at zhv3
  go_wp2_with fail
  refine (Y.out.N1 _).mono ?_
  rintro e v4 ⟨rfl, hv4⟩
  have zhv4 := hv4.size
  try simp at zhv4
  go_wp2_with fail
  refine (Y.out.B1 _).mono ?_
  rintro e v5 ⟨rfl, hv5⟩
  have zhv5 := hv5.size
  try simp at zhv5
  go_wp2_with fail
  refine (Y.out.P1 _).mono ?_
  rintro e v6 ⟨rfl, hv6⟩
  have zhv6 := hv6.size
  try simp at zhv6
  go_wp2_with fail
  refine (Y.out.B2 _).mono ?_
  rintro e v7 ⟨rfl, hv7⟩
  have zhv7 := hv7.size
  try simp at zhv7
  go_wp2_with fail
  refine (Y.out.U1 _).mono ?_
  rintro e v8 ⟨rfl, hv8⟩
  have zhv8 := hv8.size
  try simp at zhv8
  go_wp2_with fail
  refine (Y.out.U2 _).mono ?_
  rintro e v9 ⟨rfl, hv9⟩
  have zhv9 := hv9.size
  try simp at zhv9
  go_wp2_with fail
  refine (Y.out.B3 _).mono ?_
  rintro e v10 ⟨rfl, hv10⟩
  have zhv10 := hv10.size
  try simp at zhv10
  go_wp2_with fail
  refine (Y.out.K1 _).mono ?_
  rintro e v11 ⟨rfl, hv11⟩
  have zhv11 := hv11.size
  try simp at zhv11
  go_wp2_with fail
  refine (Y.out.K2 _).mono ?_
  rintro e v12 ⟨rfl, hv12⟩
  have zhv12 := hv12.size
  try simp at zhv12
  go_wp2
  go_ret
  exact ⟨ret_bool (by simp), (by repeat' (first | exact G.refl _ | assumption | refine G.alloc ?_ _ | refine G.drew ?_ | refine G.drewN ?_ _ | (refine G.trans ?_ (by assumption))))⟩

set_option maxHeartbeats 1000000 in
theorem neigh_ff_nany (x y U D N P ul uo : Nat) (k : Int) (w : World) (X : AtX x U U D D N P ul uo false false k) (E5 : (FloatKind.f64.format.order x x == some .eq) = true) (E6 : (FloatKind.f64.format.order y y == some .eq) = false) (ht : Tab w) :
    Calls Tryd.prog 5 #[.float .f64 x, .float .f64 y] w fun e w' => e = .returned (.bool true) ∧ G w w' := by
  have hk : ((k : Int) == k) = true := by simp
  have Y : Hid _ := X
  have E1 := X.E1
  have E2 := X.E2
  clear X
  go_enter Tryd.func5, Tryd.ntmps5
  go_wp2_with fail
  refine (Y.out.M _ ht).mono ?_
  rintro e v ⟨rfl, hv⟩
  have zhv := hv.size
  try simp at zhv
  clear ht
  go_wp2_with fail
  refine (Y.out.I1 _).mono ?_
  rintro e v0 ⟨rfl, hv0⟩
  have zhv0 := hv0.size
  try simp at zhv0
  go_wp2_with fail
  refine (Y.out.A1 _).mono ?_
  rintro e v1 ⟨rfl, hv1⟩
  have zhv1 := hv1.size
  try simp at zhv1
  go_wp2_with fail
  refine (Y.out.I2 _).mono ?_
  rintro e v2 ⟨rfl, hv2⟩
  have zhv2 := hv2.size
  try simp at zhv2
  go_wp2_with fail
  refine (Y.out.A2 _).mono ?_
  rintro e v3 ⟨rfl, hv3⟩
  have zhv3 := hv3.size
  try simp at zhv3
  go_wp2_with fail
  refine (Y.out.N1 _).mono ?_
  rintro e v4 ⟨rfl, hv4⟩
  have zhv4 := hv4.size
  try simp at zhv4
  go_wp2_with fail
  refine (Y.out.B1 _).mono ?_
  rintro e v5 ⟨rfl, hv5⟩
  have zhv5 := hv5.size
  try simp at zhv5
  go_wp2_with fail
  refine (Y.out.P1 _).mono ?_
  rintro e v6 ⟨rfl, hv6⟩
  have zhv6 := hv6.size
  try simp at zhv6
  go_wp2_with fail
  refine (Y.out.B2 _).mono ?_
  rintro e v7 ⟨rfl, hv7⟩
  have zhv7 := hv7.size
  try simp at zhv7
  go_wp2_with fail
  refine (Y.out.U1 _).mono ?_
  rintro e v8 ⟨rfl, hv8⟩
  have zhv8 := hv8.size
  try simp at zhv8
  go_wp2_with fail
  refine (Y.out.U2 _).mono ?_
  rintro e v9 ⟨rfl, hv9⟩
  have zhv9 := hv9.size
  try simp at zhv9
  go_wp2_with fail
  refine (Y.out.B3 _).mono ?_
  rintro e v10 ⟨rfl, hv10⟩
  have zhv10 := hv10.size
  try simp at zhv10
  go_wp2_with fail
  refine (Y.out.K1 _).mono ?_
  rintro e v11 ⟨rfl, hv11⟩
  have zhv11 := hv11.size
  try simp at zhv11
  go_wp2_with fail
  refine (Y.out.K2 _).mono ?_
  rintro e v12 ⟨rfl, hv12⟩
  have zhv12 := hv12.size
  try simp at zhv12
  go_wp2
  go_ret
  exact ⟨ret_bool (by simp), (by repeat' (first | exact G.refl _ | assumption | refine G.alloc ?_ _ | refine G.drew ?_ | refine G.drewN ?_ _ | (refine G.trans ?_ (by assumption))))⟩

set_option maxHeartbeats 1000000 in
theorem neigh_ff_ge (x y U D N P ul uo : Nat) (k : Int) (w : World) (X : AtX x U U D D N P ul uo false false k) (ky : Int) (E5 : (FloatKind.f64.format.order x x == some .eq) = true) (E6 : (FloatKind.f64.format.order y y == some .eq) = true) (K3 : ∀ w, Calls Tryd.prog 26 #[.float .f64 y] w fun e w' => e = .returned (.int .i64 ky) ∧ G w w') (hk2 : ¬ k < ky) (E7 : (FloatKind.f64.format.order x y == some .lt) = false) (ht : Tab w) :
    Calls Tryd.prog 5 #[.float .f64 x, .float .f64 y] w fun e w' => e = .returned (.bool true) ∧ G w w' := by
  have hk : ((k : Int) == k) = true := by simp
  have Y : Hid _ := X
  have E1 := X.E1
  have E2 := X.E2
  clear X
  have K3' : Hid _ := K3
  clear K3
  go_enter Tryd.func5, Tryd.ntmps5
  go_wp2_with fail
  refine (Y.out.M _ ht).mono ?_
  rintro e v ⟨rfl, hv⟩
  have zhv := hv.size
  try simp at zhv
  clear ht
  go_wp2_with fail
  refine (Y.out.I1 _).mono ?_
  rintro e v0 ⟨rfl, hv0⟩
  have zhv0 := hv0.size
  try simp at zhv0
  go_wp2_with fail
  refine (Y.out.A1 _).mono ?_
  rintro e v1 ⟨rfl, hv1⟩
  have zhv1 := hv1.size
  try simp at zhv1
  go_wp2_with fail
  refine (Y.out.I2 _).mono ?_
  rintro e v2 ⟨rfl, hv2⟩
  have zhv2 := hv2.size
  try simp at zhv2
  go_wp2_with fail
  refine (Y.out.A2 _).mono ?_
  rintro e v3 ⟨rfl, hv3⟩
  have zhv3 := hv3.size
  try simp at zhv3
  go_wp2_with fail
  refine (Y.out.N1 _).mono ?_
  rintro e v4 ⟨rfl, hv4⟩
  have zhv4 := hv4.size
  try simp at zhv4
  go_wp2_with fail
  refine (Y.out.B1 _).mono ?_
  rintro e v5 ⟨rfl, hv5⟩
  have zhv5 := hv5.size
  try simp at zhv5
  go_wp2_with fail
  refine (Y.out.P1 _).mono ?_
  rintro e v6 ⟨rfl, hv6⟩
  have zhv6 := hv6.size
  try simp at zhv6
  go_wp2_with fail
  refine (Y.out.B2 _).mono ?_
  rintro e v7 ⟨rfl, hv7⟩
  have zhv7 := hv7.size
  try simp at zhv7
  go_wp2_with fail
  refine (Y.out.U1 _).mono ?_
  rintro e v8 ⟨rfl, hv8⟩
  have zhv8 := hv8.size
  try simp at zhv8
  go_wp2_with fail
  refine (Y.out.U2 _).mono ?_
  rintro e v9 ⟨rfl, hv9⟩
  have zhv9 := hv9.size
  try simp at zhv9
  go_wp2_with fail
  refine (Y.out.B3 _).mono ?_
  rintro e v10 ⟨rfl, hv10⟩
  have zhv10 := hv10.size
  try simp at zhv10
  go_wp2_with fail
  refine (Y.out.K1 _).mono ?_
  rintro e v11 ⟨rfl, hv11⟩
  have zhv11 := hv11.size
  try simp at zhv11
  go_wp2_with fail
  refine (Y.out.K2 _).mono ?_
  rintro e v12 ⟨rfl, hv12⟩
  have zhv12 := hv12.size
  try simp at zhv12
  go_wp2_with fail
  refine (Y.out.K1 _).mono ?_
  rintro e va ⟨rfl, hva⟩
  have zhva := hva.size
  try simp at zhva
  go_wp2_with fail
  refine (K3'.out _).mono ?_
  rintro e vb ⟨rfl, hvb⟩
  have zhvb := hvb.size
  try simp at zhvb
  go_wp2
  go_ret
  exact ⟨ret_bool (by simp), (by repeat' (first | exact G.refl _ | assumption | refine G.alloc ?_ _ | refine G.drew ?_ | refine G.drewN ?_ _ | (refine G.trans ?_ (by assumption))))⟩

set_option maxHeartbeats 1000000 in
theorem neigh_ff_lt (x y U D N P ul uo : Nat) (k : Int) (w : World) (X : AtX x U U D D N P ul uo false false k) (ky : Int) (l : Bool) (E5 : (FloatKind.f64.format.order x x == some .eq) = true) (E6 : (FloatKind.f64.format.order y y == some .eq) = true) (K3 : ∀ w, Calls Tryd.prog 26 #[.float .f64 y] w fun e w' => e = .returned (.int .i64 ky) ∧ G w w') (hk2 : k < ky) (E7 : (FloatKind.f64.format.order x y == some .lt) = l) (E8 : (FloatKind.f64.format.order x y != some .eq) = l) (ht : Tab w) :
    Calls Tryd.prog 5 #[.float .f64 x, .float .f64 y] w fun e w' => e = .returned (.bool true) ∧ G w w' := by
  have hk : ((k : Int) == k) = true := by simp
  have Y : Hid _ := X
  have E1 := X.E1
  have E2 := X.E2
  clear X
  have K3' : Hid _ := K3
  clear K3
  go_enter Tryd.func5, Tryd.ntmps5
  go_wp2_with fail
  refine (Y.out.M _ ht).mono ?_
  rintro e v ⟨rfl, hv⟩
  have zhv := hv.size
  try simp at zhv
  clear ht
  go_wp2_with fail
  refine (Y.out.I1 _).mono ?_
  rintro e v0 ⟨rfl, hv0⟩
  have zhv0 := hv0.size
  try simp at zhv0
  go_wp2_with fail
  refine (Y.out.A1 _).mono ?_
  rintro e v1 ⟨rfl, hv1⟩
  have zhv1 := hv1.size
  try simp at zhv1
  go_wp2_with fail
  refine (Y.out.I2 _).mono ?_
  rintro e v2 ⟨rfl, hv2⟩
  have zhv2 := hv2.size
  try simp at zhv2
  go_wp2_with fail
  refine (Y.out.A2 _).mono ?_
  rintro e v3 ⟨rfl, hv3⟩
  have zhv3 := hv3.size
  try simp at zhv3
  go_wp2_with fail
  refine (Y.out.N1 _).mono ?_
  rintro e v4 ⟨rfl, hv4⟩
  have zhv4 := hv4.size
  try simp at zhv4
  go_wp2_with fail
  refine (Y.out.B1 _).mono ?_
  rintro e v5 ⟨rfl, hv5⟩
  have zhv5 := hv5.size
  try simp at zhv5
  go_wp2_with fail
  refine (Y.out.P1 _).mono ?_
  rintro e v6 ⟨rfl, hv6⟩
  have zhv6 := hv6.size
  try simp at zhv6
  go_wp2_with fail
  refine (Y.out.B2 _).mono ?_
  rintro e v7 ⟨rfl, hv7⟩
  have zhv7 := hv7.size
  try simp at zhv7
  go_wp2_with fail
  refine (Y.out.U1 _).mono ?_
  rintro e v8 ⟨rfl, hv8⟩
  have zhv8 := hv8.size
  try simp at zhv8
  go_wp2_with fail
  refine (Y.out.U2 _).mono ?_
  rintro e v9 ⟨rfl, hv9⟩
  have zhv9 := hv9.size
  try simp at zhv9
  go_wp2_with fail
  refine (Y.out.B3 _).mono ?_
  rintro e v10 ⟨rfl, hv10⟩
  have zhv10 := hv10.size
  try simp at zhv10
  go_wp2_with fail
  refine (Y.out.K1 _).mono ?_
  rintro e v11 ⟨rfl, hv11⟩
  have zhv11 := hv11.size
  try simp at zhv11
  go_wp2_with fail
  refine (Y.out.K2 _).mono ?_
  rintro e v12 ⟨rfl, hv12⟩
  have zhv12 := hv12.size
  try simp at zhv12
  go_wp2_with fail
  refine (Y.out.K1 _).mono ?_
  rintro e va ⟨rfl, hva⟩
  have zhva := hva.size
  try simp at zhva
  go_wp2_with fail
  refine (K3'.out _).mono ?_
  rintro e vb ⟨rfl, hvb⟩
  have zhvb := hvb.size
  try simp at zhvb
  go_wp2
  go_ret
  exact ⟨ret_bool (by simp), (by repeat' (first | exact G.refl _ | assumption | refine G.alloc ?_ _ | refine G.drew ?_ | refine G.drewN ?_ _ | (refine G.trans ?_ (by assumption))))⟩

set_option maxHeartbeats 1000000 in
theorem neigh_ft_nan (x y U D N P ul uo : Nat) (k : Int) (w : World) (X : AtX x U U D 0 N P ul uo false true k) (E5 : (FloatKind.f64.format.order x x == some .eq) = false) (ht : Tab w) :
    Calls Tryd.prog 5 #[.float .f64 x, .float .f64 y] w fun e w' => e = .returned (.bool true) ∧ G w w' := by
  have hk : ((k : Int) == k) = true := by simp
  have Y : Hid _ := X
  have E1 := X.E1
  have E2 := X.E2
  clear X
  go_enter Tryd.func5, Tryd.ntmps5
  go_wp2_with fail
  refine (Y.out.M _ ht).mono ?_
  rintro e v ⟨rfl, hv⟩
  have zhv := hv.size
  try simp at zhv
  clear ht
  go_wp2_with fail
  refine (Y.out.I1 _).mono ?_
  rintro e v0 ⟨rfl, hv0⟩
  have zhv0 := hv0.size
  try simp at zhv0
  go_wp2_with fail
  refine (Y.out.A1 _).mono ?_
  rintro e v1 ⟨rfl, hv1⟩
  have zhv1 := hv1.size
  try simp at zhv1
  go_wp2_with fail
  refine (Y.out.I2 _).mono ?_
  rintro e v2 ⟨rfl, hv2⟩
  have zhv2 := hv2.size
  try simp at zhv2
  go_wp2_with fail
  refine (Y.out.A2 _).mono ?_
  rintro e v3 ⟨rfl, hv3⟩
  have zhv3 := hv3.size
  try simp at zhv3
  go_wp2_with fail
  refine (Y.out.N1 _).mono ?_
  rintro e v4 ⟨rfl, hv4⟩
  have zhv4 := hv4.size
  try simp at zhv4
  go_wp2_with fail
  refine (Y.out.B1 _).mono ?_
  rintro e v5 ⟨rfl, hv5⟩
  have zhv5 := hv5.size
  try simp at zhv5
  go_wp2_with fail
  refine (Y.out.P1 _).mono ?_
  rintro e v6 ⟨rfl, hv6⟩
  have zhv6 := hv6.size
  try simp at zhv6
  go_wp2_with fail
  refine (Y.out.B2 _).mono ?_
  rintro e v7 ⟨rfl, hv7⟩
  have zhv7 := hv7.size
  try simp at zhv7
  go_wp2_with fail
  refine (Y.out.U1 _).mono ?_
  rintro e v8 ⟨rfl, hv8⟩
  have zhv8 := hv8.size
  try simp at zhv8
  go_wp2_with fail
  refine (Y.out.U2 _).mono ?_
  rintro e v9 ⟨rfl, hv9⟩
  have zhv9 := hv9.size
  try simp at zhv9
  go_wp2_with fail
  refine (Y.out.B3 _).mono ?_
  rintro e v10 ⟨rfl, hv10⟩
  have zhv10 := hv10.size
  try simp at zhv10
  go_wp2_with fail
  refine (Y.out.K1 _).mono ?_
  rintro e v11 ⟨rfl, hv11⟩
  have zhv11 := hv11.size
  try simp at zhv11
  go_wp2_with fail
  refine (Y.out.K2 _).mono ?_
  rintro e v12 ⟨rfl, hv12⟩
  have zhv12 := hv12.size
  try simp at zhv12
  go_wp2
  go_ret
  exact ⟨ret_bool (by simp), (by repeat' (first | exact G.refl _ | assumption | refine G.alloc ?_ _ | refine G.drew ?_ | refine G.drewN ?_ _ | (refine G.trans ?_ (by assumption))))⟩

set_option maxHeartbeats 1000000 in
theorem neigh_ft_nany (x y U D N P ul uo : Nat) (k : Int) (w : World) (X : AtX x U U D 0 N P ul uo false true k) (E5 : (FloatKind.f64.format.order x x == some .eq) = true) (E6 : (FloatKind.f64.format.order y y == some .eq) = false) (ht : Tab w) :
    Calls Tryd.prog 5 #[.float .f64 x, .float .f64 y] w fun e w' => e = .returned (.bool true) ∧ G w w' := by
  have hk : ((k : Int) == k) = true := by simp
  have Y : Hid _ := X
  have E1 := X.E1
  have E2 := X.E2
  clear X
  go_enter Tryd.func5, Tryd.ntmps5
  go_wp2_with fail
  refine (Y.out.M _ ht).mono ?_
  rintro e v ⟨rfl, hv⟩
  have zhv := hv.size
  try simp at zhv
  clear ht
  go_wp2_with fail
  refine (Y.out.I1 _).mono ?_
  rintro e v0 ⟨rfl, hv0⟩
  have zhv0 := hv0.size
  try simp at zhv0
  go_wp2_with fail
  refine (Y.out.A1 _).mono ?_
  rintro e v1 ⟨rfl, hv1⟩
  have zhv1 := hv1.size
  try simp at zhv1
  go_wp2_with fail
  refine (Y.out.I2 _).mono ?_
  rintro e v2 ⟨rfl, hv2⟩
  have zhv2 := hv2.size
  try simp at zhv2
  go_wp2_with fail
  refine (Y.out.A2 _).mono ?_
  rintro e v3 ⟨rfl, hv3⟩
  have zhv3 := hv3.size
  try simp at zhv3
  go_wp2_with fail
  refine (Y.out.N1 _).mono ?_
  rintro e v4 ⟨rfl, hv4⟩
  have zhv4 := hv4.size
  try simp at zhv4
  go_wp2_with fail
  refine (Y.out.B1 _).mono ?_
  rintro e v5 ⟨rfl, hv5⟩
  have zhv5 := hv5.size
  try simp at zhv5
  go_wp2_with fail
  refine (Y.out.P1 _).mono ?_
  rintro e v6 ⟨rfl, hv6⟩
  have zhv6 := hv6.size
  try simp at zhv6
  go_wp2_with fail
  refine (Y.out.B2 _).mono ?_
  rintro e v7 ⟨rfl, hv7⟩
  have zhv7 := hv7.size
  try simp at zhv7
  go_wp2_with fail
  refine (Y.out.U1 _).mono ?_
  rintro e v8 ⟨rfl, hv8⟩
  have zhv8 := hv8.size
  try simp at zhv8
  go_wp2_with fail
  refine (Y.out.U2 _).mono ?_
  rintro e v9 ⟨rfl, hv9⟩
  have zhv9 := hv9.size
  try simp at zhv9
  go_wp2_with fail
  refine (Y.out.B3 _).mono ?_
  rintro e v10 ⟨rfl, hv10⟩
  have zhv10 := hv10.size
  try simp at zhv10
  go_wp2_with fail
  refine (Y.out.K1 _).mono ?_
  rintro e v11 ⟨rfl, hv11⟩
  have zhv11 := hv11.size
  try simp at zhv11
  go_wp2_with fail
  refine (Y.out.K2 _).mono ?_
  rintro e v12 ⟨rfl, hv12⟩
  have zhv12 := hv12.size
  try simp at zhv12
  go_wp2
  go_ret
  exact ⟨ret_bool (by simp), (by repeat' (first | exact G.refl _ | assumption | refine G.alloc ?_ _ | refine G.drew ?_ | refine G.drewN ?_ _ | (refine G.trans ?_ (by assumption))))⟩

set_option maxHeartbeats 1000000 in
theorem neigh_ft_ge (x y U D N P ul uo : Nat) (k : Int) (w : World) (X : AtX x U U D 0 N P ul uo false true k) (ky : Int) (E5 : (FloatKind.f64.format.order x x == some .eq) = true) (E6 : (FloatKind.f64.format.order y y == some .eq) = true) (K3 : ∀ w, Calls Tryd.prog 26 #[.float .f64 y] w fun e w' => e = .returned (.int .i64 ky) ∧ G w w') (hk2 : ¬ k < ky) (E7 : (FloatKind.f64.format.order x y == some .lt) = false) (ht : Tab w) :
    Calls Tryd.prog 5 #[.float .f64 x, .float .f64 y] w fun e w' => e = .returned (.bool true) ∧ G w w' := by
  have hk : ((k : Int) == k) = true := by simp
  have Y : Hid _ := X
  have E1 := X.E1
  have E2 := X.E2
  clear X
  have K3' : Hid _ := K3
  clear K3
  go_enter Tryd.func5, Tryd.ntmps5
  go_wp2_with fail
  refine (Y.out.M _ ht).mono ?_
  rintro e v ⟨rfl, hv⟩
  have zhv := hv.size
  try simp at zhv
  clear ht
  go_wp2_with fail
  refine (Y.out.I1 _).mono ?_
  rintro e v0 ⟨rfl, hv0⟩
  have zhv0 := hv0.size
  try simp at zhv0
  go_wp2_with fail
  refine (Y.out.A1 _).mono ?_
  rintro e v1 ⟨rfl, hv1⟩
  have zhv1 := hv1.size
  try simp at zhv1
  go_wp2_with fail
  refine (Y.out.I2 _).mono ?_
  rintro e v2 ⟨rfl, hv2⟩
  have zhv2 := hv2.size
  try simp at zhv2
  go_wp2_with fail
  refine (Y.out.A2 _).mono ?_
  rintro e v3 ⟨rfl, hv3⟩
  have zhv3 := hv3.size
  try simp at zhv3
  go_wp2_with fail
  refine (Y.out.N1 _).mono ?_
  rintro e v4 ⟨rfl, hv4⟩
  have zhv4 := hv4.size
  try simp at zhv4
  go_wp2_with fail
  refine (Y.out.B1 _).mono ?_
  rintro e v5 ⟨rfl, hv5⟩
  have zhv5 := hv5.size
  try simp at zhv5
  go_wp2_with fail
  refine (Y.out.P1 _).mono ?_
  rintro e v6 ⟨rfl, hv6⟩
  have zhv6 := hv6.size
  try simp at zhv6
  go_wp2_with fail
  refine (Y.out.B2 _).mono ?_
  rintro e v7 ⟨rfl, hv7⟩
  have zhv7 := hv7.size
  try simp at zhv7
  go_wp2_with fail
  refine (Y.out.U1 _).mono ?_
  rintro e v8 ⟨rfl, hv8⟩
  have zhv8 := hv8.size
  try simp at zhv8
  go_wp2_with fail
  refine (Y.out.U2 _).mono ?_
  rintro e v9 ⟨rfl, hv9⟩
  have zhv9 := hv9.size
  try simp at zhv9
  go_wp2_with fail
  refine (Y.out.B3 _).mono ?_
  rintro e v10 ⟨rfl, hv10⟩
  have zhv10 := hv10.size
  try simp at zhv10
  go_wp2_with fail
  refine (Y.out.K1 _).mono ?_
  rintro e v11 ⟨rfl, hv11⟩
  have zhv11 := hv11.size
  try simp at zhv11
  go_wp2_with fail
  refine (Y.out.K2 _).mono ?_
  rintro e v12 ⟨rfl, hv12⟩
  have zhv12 := hv12.size
  try simp at zhv12
  go_wp2_with fail
  refine (Y.out.K1 _).mono ?_
  rintro e va ⟨rfl, hva⟩
  have zhva := hva.size
  try simp at zhva
  go_wp2_with fail
  refine (K3'.out _).mono ?_
  rintro e vb ⟨rfl, hvb⟩
  have zhvb := hvb.size
  try simp at zhvb
  go_wp2
  go_ret
  exact ⟨ret_bool (by simp), (by repeat' (first | exact G.refl _ | assumption | refine G.alloc ?_ _ | refine G.drew ?_ | refine G.drewN ?_ _ | (refine G.trans ?_ (by assumption))))⟩

set_option maxHeartbeats 1000000 in
theorem neigh_ft_lt (x y U D N P ul uo : Nat) (k : Int) (w : World) (X : AtX x U U D 0 N P ul uo false true k) (ky : Int) (l : Bool) (E5 : (FloatKind.f64.format.order x x == some .eq) = true) (E6 : (FloatKind.f64.format.order y y == some .eq) = true) (K3 : ∀ w, Calls Tryd.prog 26 #[.float .f64 y] w fun e w' => e = .returned (.int .i64 ky) ∧ G w w') (hk2 : k < ky) (E7 : (FloatKind.f64.format.order x y == some .lt) = l) (E8 : (FloatKind.f64.format.order x y != some .eq) = l) (ht : Tab w) :
    Calls Tryd.prog 5 #[.float .f64 x, .float .f64 y] w fun e w' => e = .returned (.bool true) ∧ G w w' := by
  have hk : ((k : Int) == k) = true := by simp
  have Y : Hid _ := X
  have E1 := X.E1
  have E2 := X.E2
  clear X
  have K3' : Hid _ := K3
  clear K3
  go_enter Tryd.func5, Tryd.ntmps5
  go_wp2_with fail
  refine (Y.out.M _ ht).mono ?_
  rintro e v ⟨rfl, hv⟩
  have zhv := hv.size
  try simp at zhv
  clear ht
  go_wp2_with fail
  refine (Y.out.I1 _).mono ?_
  rintro e v0 ⟨rfl, hv0⟩
  have zhv0 := hv0.size
  try simp at zhv0
  go_wp2_with fail
  refine (Y.out.A1 _).mono ?_
  rintro e v1 ⟨rfl, hv1⟩
  have zhv1 := hv1.size
  try simp at zhv1
  go_wp2_with fail
  refine (Y.out.I2 _).mono ?_
  rintro e v2 ⟨rfl, hv2⟩
  have zhv2 := hv2.size
  try simp at zhv2
  go_wp2_with fail
  refine (Y.out.A2 _).mono ?_
  rintro e v3 ⟨rfl, hv3⟩
  have zhv3 := hv3.size
  try simp at zhv3
  go_wp2_with fail
  refine (Y.out.N1 _).mono ?_
  rintro e v4 ⟨rfl, hv4⟩
  have zhv4 := hv4.size
  try simp at zhv4
  go_wp2_with fail
  refine (Y.out.B1 _).mono ?_
  rintro e v5 ⟨rfl, hv5⟩
  have zhv5 := hv5.size
  try simp at zhv5
  go_wp2_with fail
  refine (Y.out.P1 _).mono ?_
  rintro e v6 ⟨rfl, hv6⟩
  have zhv6 := hv6.size
  try simp at zhv6
  go_wp2_with fail
  refine (Y.out.B2 _).mono ?_
  rintro e v7 ⟨rfl, hv7⟩
  have zhv7 := hv7.size
  try simp at zhv7
  go_wp2_with fail
  refine (Y.out.U1 _).mono ?_
  rintro e v8 ⟨rfl, hv8⟩
  have zhv8 := hv8.size
  try simp at zhv8
  go_wp2_with fail
  refine (Y.out.U2 _).mono ?_
  rintro e v9 ⟨rfl, hv9⟩
  have zhv9 := hv9.size
  try simp at zhv9
  go_wp2_with fail
  refine (Y.out.B3 _).mono ?_
  rintro e v10 ⟨rfl, hv10⟩
  have zhv10 := hv10.size
  try simp at zhv10
  go_wp2_with fail
  refine (Y.out.K1 _).mono ?_
  rintro e v11 ⟨rfl, hv11⟩
  have zhv11 := hv11.size
  try simp at zhv11
  go_wp2_with fail
  refine (Y.out.K2 _).mono ?_
  rintro e v12 ⟨rfl, hv12⟩
  have zhv12 := hv12.size
  try simp at zhv12
  go_wp2_with fail
  refine (Y.out.K1 _).mono ?_
  rintro e va ⟨rfl, hva⟩
  have zhva := hva.size
  try simp at zhva
  go_wp2_with fail
  refine (K3'.out _).mono ?_
  rintro e vb ⟨rfl, hvb⟩
  have zhvb := hvb.size
  try simp at zhvb
  go_wp2
  go_ret
  exact ⟨ret_bool (by simp), (by repeat' (first | exact G.refl _ | assumption | refine G.alloc ?_ _ | refine G.drew ?_ | refine G.drewN ?_ _ | (refine G.trans ?_ (by assumption))))⟩

set_option maxHeartbeats 1000000 in
theorem neigh_tf_nan (x y U D N P ul uo : Nat) (k : Int) (w : World) (X : AtX x U 9223372036854775808 D D N P ul uo true false k) (E5 : (FloatKind.f64.format.order x x == some .eq) = false) (ht : Tab w) :
    Calls Tryd.prog 5 #[.float .f64 x, .float .f64 y] w fun e w' => e = .returned (.bool true) ∧ G w w' := by
  have hk : ((k : Int) == k) = true := by simp
  have Y : Hid _ := X
  have E1 := X.E1
  have E2 := X.E2
  clear X
  go_enter Tryd.func5, Tryd.ntmps5
  go_wp2_with fail
  refine (Y.out.M _ ht).mono ?_
  rintro e v ⟨rfl, hv⟩
  have zhv := hv.size
  try simp at zhv
  clear ht
  go_wp2_with fail
  refine (Y.out.I1 _).mono ?_
  rintro e v0 ⟨rfl, hv0⟩
  have zhv0 := hv0.size
  try simp at zhv0
  go_wp2_with fail
  refine (Y.out.A1 _).mono ?_
  rintro e v1 ⟨rfl, hv1⟩
  have zhv1 := hv1.size
  try simp at zhv1
  go_wp2_with fail
  refine (Y.out.I2 _).mono ?_
  rintro e v2 ⟨rfl, hv2⟩
  have zhv2 := hv2.size
  try simp at zhv2
  go_wp2_with fail
  refine (Y.out.A2 _).mono ?_
  rintro e v3 ⟨rfl, hv3⟩
  have zhv3 := hv3.size
  try simp at zhv3
  go_wp2_with fail
  refine (Y.out.CS _).mono ?_
  rintro e v4 ⟨rfl, hv4⟩
  have zhv4 := hv4.size
  try simp at zhv4
  go_wp2_with fail
  refine (Y.out.N1 _).mono ?_
  rintro e v5 ⟨rfl, hv5⟩
  have zhv5 := hv5.size
  try simp at zhv5
  go_wp2_with fail
  refine (Y.out.B1 _).mono ?_
  rintro e v6 ⟨rfl, hv6⟩
  have zhv6 := hv6.size
  try simp at zhv6
  go_wp2_with fail
  refine (Y.out.P1 _).mono ?_
  rintro e v7 ⟨rfl, hv7⟩
  have zhv7 := hv7.size
  try simp at zhv7
  go_wp2_with fail
  refine (Y.out.B2 _).mono ?_
  rintro e v8 ⟨rfl, hv8⟩
  have zhv8 := hv8.size
  try simp at zhv8
  go_wp2_with fail
  refine (Y.out.U1 _).mono ?_
  rintro e v9 ⟨rfl, hv9⟩
  have zhv9 := hv9.size
  try simp at zhv9
  go_wp2_with fail
  refine (Y.out.U2 _).mono ?_
  rintro e v10 ⟨rfl, hv10⟩
  have zhv10 := hv10.size
  try simp at zhv10
  go_wp2_with fail
  refine (Y.out.B3 _).mono ?_
  rintro e v11 ⟨rfl, hv11⟩
  have zhv11 := hv11.size
  try simp at zhv11
  go_wp2_with fail
  refine (Y.out.K1 _).mono ?_
  rintro e v12 ⟨rfl, hv12⟩
  have zhv12 := hv12.size
  try simp at zhv12
  go_wp2_with fail
  refine (Y.out.K2 _).mono ?_
  rintro e v13 ⟨rfl, hv13⟩
  have zhv13 := hv13.size
  try simp at zhv13
  go_wp2
  go_ret
  exact ⟨ret_bool (by simp), (by repeat' (first | exact G.refl _ | assumption | refine G.alloc ?_ _ | refine G.drew ?_ | refine G.drewN ?_ _ | (refine G.trans ?_ (by assumption))))⟩

set_option maxHeartbeats 1000000 in
theorem neigh_tf_nany (x y U D N P ul uo : Nat) (k : Int) (w : World) (X : AtX x U 9223372036854775808 D D N P ul uo true false k) (E5 : (FloatKind.f64.format.order x x == some .eq) = true) (E6 : (FloatKind.f64.format.order y y == some .eq) = false) (ht : Tab w) :
    Calls Tryd.prog 5 #[.float .f64 x, .float .f64 y] w fun e w' => e = .returned (.bool true) ∧ G w w' := by
  have hk : ((k : Int) == k) = true := by simp
  have Y : Hid _ := X
  have E1 := X.E1
  have E2 := X.E2
  clear X
  go_enter Tryd.func5, Tryd.ntmps5
  go_wp2_with fail
  refine (Y.out.M _ ht).mono ?_
  rintro e v ⟨rfl, hv⟩
  have zhv := hv.size
  try simp at zhv
  clear ht
  go_wp2_with fail
  refine (Y.out.I1 _).mono ?_
  rintro e v0 ⟨rfl, hv0⟩
  have zhv0 := hv0.size
  try simp at zhv0
  go_wp2_with fail
  refine (Y.out.A1 _).mono ?_
  rintro e v1 ⟨rfl, hv1⟩
  have zhv1 := hv1.size
  try simp at zhv1
  go_wp2_with fail
  refine (Y.out.I2 _).mono ?_
  rintro e v2 ⟨rfl, hv2⟩
  have zhv2 := hv2.size
  try simp at zhv2
  go_wp2_with fail
  refine (Y.out.A2 _).mono ?_
  rintro e v3 ⟨rfl, hv3⟩
  have zhv3 := hv3.size
  try simp at zhv3
  go_wp2_with fail
  refine (Y.out.CS _).mono ?_
  rintro e v4 ⟨rfl, hv4⟩
  have zhv4 := hv4.size
  try simp at zhv4
  go_wp2_with fail
  refine (Y.out.N1 _).mono ?_
  rintro e v5 ⟨rfl, hv5⟩
  have zhv5 := hv5.size
  try simp at zhv5
  go_wp2_with fail
  refine (Y.out.B1 _).mono ?_
  rintro e v6 ⟨rfl, hv6⟩
  have zhv6 := hv6.size
  try simp at zhv6
  go_wp2_with fail
  refine (Y.out.P1 _).mono ?_
  rintro e v7 ⟨rfl, hv7⟩
  have zhv7 := hv7.size
  try simp at zhv7
  go_wp2_with fail
  refine (Y.out.B2 _).mono ?_
  rintro e v8 ⟨rfl, hv8⟩
  have zhv8 := hv8.size
  try simp at zhv8
  go_wp2_with fail
  refine (Y.out.U1 _).mono ?_
  rintro e v9 ⟨rfl, hv9⟩
  have zhv9 := hv9.size
  try simp at zhv9
  go_wp2_with fail
  refine (Y.out.U2 _).mono ?_
  rintro e v10 ⟨rfl, hv10⟩
  have zhv10 := hv10.size
  try simp at zhv10
  go_wp2_with fail
  refine (Y.out.B3 _).mono ?_
  rintro e v11 ⟨rfl, hv11⟩
  have zhv11 := hv11.size
  try simp at zhv11
  go_wp2_with fail
  refine (Y.out.K1 _).mono ?_
  rintro e v12 ⟨rfl, hv12⟩
  have zhv12 := hv12.size
  try simp at zhv12
  go_wp2_with fail
  refine (Y.out.K2 _).mono ?_
  rintro e v13 ⟨rfl, hv13⟩
  have zhv13 := hv13.size
  try simp at zhv13
  go_wp2
  go_ret
  exact ⟨ret_bool (by simp), (by repeat' (first | exact G.refl _ | assumption | refine G.alloc ?_ _ | refine G.drew ?_ | refine G.drewN ?_ _ | (refine G.trans ?_ (by assumption))))⟩

set_option maxHeartbeats 1000000 in
theorem neigh_tf_ge (x y U D N P ul uo : Nat) (k : Int) (w : World) (X : AtX x U 9223372036854775808 D D N P ul uo true false k) (ky : Int) (E5 : (FloatKind.f64.format.order x x == some .eq) = true) (E6 : (FloatKind.f64.format.order y y == some .eq) = true) (K3 : ∀ w, Calls Tryd.prog 26 #[.float .f64 y] w fun e w' => e = .returned (.int .i64 ky) ∧ G w w') (hk2 : ¬ k < ky) (E7 : (FloatKind.f64.format.order x y == some .lt) = false) (ht : Tab w) :
    Calls Tryd.prog 5 #[.float .f64 x, .float .f64 y] w fun e w' => e = .returned (.bool true) ∧ G w w' := by
  have hk : ((k : Int) == k) = true := by simp
  have Y : Hid _ := X
  have E1 := X.E1
  have E2 := X.E2
  clear X
  have K3' : Hid _ := K3
  clear K3
  go_enter Tryd.func5, Tryd.ntmps5
  go_wp2_with fail
  refine (Y.out.M _ ht).mono ?_
  rintro e v ⟨rfl, hv⟩
  have zhv := hv.size
  try simp at zhv
  clear ht
  go_wp2_with fail
  refine (Y.out.I1 _).mono ?_
  rintro e v0 ⟨rfl, hv0⟩
  have zhv0 := hv0.size
  try simp at zhv0
  go_wp2_with fail
  refine (Y.out.A1 _).mono ?_
  rintro e v1 ⟨rfl, hv1⟩
  have zhv1 := hv1.size
  try simp at zhv1
  go_wp2_with fail
  refine (Y.out.I2 _).mono ?_
  rintro e v2 ⟨rfl, hv2⟩
  have zhv2 := hv2.size
  try simp at zhv2
  go_wp2_with fail
  refine (Y.out.A2 _).mono ?_
  rintro e v3 ⟨rfl, hv3⟩
  have zhv3 := hv3.size
  try simp at zhv3
  go_wp2_with fail
  refine (Y.out.CS _).mono ?_
  rintro e v4 ⟨rfl, hv4⟩
  have zhv4 := hv4.size
  try simp at zhv4
  go_wp2_with fail
  refine (Y.out.N1 _).mono ?_
  rintro e v5 ⟨rfl, hv5⟩
  have zhv5 := hv5.size
  try simp at zhv5
  go_wp2_with fail
  refine (Y.out.B1 _).mono ?_
  rintro e v6 ⟨rfl, hv6⟩
  have zhv6 := hv6.size
  try simp at zhv6
  go_wp2_with fail
  refine (Y.out.P1 _).mono ?_
  rintro e v7 ⟨rfl, hv7⟩
  have zhv7 := hv7.size
  try simp at zhv7
  go_wp2_with fail
  refine (Y.out.B2 _).mono ?_
  rintro e v8 ⟨rfl, hv8⟩
  have zhv8 := hv8.size
  try simp at zhv8
  go_wp2_with fail
  refine (Y.out.U1 _).mono ?_
  rintro e v9 ⟨rfl, hv9⟩
  have zhv9 := hv9.size
  try simp at zhv9
  go_wp2_with fail
  refine (Y.out.U2 _).mono ?_
  rintro e v10 ⟨rfl, hv10⟩
  have zhv10 := hv10.size
  try simp at zhv10
  go_wp2_with fail
  refine (Y.out.B3 _).mono ?_
  rintro e v11 ⟨rfl, hv11⟩
  have zhv11 := hv11.size
  try simp at zhv11
  go_wp2_with fail
  refine (Y.out.K1 _).mono ?_
  rintro e v12 ⟨rfl, hv12⟩
  have zhv12 := hv12.size
  try simp at zhv12
  go_wp2_with fail
  refine (Y.out.K2 _).mono ?_
  rintro e v13 ⟨rfl, hv13⟩
  have zhv13 := hv13.size
  try simp at zhv13
  go_wp2_with fail
  refine (Y.out.K1 _).mono ?_
  rintro e va ⟨rfl, hva⟩
  have zhva := hva.size
  try simp at zhva
  go_wp2_with fail
  refine (K3'.out _).mono ?_
  rintro e vb ⟨rfl, hvb⟩
  have zhvb := hvb.size
  try simp at zhvb
  go_wp2
  go_ret
  exact ⟨ret_bool (by simp), (by repeat' (first | exact G.refl _ | assumption | refine G.alloc ?_ _ | refine G.drew ?_ | refine G.drewN ?_ _ | (refine G.trans ?_ (by assumption))))⟩

set_option maxHeartbeats 1000000 in
theorem neigh_tf_lt (x y U D N P ul uo : Nat) (k : Int) (w : World) (X : AtX x U 9223372036854775808 D D N P ul uo true false k) (ky : Int) (l : Bool) (E5 : (FloatKind.f64.format.order x x == some .eq) = true) (E6 : (FloatKind.f64.format.order y y == some .eq) = true) (K3 : ∀ w, Calls Tryd.prog 26 #[.float .f64 y] w fun e w' => e = .returned (.int .i64 ky) ∧ G w w') (hk2 : k < ky) (E7 : (FloatKind.f64.format.order x y == some .lt) = l) (E8 : (FloatKind.f64.format.order x y != some .eq) = l) (ht : Tab w) :
    Calls Tryd.prog 5 #[.float .f64 x, .float .f64 y] w fun e w' => e = .returned (.bool true) ∧ G w w' := by
  have hk : ((k : Int) == k) = true := by simp
  have Y : Hid _ := X
  have E1 := X.E1
  have E2 := X.E2
  clear X
  have K3' : Hid _ := K3
  clear K3
  go_enter Tryd.func5, Tryd.ntmps5
  go_wp2_with fail
  refine (Y.out.M _ ht).mono ?_
  rintro e v ⟨rfl, hv⟩
  have zhv := hv.size
  try simp at zhv
  clear ht
  go_wp2_with fail
  refine (Y.out.I1 _).mono ?_
  rintro e v0 ⟨rfl, hv0⟩
  have zhv0 := hv0.size
  try simp at zhv0
  go_wp2_with fail
  refine (Y.out.A1 _).mono ?_
  rintro e v1 ⟨rfl, hv1⟩
  have zhv1 := hv1.size
  try simp at zhv1
  go_wp2_with fail
  refine (Y.out.I2 _).mono ?_
  rintro e v2 ⟨rfl, hv2⟩
  have zhv2 := hv2.size
  try simp at zhv2
  go_wp2_with fail
  refine (Y.out.A2 _).mono ?_
  rintro e v3 ⟨rfl, hv3⟩
  have zhv3 := hv3.size
  try simp at zhv3
  go_wp2_with fail
  refine (Y.out.CS _).mono ?_
  rintro e v4 ⟨rfl, hv4⟩
  have zhv4 := hv4.size
  try simp at zhv4
  go_wp2_with fail
  refine (Y.out.N1 _).mono ?_
  rintro e v5 ⟨rfl, hv5⟩
  have zhv5 := hv5.size
  try simp at zhv5
  go_wp2_with fail
  refine (Y.out.B1 _).mono ?_
  rintro e v6 ⟨rfl, hv6⟩
  have zhv6 := hv6.size
  try simp at zhv6
  go_wp2_with fail
  refine (Y.out.P1 _).mono ?_
  rintro e v7 ⟨rfl, hv7⟩
  have zhv7 := hv7.size
  try simp at zhv7
  go_wp2_with fail
  refine (Y.out.B2 _).mono ?_
  rintro e v8 ⟨rfl, hv8⟩
  have zhv8 := hv8.size
  try simp at zhv8
  go_wp2_with fail
  refine (Y.out.U1 _).mono ?_
  rintro e v9 ⟨rfl, hv9⟩
  have zhv9 := hv9.size
  try simp at zhv9
  go_wp2_with fail
  refine (Y.out.U2 _).mono ?_
  rintro e v10 ⟨rfl, hv10⟩
  have zhv10 := hv10.size
  try simp at zhv10
  go_wp2_with fail
  refine (Y.out.B3 _).mono ?_
  rintro e v11 ⟨rfl, hv11⟩
  have zhv11 := hv11.size
  try simp at zhv11
  go_wp2_with fail
  refine (Y.out.K1 _).mono ?_
  rintro e v12 ⟨rfl, hv12⟩
  have zhv12 := hv12.size
  try simp at zhv12
  go_wp2_with fail
  refine (Y.out.K2 _).mono ?_
  rintro e v13 ⟨rfl, hv13⟩
  have zhv13 := hv13.size
  try simp at zhv13
  go_wp2_with fail
  refine (Y.out.K1 _).mono ?_
  rintro e va ⟨rfl, hva⟩
  have zhva := hva.size
  try simp at zhva
  go_wp2_with fail
  refine (K3'.out _).mono ?_
  rintro e vb ⟨rfl, hvb⟩
  have zhvb := hvb.size
  try simp at zhvb
  go_wp2
  go_ret
  exact ⟨ret_bool (by simp), (by repeat' (first | exact G.refl _ | assumption | refine G.alloc ?_ _ | refine G.drew ?_ | refine G.drewN ?_ _ | (refine G.trans ?_ (by assumption))))⟩

set_option maxHeartbeats 1000000 in
theorem neigh_tt_nan (x y U D N P ul uo : Nat) (k : Int) (w : World) (X : AtX x U 9223372036854775808 D 0 N P ul uo true true k) (E5 : (FloatKind.f64.format.order x x == some .eq) = false) (ht : Tab w) :
    Calls Tryd.prog 5 #[.float .f64 x, .float .f64 y] w fun e w' => e = .returned (.bool true) ∧ G w w' := by
  have hk : ((k : Int) == k) = true := by simp
  have Y : Hid _ := X
  have E1 := X.E1
  have E2 := X.E2
  clear X
  go_enter Tryd.func5, Tryd.ntmps5
  go_wp2_with fail
  refine (Y.out.M _ ht).mono ?_
  rintro e v ⟨rfl, hv⟩
  have zhv := hv.size
  try simp at zhv
  clear ht
  go_wp2_with fail
  refine (Y.out.I1 _).mono ?_
  rintro e v0 ⟨rfl, hv0⟩
  have zhv0 := hv0.size
  try simp at zhv0
  go_wp2_with fail
  refine (Y.out.A1 _).mono ?_
  rintro e v1 ⟨rfl, hv1⟩
  have zhv1 := hv1.size
  try simp at zhv1
  go_wp2_with fail
  refine (Y.out.I2 _).mono ?_
  rintro e v2 ⟨rfl, hv2⟩
  have zhv2 := hv2.size
  try simp at zhv2
  go_wp2_with fail
  refine (Y.out.A2 _).mono ?_
  rintro e v3 ⟨rfl, hv3⟩
  have zhv3 := hv3.size
  try simp at zhv3
  go_wp2_with fail
  refine (Y.out.CS _).mono ?_
  rintro e v4 ⟨rfl, hv4⟩
  have zhv4 := hv4.size
  try simp at zhv4
  go_wp2_with fail
  refine (Y.out.N1 _).mono ?_
  rintro e v5 ⟨rfl, hv5⟩
  have zhv5 := hv5.size
  try simp at zhv5
  go_wp2_with fail
  refine (Y.out.B1 _).mono ?_
  rintro e v6 ⟨rfl, hv6⟩
  have zhv6 := hv6.size
  try simp at zhv6
  go_wp2_with fail
  refine (Y.out.P1 _).mono ?_
  rintro e v7 ⟨rfl, hv7⟩
  have zhv7 := hv7.size
  try simp at zhv7
  go_wp2_with fail
  refine (Y.out.B2 _).mono ?_
  rintro e v8 ⟨rfl, hv8⟩
  have zhv8 := hv8.size
  try simp at zhv8
  go_wp2_with fail
  refine (Y.out.U1 _).mono ?_
  rintro e v9 ⟨rfl, hv9⟩
  have zhv9 := hv9.size
  try simp at zhv9
  go_wp2_with fail
  refine (Y.out.U2 _).mono ?_
  rintro e v10 ⟨rfl, hv10⟩
  have zhv10 := hv10.size
  try simp at zhv10
  go_wp2_with fail
  refine (Y.out.B3 _).mono ?_
  rintro e v11 ⟨rfl, hv11⟩
  have zhv11 := hv11.size
  try simp at zhv11
  go_wp2_with fail
  refine (Y.out.K1 _).mono ?_
  rintro e v12 ⟨rfl, hv12⟩
  have zhv12 := hv12.size
  try simp at zhv12
  go_wp2_with fail
  refine (Y.out.K2 _).mono ?_
  rintro e v13 ⟨rfl, hv13⟩
  have zhv13 := hv13.size
  try simp at zhv13
  go_wp2
  go_ret
  exact ⟨ret_bool (by simp), (by repeat' (first | exact G.refl _ | assumption | refine G.alloc ?_ _ | refine G.drew ?_ | refine G.drewN ?_ _ | (refine G.trans ?_ (by assumption))))⟩

set_option maxHeartbeats 1000000 in
theorem neigh_tt_nany (x y U D N P ul uo : Nat) (k : Int) (w : World) (X : AtX x U 9223372036854775808 D 0 N P ul uo true true k) (E5 : (FloatKind.f64.format.order x x == some .eq) = true) (E6 : (FloatKind.f64.format.order y y == some .eq) = false) (ht : Tab w) :
    Calls Tryd.prog 5 #[.float .f64 x, .float .f64 y] w fun e w' => e = .returned (.bool true) ∧ G w w' := by
  have hk : ((k : Int) == k) = true := by simp
  have Y : Hid _ := X
  have E1 := X.E1
  have E2 := X.E2
  clear X
  go_enter Tryd.func5, Tryd.ntmps5
  go_wp2_with fail
  refine (Y.out.M _ ht).mono ?_
  rintro e v ⟨rfl, hv⟩
  have zhv := hv.size
  try simp at zhv
  clear ht
  go_wp2_with fail
  refine (Y.out.I1 _).mono ?_
  rintro e v0 ⟨rfl, hv0⟩
  have zhv0 := hv0.size
  try simp at zhv0
  go_wp2_with fail
  refine (Y.out.A1 _).mono ?_
  rintro e v1 ⟨rfl, hv1⟩
  have zhv1 := hv1.size
  try simp at zhv1
  go_wp2_with fail
  refine (Y.out.I2 _).mono ?_
  rintro e v2 ⟨rfl, hv2⟩
  have zhv2 := hv2.size
  try simp at zhv2
  go_wp2_with fail
  refine (Y.out.A2 _).mono ?_
  rintro e v3 ⟨rfl, hv3⟩
  have zhv3 := hv3.size
  try simp at zhv3
  go_wp2_with fail
  refine (Y.out.CS _).mono ?_
  rintro e v4 ⟨rfl, hv4⟩
  have zhv4 := hv4.size
  try simp at zhv4
  go_wp2_with fail
  refine (Y.out.N1 _).mono ?_
  rintro e v5 ⟨rfl, hv5⟩
  have zhv5 := hv5.size
  try simp at zhv5
  go_wp2_with fail
  refine (Y.out.B1 _).mono ?_
  rintro e v6 ⟨rfl, hv6⟩
  have zhv6 := hv6.size
  try simp at zhv6
  go_wp2_with fail
  refine (Y.out.P1 _).mono ?_
  rintro e v7 ⟨rfl, hv7⟩
  have zhv7 := hv7.size
  try simp at zhv7
  go_wp2_with fail
  refine (Y.out.B2 _).mono ?_
  rintro e v8 ⟨rfl, hv8⟩
  have zhv8 := hv8.size
  try simp at zhv8
  go_wp2_with fail
  refine (Y.out.U1 _).mono ?_
  rintro e v9 ⟨rfl, hv9⟩
  have zhv9 := hv9.size
  try simp at zhv9
  go_wp2_with fail
  refine (Y.out.U2 _).mono ?_
  rintro e v10 ⟨rfl, hv10⟩
  have zhv10 := hv10.size
  try simp at zhv10
  go_wp2_with fail
  refine (Y.out.B3 _).mono ?_
  rintro e v11 ⟨rfl, hv11⟩
  have zhv11 := hv11.size
  try simp at zhv11
  go_wp2_with fail
  refine (Y.out.K1 _).mono ?_
  rintro e v12 ⟨rfl, hv12⟩
  have zhv12 := hv12.size
  try simp at zhv12
  go_wp2_with fail
  refine (Y.out.K2 _).mono ?_
  rintro e v13 ⟨rfl, hv13⟩
  have zhv13 := hv13.size
  try simp at zhv13
  go_wp2
  go_ret
  exact ⟨ret_bool (by simp), (by repeat' (first | exact G.refl _ | assumption | refine G.alloc ?_ _ | refine G.drew ?_ | refine G.drewN ?_ _ | (refine G.trans ?_ (by assumption))))⟩

set_option maxHeartbeats 1000000 in
theorem neigh_tt_ge (x y U D N P ul uo : Nat) (k : Int) (w : World) (X : AtX x U 9223372036854775808 D 0 N P ul uo true true k) (ky : Int) (E5 : (FloatKind.f64.format.order x x == some .eq) = true) (E6 : (FloatKind.f64.format.order y y == some .eq) = true) (K3 : ∀ w, Calls Tryd.prog 26 #[.float .f64 y] w fun e w' => e = .returned (.int .i64 ky) ∧ G w w') (hk2 : ¬ k < ky) (E7 : (FloatKind.f64.format.order x y == some .lt) = false) (ht : Tab w) :
    Calls Tryd.prog 5 #[.float .f64 x, .float .f64 y] w fun e w' => e = .returned (.bool true) ∧ G w w' := by
  have hk : ((k : Int) == k) = true := by simp
  have Y : Hid _ := X
  have E1 := X.E1
  have E2 := X.E2
  clear X
  have K3' : Hid _ := K3
  clear K3
  go_enter Tryd.func5, Tryd.ntmps5
  go_wp2_with fail
  refine (Y.out.M _ ht).mono ?_
  rintro e v ⟨rfl, hv⟩
  have zhv := hv.size
  try simp at zhv
  clear ht
  go_wp2_with fail
  refine (Y.out.I1 _).mono ?_
  rintro e v0 ⟨rfl, hv0⟩
  have zhv0 := hv0.size
  try simp at zhv0
  go_wp2_with fail
  refine (Y.out.A1 _).mono ?_
  rintro e v1 ⟨rfl, hv1⟩
  have zhv1 := hv1.size
  try simp at zhv1
  go_wp2_with fail
  refine (Y.out.I2 _).mono ?_
  rintro e v2 ⟨rfl, hv2⟩
  have zhv2 := hv2.size
  try simp at zhv2
  go_wp2_with fail
  refine (Y.out.A2 _).mono ?_
  rintro e v3 ⟨rfl, hv3⟩
  have zhv3 := hv3.size
  try simp at zhv3
  go_wp2_with fail
  refine (Y.out.CS _).mono ?_
  rintro e v4 ⟨rfl, hv4⟩
  have zhv4 := hv4.size
  try simp at zhv4
  go_wp2_with fail
  refine (Y.out.N1 _).mono ?_
  rintro e v5 ⟨rfl, hv5⟩
  have zhv5 := hv5.size
  try simp at zhv5
  go_wp2_with fail
  refine (Y.out.B1 _).mono ?_
  rintro e v6 ⟨rfl, hv6⟩
  have zhv6 := hv6.size
  try simp at zhv6
  go_wp2_with fail
  refine (Y.out.P1 _).mono ?_
  rintro e v7 ⟨rfl, hv7⟩
  have zhv7 := hv7.size
  try simp at zhv7
  go_wp2_with fail
  refine (Y.out.B2 _).mono ?_
  rintro e v8 ⟨rfl, hv8⟩
  have zhv8 := hv8.size
  try simp at zhv8
  go_wp2_with fail
  refine (Y.out.U1 _).mono ?_
  rintro e v9 ⟨rfl, hv9⟩
  have zhv9 := hv9.size
  try simp at zhv9
  go_wp2_with fail
  refine (Y.out.U2 _).mono ?_
  rintro e v10 ⟨rfl, hv10⟩
  have zhv10 := hv10.size
  try simp at zhv10
  go_wp2_with fail
  refine (Y.out.B3 _).mono ?_
  rintro e v11 ⟨rfl, hv11⟩
  have zhv11 := hv11.size
  try simp at zhv11
  go_wp2_with fail
  refine (Y.out.K1 _).mono ?_
  rintro e v12 ⟨rfl, hv12⟩
  have zhv12 := hv12.size
  try simp at zhv12
  go_wp2_with fail
  refine (Y.out.K2 _).mono ?_
  rintro e v13 ⟨rfl, hv13⟩
  have zhv13 := hv13.size
  try simp at zhv13
  go_wp2_with fail
  refine (Y.out.K1 _).mono ?_
  rintro e va ⟨rfl, hva⟩
  have zhva := hva.size
  try simp at zhva
  go_wp2_with fail
  refine (K3'.out _).mono ?_
  rintro e vb ⟨rfl, hvb⟩
  have zhvb := hvb.size
  try simp at zhvb
  go_wp2
  go_ret
  exact ⟨ret_bool (by simp), (by repeat' (first | exact G.refl _ | assumption | refine G.alloc ?_ _ | refine G.drew ?_ | refine G.drewN ?_ _ | (refine G.trans ?_ (by assumption))))⟩

set_option maxHeartbeats 1000000 in
theorem neigh_tt_lt (x y U D N P ul uo : Nat) (k : Int) (w : World) (X : AtX x U 9223372036854775808 D 0 N P ul uo true true k) (ky : Int) (l : Bool) (E5 : (FloatKind.f64.format.order x x == some .eq) = true) (E6 : (FloatKind.f64.format.order y y == some .eq) = true) (K3 : ∀ w, Calls Tryd.prog 26 #[.float .f64 y] w fun e w' => e = .returned (.int .i64 ky) ∧ G w w') (hk2 : k < ky) (E7 : (FloatKind.f64.format.order x y == some .lt) = l) (E8 : (FloatKind.f64.format.order x y != some .eq) = l) (ht : Tab w) :
    Calls Tryd.prog 5 #[.float .f64 x, .float .f64 y] w fun e w' => e = .returned (.bool true) ∧ G w w' := by
  have hk : ((k : Int) == k) = true := by simp
  have Y : Hid _ := X
  have E1 := X.E1
  have E2 := X.E2
  clear X
  have K3' : Hid _ := K3
  clear K3
  go_enter Tryd.func5, Tryd.ntmps5
  go_wp2_with fail
  refine (Y.out.M _ ht).mono ?_
  rintro e v ⟨rfl, hv⟩
  have zhv := hv.size
  try simp at zhv
  clear ht
  go_wp2_with fail
  refine (Y.out.I1 _).mono ?_
  rintro e v0 ⟨rfl, hv0⟩
  have zhv0 := hv0.size
  try simp at zhv0
  go_wp2_with fail
  refine (Y.out.A1 _).mono ?_
  rintro e v1 ⟨rfl, hv1⟩
  have zhv1 := hv1.size
  try simp at zhv1
  go_wp2_with fail
  refine (Y.out.I2 _).mono ?_
  rintro e v2 ⟨rfl, hv2⟩
  have zhv2 := hv2.size
  try simp at zhv2
  go_wp2_with fail
  refine (Y.out.A2 _).mono ?_
  rintro e v3 ⟨rfl, hv3⟩
  have zhv3 := hv3.size
  try simp at zhv3
  go_wp2_with fail
  refine (Y.out.CS _).mono ?_
  rintro e v4 ⟨rfl, hv4⟩
  have zhv4 := hv4.size
  try simp at zhv4
  go_wp2_with fail
  refine (Y.out.N1 _).mono ?_
  rintro e v5 ⟨rfl, hv5⟩
  have zhv5 := hv5.size
  try simp at zhv5
  go_wp2_with fail
  refine (Y.out.B1 _).mono ?_
  rintro e v6 ⟨rfl, hv6⟩
  have zhv6 := hv6.size
  try simp at zhv6
  go_wp2_with fail
  refine (Y.out.P1 _).mono ?_
  rintro e v7 ⟨rfl, hv7⟩
  have zhv7 := hv7.size
  try simp at zhv7
  go_wp2_with fail
  refine (Y.out.B2 _).mono ?_
  rintro e v8 ⟨rfl, hv8⟩
  have zhv8 := hv8.size
  try simp at zhv8
  go_wp2_with fail
  refine (Y.out.U1 _).mono ?_
  rintro e v9 ⟨rfl, hv9⟩
  have zhv9 := hv9.size
  try simp at zhv9
  go_wp2_with fail
  refine (Y.out.U2 _).mono ?_
  rintro e v10 ⟨rfl, hv10⟩
  have zhv10 := hv10.size
  try simp at zhv10
  go_wp2_with fail
  refine (Y.out.B3 _).mono ?_
  rintro e v11 ⟨rfl, hv11⟩
  have zhv11 := hv11.size
  try simp at zhv11
  go_wp2_with fail
  refine (Y.out.K1 _).mono ?_
  rintro e v12 ⟨rfl, hv12⟩
  have zhv12 := hv12.size
  try simp at zhv12
  go_wp2_with fail
  refine (Y.out.K2 _).mono ?_
  rintro e v13 ⟨rfl, hv13⟩
  have zhv13 := hv13.size
  try simp at zhv13
  go_wp2_with fail
  refine (Y.out.K1 _).mono ?_
  rintro e va ⟨rfl, hva⟩
  have zhva := hva.size
  try simp at zhva
  go_wp2_with fail
  refine (K3'.out _).mono ?_
  rintro e vb ⟨rfl, hvb⟩
  have zhvb := hvb.size
  try simp at zhvb
  go_wp2
  go_ret
  exact ⟨ret_bool (by simp), (by repeat' (first | exact G.refl _ | assumption | refine G.alloc ?_ _ | refine G.drew ?_ | refine G.drewN ?_ _ | (refine G.trans ?_ (by assumption))))⟩

end Go.Proofs.YthbjdmadbakchaaDoor
