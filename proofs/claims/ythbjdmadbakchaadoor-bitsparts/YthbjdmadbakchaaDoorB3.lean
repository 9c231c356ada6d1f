/- What is proved here: contracts of package bits, Join to Make, over this seat's translation. -/
import Derived.Test.YthbjdmadbakchaaDoorB2
import Derived.Test.YthbjdmadbakchaaDoorF2
import Derived.Test.YthbjdmadbakchaaDoorS
namespace Go.Proofs.YthbjdmadbakchaaDoor
open Go.ChangeShapes Go.WideShapes Go.ChangeAt Go.RowKit
attribute [local go_sem] frombits_r tobits_r

/-- The library's table lies where it was laid. -/
def Tab (w : World) : Prop := 1 < w.heap.size ∧ ∀ i, i < 64 → w.cell? ⟨1, i, none⟩ = some (.int .u8 (FT.tab.getD i 0 : Nat))
theorem Tab.G {w w' : World} (h : Tab w) (g : G w w') : Tab w' :=
  ⟨Nat.lt_of_lt_of_le h.1 g.size, fun i hi => g.cell h.1 (h.2 i hi)⟩

theorem len64_c (x : Nat) (w : World) (h : x < 2 ^ 64) : Calls Tryd.prog 51 #[.int .u64 x] w fun e w' => e = .returned (.int .i64 (Lib.bitLen x)) ∧ G w w' :=
  (Tryd.bits_Len64 x w (by omega) (by omega)).mono (by rintro e w' ⟨rfl, rfl⟩; exact ⟨by simp, G.refl _⟩)

theorem tz_core (x k q : Nat) (w : World) (_hx : x < 2 ^ 64) (hz : ((x : Int) == 0) = false) (hi : q < 64) (hk : k < 64) (hc : w.cell? ⟨1, q, none⟩ = some (.int .u8 k))
    (hp : IntKind.u64.wrap (bits BinOp.and IntKind.u64 (x : Int) (IntKind.u64.wrap (-(x : Int))) * 285870213051353865) / 288230376151711744 = (q : Int)) :
    Calls Tryd.prog 37 #[.int .u64 x] w fun e w' => e = .returned (.int .i64 k) ∧ w' = w := by
  go_enter Tryd.func37, Tryd.ntmps37
  go_wp2
  go_ret
  exact ⟨rfl, rfl⟩

theorem tz_c (x j k : Nat) (w : World) (ht : Tab w) (hx : x < 2 ^ 64) (e : x = (2 * j + 1) * 2 ^ k) :
    Calls Tryd.prog 37 #[.int .u64 x] w fun e w' => e = .returned (.int .i64 k) ∧ G w w' := by
  have hk : k < 64 := by rw [e] at hx; exact FT.tz_lt hx
  have hc := ht.2 _ (FT.ix_lt hk)
  rw [FT.tab_ix hk] at hc
  have hz : ((x : Int) == 0) = false := by
    have : x ≠ 0 := by rw [e]; exact Nat.mul_ne_zero (by omega) (by have := Nat.two_pow_pos k; omega)
    simp; omega
  refine (tz_core x k (FT.ix k) w hx hz (FT.ix_lt hk) hk hc (FT.place x j k e hx)).mono ?_
  rintro e w' ⟨rfl, rfl⟩
  exact ⟨rfl, G.refl _⟩

set_option maxRecDepth 100000 in
theorem join_bad_c (neg : Bool) (exp : Int) (frac : Nat) (w : World) (h : exp < 0 ∨ 2047 < exp ∨ 2 ^ 52 ≤ frac) :
    Calls Tryd.prog 12 #[.bool neg, .int .i64 exp, .int .u64 frac] w fun e w' => e = .returned (.tuple #[.float .f64 0, .int .i64 3]) ∧ G w w' := by
  by_cases h1 : exp < 0
  · go_enter Tryd.func12, Tryd.ntmps12
    go_wp2_with fail
    refine (double_c _).mono ?_
    rintro e w1 ⟨rfl, hb1⟩
    have zhb1 := hb1.size
    try simp at zhb1
    go_wp2
    go_ret2
    exact ⟨rfl, (by repeat' (first | exact G.refl _ | assumption | refine G.alloc ?_ _ | refine G.drew ?_ | refine G.drewN ?_ _ | (refine G.trans ?_ (by assumption))))⟩
  · by_cases h2 : 2047 < exp
    · go_enter Tryd.func12, Tryd.ntmps12
      go_wp2_with fail
      refine (double_c _).mono ?_
      rintro e w1 ⟨rfl, hb1⟩
      have zhb1 := hb1.size
      try simp at zhb1
      go_wp2_with fail
      refine (greatest_c 11 52 _ (by omega)).mono ?_
      rintro e w2 ⟨rfl, hb2⟩
      have zhb2 := hb2.size
      try simp at zhb2
      go_wp2
      go_ret2
      exact ⟨rfl, (by repeat' (first | exact G.refl _ | assumption | refine G.alloc ?_ _ | refine G.drew ?_ | refine G.drewN ?_ _ | (refine G.trans ?_ (by assumption))))⟩
    · have h3 : 2 ^ 52 ≤ frac := by omega
      go_enter Tryd.func12, Tryd.ntmps12
      go_wp2_with fail
      refine (double_c _).mono ?_
      rintro e w1 ⟨rfl, hb1⟩
      have zhb1 := hb1.size
      try simp at zhb1
      go_wp2_with fail
      refine (greatest_c 11 52 _ (by omega)).mono ?_
      rintro e w2 ⟨rfl, hb2⟩
      have hc1 := hb2.cell (p := ⟨w1.heap.size, 0, none⟩) (v := .int .i64 11) (by first | (simp; done) | (simp; omega) | omega) (by first | assumption | (simp [go_sem]; done) | (simp [*, go_sem]; done))
      have hc2 := hb2.cell (p := ⟨w1.heap.size, 1, none⟩) (v := .int .i64 52) (by first | (simp; done) | (simp; omega) | omega) (by first | assumption | (simp [go_sem]; done) | (simp [*, go_sem]; done))
      have zhb2 := hb2.size
      try simp at zhb2
      go_wp2_with fail
      refine (leading_c 11 52 _ (by omega)).mono ?_
      rintro e w3 ⟨rfl, hb3⟩
      have zhb3 := hb3.size
      try simp at zhb3
      go_wp2
      go_ret2
      exact ⟨rfl, (by repeat' (first | exact G.refl _ | assumption | refine G.alloc ?_ _ | refine G.drew ?_ | refine G.drewN ?_ _ | (refine G.trans ?_ (by assumption))))⟩

set_option maxRecDepth 100000 in
theorem join_c (neg : Bool) (exp frac : Nat) (w : World) (h1 : exp ≤ 2047) (h2 : frac < 2 ^ 52) :
    Calls Tryd.prog 12 #[.bool neg, .int .i64 exp, .int .u64 frac] w fun e w' => e = .returned (.tuple #[.float .f64 (if neg then exp * 2 ^ 52 + frac + 2 ^ 63 else exp * 2 ^ 52 + frac), .int .i64 0]) ∧ G w w' := by
  have ho : bits .or .u64 ((exp : Int) * 4503599627370496) (frac : Int) = ((exp * 2 ^ 52 + frac : Nat) : Int) := by
    have := FT.or_join (exp * 2 ^ 52) frac 52 (by simp) h2 (by omega) (by omega)
    simpa using this
  have F1 : Hid _ := ho
  clear ho
  have key := fun w => signed_c neg (exp * 2 ^ 52 + frac) w (by omega)
  generalize (if neg then exp * 2 ^ 52 + frac + 2 ^ 63 else exp * 2 ^ 52 + frac) = r at *
  have K : Hid _ := key
  clear key
  go_enter Tryd.func12, Tryd.ntmps12
  go_wp2_with fail
  refine (double_c _).mono ?_
  rintro e w1 ⟨rfl, hb1⟩
  have zhb1 := hb1.size
  try simp at zhb1
  go_wp2_with fail
  refine (greatest_c 11 52 _ (by omega)).mono ?_
  rintro e w2 ⟨rfl, hb2⟩
  have hc3 := hb2.cell (p := ⟨w1.heap.size, 0, none⟩) (v := .int .i64 11) (by first | (simp; done) | (simp; omega) | omega) (by first | assumption | (simp [go_sem]; done) | (simp [*, go_sem]; done))
  have hc4 := hb2.cell (p := ⟨w1.heap.size, 1, none⟩) (v := .int .i64 52) (by first | (simp; done) | (simp; omega) | omega) (by first | assumption | (simp [go_sem]; done) | (simp [*, go_sem]; done))
  have zhb2 := hb2.size
  try simp at zhb2
  go_wp2_with fail
  refine (leading_c 11 52 _ (by omega)).mono ?_
  rintro e w3 ⟨rfl, hb3⟩
  have hc5 := hb3.cell (p := ⟨w1.heap.size, 0, none⟩) (v := .int .i64 11) (by first | (simp; done) | (simp; omega) | omega) (by first | assumption | (simp [go_sem]; done) | (simp [*, go_sem]; done))
  have hc6 := hb3.cell (p := ⟨w1.heap.size, 1, none⟩) (v := .int .i64 52) (by first | (simp; done) | (simp; omega) | omega) (by first | assumption | (simp [go_sem]; done) | (simp [*, go_sem]; done))
  have zhb3 := hb3.size
  try simp at zhb3
  go_wp2_with fail
  rw [F1.out]
  refine (K.out _).mono ?_
  rintro e w4 ⟨rfl, hb4⟩
  have zhb4 := hb4.size
  try simp at zhb4
  go_wp2
  go_ret2
  exact ⟨rfl, (by repeat' (first | exact G.refl _ | assumption | refine G.alloc ?_ _ | refine G.drew ?_ | refine G.drewN ?_ _ | (refine G.trans ?_ (by assumption))))⟩

end Go.Proofs.YthbjdmadbakchaaDoor
