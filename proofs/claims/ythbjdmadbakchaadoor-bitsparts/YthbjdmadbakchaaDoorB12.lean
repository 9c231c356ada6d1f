/- What is proved here: what 'nearest' gives against the exact rounding; contracts of Ulp, over this seat's translation. -/
import Derived.Test.YthbjdmadbakchaaDoorB11
namespace Go.Proofs.YthbjdmadbakchaaDoor
open Go.ChangeShapes Go.WideShapes Go.ChangeAt Go.RowKit
attribute [local go_sem] frombits_r tobits_r unary_negf

theorem rnd_cut (s : Bool) (mag d : Nat) (h0 : mag ≠ 0) (hd : 1 ≤ d) : Ieee.Toward.even.cut s mag d = rnd mag d := by
  have h1 := Nat.log2_self_le h0
  have h2 := Nat.lt_log2_self (n := mag)
  have hdd : 2 ^ d = 2 * 2 ^ (d - 1) := by
    obtain ⟨e, rfl⟩ : ∃ e, d = e + 1 := ⟨d - 1, by omega⟩
    simp [Nat.pow_succ, Nat.mul_comm]
  unfold Ieee.Toward.cut rnd
  by_cases h : d ≤ mag.log2 + 2
  · have hm : min d (mag.log2 + 2) = d := by omega
    simp only [hm, Nat.shiftLeft_eq, Nat.one_mul]
    congr 1
    generalize mag % 2 ^ d = rest
    generalize mag / 2 ^ d % 2 = par
    rw [hdd]
    generalize 2 ^ (d - 1) = half
    by_cases c1 : half < rest
    · have c2 : 2 * half < 2 * rest := by omega
      simp [c1]
    · have c2 : ¬ 2 * half < 2 * rest := by omega
      by_cases c3 : rest = half
      · subst c3
        by_cases c4 : par = 1 <;> simp [c4]
      · have c4 : ¬ 2 * half = 2 * rest := by omega
        simp [c1, c3, c4]
  · have hm : min d (mag.log2 + 2) = mag.log2 + 2 := by omega
    have hp : 2 ^ (mag.log2 + 2) = 2 * 2 ^ (mag.log2 + 1) := by rw [Nat.pow_succ 2 (mag.log2 + 1), Nat.mul_comm]
    have hq : 2 ^ (mag.log2 + 2) ≤ 2 ^ (d - 1) := pow_le (by omega)
    have hr : 2 ^ (d - 1) ≤ 2 ^ d := pow_le (by omega)
    simp only [hm, Nat.shiftLeft_eq, Nat.one_mul]
    rw [Nat.div_eq_of_lt (show mag < 2 ^ (mag.log2 + 2) by omega), Nat.mod_eq_of_lt (show mag < 2 ^ (mag.log2 + 2) by omega),
      Nat.div_eq_of_lt (show mag < 2 ^ d by omega), Nat.mod_eq_of_lt (show mag < 2 ^ d by omega)]
    rw [if_neg (by omega)]
    have c1 : ¬ 2 ^ (mag.log2 + 2) < 2 * mag := by omega
    have c2 : ¬ 2 ^ (mag.log2 + 2) = 2 * mag := by omega
    simp [c1]

theorem shV_cut (s : Bool) (mag : Nat) (n : Int) (h0 : mag ≠ 0) (hm : mag < 2 ^ 64) : shV mag n = Ieee.Toward.even.cut s (mag <<< n.toNat) (-n).toNat := by
  unfold shV
  by_cases hn : 0 ≤ n
  · rw [if_pos hn, show (-n).toNat = 0 from by omega, FT.cut_zero, Nat.shiftLeft_eq]
  · rw [if_neg hn, show n.toNat = 0 from by omega, Nat.shiftLeft_zero, rnd_cut s mag _ h0 (by omega)]
    split
    · have : 2 ^ 64 ≤ 2 ^ ((-n).toNat - 1) := pow_le (by omega)
      have h2 : 2 ^ ((-n).toNat - 1) ≤ 2 ^ (-n).toNat := pow_le (by omega)
      unfold rnd
      rw [Nat.div_eq_of_lt (by omega), Nat.mod_eq_of_lt (by omega), if_neg (by omega)]
    · rfl

theorem nearV_ieee (s : Bool) (mag : Nat) (e : Int) (h0 : mag ≠ 0) (hm : mag < 2 ^ 64) :
    Ieee.double.nearest s mag e = FT.wrd s (nearV 11 52 mag e) := by
  have hle := nearV_le mag e
  have h1 := Nat.log2_self_le h0
  unfold Ieee.Format.nearest
  rw [if_neg h0, FT.leastPlace_eq, FT.infRung_eq, FT.binade_eq, FT.word_eq]
  congr 1
  show min ((max (e + (mag.log2 : Int) - (52 : Nat)) (-1074) - -1074).toNat * 2 ^ 52 + Ieee.Toward.even.cut s (mag <<< (e - max (e + (mag.log2 : Int) - (52 : Nat)) (-1074)).toNat) (max (e + (mag.log2 : Int) - (52 : Nat)) (-1074) - e).toNat) (2047 * 2 ^ 52) = _
  generalize hl : max (e + (mag.log2 : Int) - (52 : Nat)) (-1074) = last
  have hc := shV_cut s mag (e - last) h0 hm
  rw [show (-(e - last)).toNat = (last - e).toNat from by omega] at hc
  rw [← hc]
  unfold nearV at hle ⊢
  rw [if_neg h0] at hle ⊢
  have h2 : (2 : Int) ^ (11 - 1) = 1024 := rfl
  rw [h2] at hle ⊢
  by_cases hbig : (1024 : Int) - 1 < e + mag.log2
  · rw [if_pos hbig]
    have hlast : last = e + mag.log2 - 52 := by omega
    have hk : 2 ^ 52 ≤ shV mag (e - last) := by
      unfold shV
      by_cases hn : 0 ≤ e - last
      · rw [if_pos hn]
        have : 2 ^ mag.log2 * 2 ^ (e - last).toNat ≤ mag * 2 ^ (e - last).toNat := Nat.mul_le_mul_right _ h1
        rw [← Nat.pow_add, show mag.log2 + (e - last).toNat = 52 from by omega] at this
        exact this
      · rw [if_neg hn]
        have hlg : mag.log2 < 64 := (Nat.log2_lt h0).2 hm
        rw [if_neg (by omega)]
        unfold rnd
        have : 2 ^ 52 ≤ mag / 2 ^ (-(e - last)).toNat := by
          rw [Nat.le_div_iff_mul_le (Nat.two_pow_pos _), ← Nat.pow_add, show 52 + (-(e - last)).toNat = mag.log2 from by omega]
          exact h1
        omega
    have hhi : 2046 * 2 ^ 52 ≤ (last - -1074).toNat * 2 ^ 52 := Nat.mul_le_mul_right _ (by omega)
    have key : ∀ hi lo : Nat, 2046 * 2 ^ 52 ≤ hi → 2 ^ 52 ≤ lo → min (hi + lo) (2047 * 2 ^ 52) = (2 ^ 11 - 1) * 2 ^ 52 := by intro hi lo a b; omega
    exact key _ _ hhi hk
  · rw [if_neg hbig] at hle ⊢
    have hp : max (e + (mag.log2 : Int)) (2 - 1024) = last + 52 := by omega
    rw [hp] at hle ⊢
    have e1 : (last + 52 - (2 - 1024)).toNat = (last - -1074).toNat := by omega
    have e2 : e - (last + 52 - (52 : Nat)) = e - last := by omega
    rw [e1, e2] at hle ⊢
    exact Nat.min_eq_left hle

theorem nearV_exact (mag r : Nat) (e : Int) (h0 : mag ≠ 0) (hm : mag < 2 ^ 64) (hr : r < FT.infR)
    (h : mag * 2 ^ (e + 1074).toNat = FT.v r * 2 ^ (-1074 - e).toNat) : nearV 11 52 mag e = r := by
  have h1 := nearV_ieee false mag e h0 hm
  rw [FT.nearest_exact false mag e r hr h0 h, FT.word_eq] at h1
  exact h1.symm

def ulpV (ex : Nat) : Nat := if ex = 2047 then 0 else nearV 11 52 1 ((max ex 1 : Nat) - 1075)

theorem ulp_small (ex : Nat) (h : ex ≤ 1) : nearV 11 52 1 ((max ex 1 : Nat) - 1075) = 1 := by
  rw [show ((max ex 1 : Nat) : Int) - 1075 = -1074 from by omega]
  exact nearV_exact 1 1 (-1074) (by omega) (by omega) (by decide) (by rw [FT.v_sub (by omega)]; rfl)

theorem ulp_den (ex : Nat) (h1 : 1 ≤ ex) (h2 : ex ≤ 52) : nearV 11 52 1 ((ex : Int) - 1075) = 2 ^ (ex - 1) := by
  have hlt : 2 ^ (ex - 1) < 2 ^ 52 := Nat.pow_lt_pow_right (by omega) (by omega)
  refine nearV_exact 1 _ _ (by omega) (by omega) (by unfold FT.infR; omega) ?_
  rw [FT.v_sub hlt, show ((ex : Int) - 1075 + 1074).toNat = ex - 1 from by omega, show (-1074 - ((ex : Int) - 1075)).toNat = 0 from by omega, Nat.pow_zero, Nat.mul_one, Nat.one_mul]

theorem ulp_nor (ex : Nat) (h1 : 53 ≤ ex) (h2 : ex ≤ 2046) : nearV 11 52 1 ((ex : Int) - 1075) = (ex - 52) * 2 ^ 52 := by
  refine nearV_exact 1 _ _ (by omega) (by omega) (by unfold FT.infR; omega) ?_
  have := FT.v_nor' (ex - 52) 0 (by omega) (by omega)
  rw [Nat.add_zero, Nat.add_zero] at this
  rw [this, show ((ex : Int) - 1075 + 1074).toNat = 52 + (ex - 52 - 1) from by omega, show (-1074 - ((ex : Int) - 1075)).toNat = 0 from by omega, Nat.pow_zero, Nat.mul_one, Nat.one_mul, Nat.pow_add]

set_option maxRecDepth 100000 in
theorem ulp_inf_c (b fr : Nat) (w : World) (h0 : b < 2 ^ 64) (he : b / 2 ^ 52 % 2 ^ 11 = 2047) (hf : b % 2 ^ 52 = fr) :
    Calls Tryd.prog 24 #[.float .f64 b] w fun r w' => r = .returned (.float .f64 0) ∧ G w w' := by
  have K : Hid _ := fun w => split_c b 2047 fr w h0 he hf
  clear he hf h0
  go_enter Tryd.func24, Tryd.ntmps24
  go_wp2_with fail
  refine (double_c _).mono ?_
  rintro e w1 ⟨rfl, hb1⟩
  have zhb1 := hb1.size
  try simp at zhb1
  go_wp2_with fail
  refine (K.out _).mono ?_
  rintro e w2 ⟨rfl, hb2⟩
  have hc3 := hb2.cell (p := ⟨w1.heap.size, 0, none⟩) (v := .int .i64 11) (by first | (simp; done) | (simp; omega) | omega) (by first | assumption | (simp [go_sem]; done) | (simp [*, go_sem]; done))
  have hc4 := hb2.cell (p := ⟨w1.heap.size, 1, none⟩) (v := .int .i64 52) (by first | (simp; done) | (simp; omega) | omega) (by first | assumption | (simp [go_sem]; done) | (simp [*, go_sem]; done))
  have zhb2 := hb2.size
  try simp at zhb2
  go_wp2_with fail
  refine (greatest_c 11 52 _ (by omega)).mono ?_
  rintro e w3 ⟨rfl, hb3⟩
  have zhb3 := hb3.size
  try simp at zhb3
  go_wp2
  go_ret
  exact ⟨rfl, (by repeat' (first | exact G.refl _ | assumption | refine G.alloc ?_ _ | refine G.drew ?_ | refine G.drewN ?_ _ | (refine G.trans ?_ (by assumption))))⟩

set_option maxRecDepth 100000 in
theorem ulp_fin_c (b ex fr r : Nat) (w : World) (h0 : b < 2 ^ 64) (he : b / 2 ^ 52 % 2 ^ 11 = ex) (hf : b % 2 ^ 52 = fr) (h1 : ex < 2047) (hr : nearV 11 52 1 ((max ex 1 : Nat) - 1075) = r) :
    Calls Tryd.prog 24 #[.float .f64 b] w fun o w' => o = .returned (.float .f64 r) ∧ G w w' := by
  have K : Hid _ := fun w => split_c b ex fr w h0 he hf
  have M : Hid _ := fun w => make_c 1 ((max ex 1 : Nat) - 1075) w (by omega) (by omega) (by omega) (by omega)
  rw [if_neg (by omega), show clamp ((max ex 1 : Nat) - 1075) = (max ex 1 : Nat) - 1075 from by unfold clamp; omega] at M
  have M2 : ∀ w, Calls Tryd.prog 17 #[.int .i64 1, .int .i64 ((max ex 1 : Nat) - 1075)] w fun o w' => o = .returned (.float .f64 r) ∧ G w w' := by
    rw [← hr]; exact M.out
  have M3 : Hid _ := M2
  have hne : ((ex : Int) == 2047) = false := by simp; omega
  have E1 : Hid (max (ex : Int) 1 - 1023 - 52 = (max ex 1 : Nat) - 1075) := by show max (ex : Int) 1 - 1023 - 52 = (max ex 1 : Nat) - 1075; omega
  clear he hf h0 hr M M2
  go_enter Tryd.func24, Tryd.ntmps24
  go_wp2_with fail
  refine (double_c _).mono ?_
  rintro e w1 ⟨rfl, hb1⟩
  have zhb1 := hb1.size
  try simp at zhb1
  go_wp2_with fail
  refine (K.out _).mono ?_
  rintro e w2 ⟨rfl, hb2⟩
  have hc5 := hb2.cell (p := ⟨w1.heap.size, 0, none⟩) (v := .int .i64 11) (by first | (simp; done) | (simp; omega) | omega) (by first | assumption | (simp [go_sem]; done) | (simp [*, go_sem]; done))
  have hc6 := hb2.cell (p := ⟨w1.heap.size, 1, none⟩) (v := .int .i64 52) (by first | (simp; done) | (simp; omega) | omega) (by first | assumption | (simp [go_sem]; done) | (simp [*, go_sem]; done))
  have zhb2 := hb2.size
  try simp at zhb2
  go_wp2_with fail
  refine (greatest_c 11 52 _ (by omega)).mono ?_
  rintro e w3 ⟨rfl, hb3⟩
  have hc7 := hb3.cell (p := ⟨w1.heap.size, 0, none⟩) (v := .int .i64 11) (by first | (simp; done) | (simp; omega) | omega) (by first | assumption | (simp [go_sem]; done) | (simp [*, go_sem]; done))
  have hc8 := hb3.cell (p := ⟨w1.heap.size, 1, none⟩) (v := .int .i64 52) (by first | (simp; done) | (simp; omega) | omega) (by first | assumption | (simp [go_sem]; done) | (simp [*, go_sem]; done))
  have zhb3 := hb3.size
  try simp at zhb3
  go_wp2_with fail
  refine region_gw (by kernel_rfl) (by kernel_rfl) ?_
  intro W hW
  have hq1 := gw_cell (w := W) (a := ⟨w1.heap.size, 0, none⟩) (x := .int .i64 11) (by rw [hW]; first | (simp; done) | (simp; omega) | omega) (by rw [hW]; first | assumption | (simp [go_sem]; done) | (simp [*, go_sem]; done))
  have hq2 := gw_cell (w := W) (a := ⟨w1.heap.size, 1, none⟩) (x := .int .i64 52) (by rw [hW]; first | (simp; done) | (simp; omega) | omega) (by rw [hW]; first | assumption | (simp [go_sem]; done) | (simp [*, go_sem]; done))
  clear hW
  repeat (go_big_quiet_step ((first | (go_at_call 46; exact quiet_gw (less_c 11 52 _ (by omega) (by omega))) | (go_at_call 17; simp only [E1.out]; exact quiet_gw (M3.out _)))))
  refine wpQuiet_nil ?_
  clear hq1 hq2
  intro w4 hw4
  go_wp2
  go_ret
  exact ⟨rfl, (by repeat' (first | exact G.refl _ | assumption | refine G.alloc ?_ _ | refine G.drew ?_ | refine G.drewN ?_ _ | (refine G.trans ?_ (by assumption))))⟩

end Go.Proofs.YthbjdmadbakchaaDoor
