/- What is proved here: contracts of the reference: NewRat over 1, powers of two of either sign, over this seat's translation.
What is proved here: contracts of the reference: Large, over this seat's translation.
What is proved here: contracts of the reference: Small of 0 and of what has no end, over this seat's translation. -/
import Derived.Test.YtkimdkgijfknlaaC21
import Derived.Test.YtkimdkgijfknlaaC23
import Derived.Test.YtkimdkgijfknlaaC11
import Derived.Test.YtkimdkgijfknlaaC7
import Derived.Test.YtkimdkgijfknlaaC22
namespace Go.Proofs.Ytkimdkgijfknlaa
open Go.ChangeShapes Go.WideShapes Go.ChangeAt Go.RowKit
open BN

theorem newRat_c (w : World) (x : Int) (hx : -9223372036854775808 ≤ x ∧ x ≤ 9223372036854775807) :
    Calls Try.prog 40 #[.int .i64 x, .int .i64 1] w (RetR w x 1) := by
  have h2 : x.natAbs < 2 ^ (32 * 2) := by omega
  have HN : Hid (∀ w, Calls _ _ _ w (RetI w x)) := fun w => newI_c w x hx
  have HF : Hid (∀ w1 z q p, z < w1.heap.size → RatIs w1 z 0 0 → q < w1.heap.size → IntIs w1 q 0 x → p < w1.heap.size → IntIs w1 p 0 1 → _) := fun w1 z q p hz hiz hq hiq hp hi => setFrac_c w1 z q 0 p 0 0 0 x 1 2 (by omega) h2 (by omega) (by omega) hz hq hp hiz hiq hi
  have HE : Hid (Int.tdiv x (Nat.gcd x.natAbs 1 : Nat) = x ∧ 1 / Nat.gcd x.natAbs 1 = 1) := by
    rw [Nat.gcd_one_right]; exact ⟨Int.tdiv_one x, rfl⟩
  rw [HE.out.1, HE.out.2] at HF
  clear h2 HE hx
  go_enter Try.func40, Try.ntmps40
  go_wp2_with fail
  have hr0 := rat_new w 64
  have hga := (G.refl w).alloc (.cells #[.bool false, .slice none 0 0, .bool false, .slice none 0 0] 64)
  have hzs : w.heap.size < (w.alloc (.cells #[.bool false, .slice none 0 0, .bool false, .slice none 0 0] 64)).heap.size := by simp
  have hz0 : w.heap.size ≤ w.heap.size := Nat.le_refl _
  generalize w.alloc (.cells #[.bool false, .slice none 0 0, .bool false, .slice none 0 0] 64) = w1 at *
  have HR1 : Hid (RatIs w1 w.heap.size 0 0) := hr0
  clear hr0
  refine Calls.mono (P := Try.prog) (HN.out w1) ?_
  intro e w2 h
  obtain ⟨q, rfl, hg2, -, hq2, hqi⟩ := h
  have HQ : Hid (IntIs w2 q 0 x) := hqi
  have hG2 := G.trans hga hg2
  have hzs2 := G.lt hg2 hzs
  have HR2 : Hid (RatIs w2 w.heap.size 0 0) := HR1.out.G hzs hg2
  clear hqi HN HR1 hzs hga hg2
  go_wp2_with fail
  refine Calls.mono (P := Try.prog) (newI_c w2 1 (by omega)) ?_
  intro e w3 h
  obtain ⟨p, rfl, hg3, -, hp3, hpi⟩ := h
  have hG3 := G.trans hG2 hg3
  have hzs3 := G.lt hg3 hzs2
  have HS : Hid _ := HF.out w3 w.heap.size q p hzs3 (HR2.out.G hzs2 hg3) (G.lt hg3 hq2) (IntIs.G HQ.out hq2 hg3) hp3 hpi
  clear HF hp3 hpi hG2 hg3 HR2 HQ hq2 hzs2
  go_wp2_with fail
  refine Calls.mono (P := Try.prog) HS.out ?_
  intro e w4 hs
  obtain ⟨r, rfl, k1, k2, k3, k4⟩ := NormTo.ret hG3 hz0 hzs3 hs
  have HK4 : Hid (RatIs w4 r x ((1 : Nat) : Int)) := k4
  clear hs k4 HS
  go_wp2_with fail
  go_ret
  exact ⟨r, rfl, k1, k2, k3, HK4.out⟩

theorem pow2_c (P : Int) (h1 : -1100 ≤ P) (h2 : P ≤ 1100) (w : World) : Calls Try.prog 30 #[.int .i64 P] w (RetR w (2 ^ P.toNat : Nat) (2 ^ (-P).toNat)) := by
  by_cases h : 0 ≤ P
  · obtain ⟨k, rfl⟩ := Int.eq_ofNat_of_zero_le h
    rw [Int.toNat_natCast, show (-(k : Int)).toNat = 0 from by omega, Nat.pow_zero]
    exact pow2_up w k 40 (by omega) (by omega) (by omega)
  · obtain ⟨k, hk⟩ : ∃ k : Nat, P = -(k : Int) := ⟨(-P).toNat, by omega⟩
    subst hk
    rw [show (-(k : Int)).toNat = 0 from by omega, Int.neg_neg, Int.toNat_natCast, Nat.pow_zero]
    exact pow2_down w k 40 (by omega) (by omega) (by omega) (by omega)

/-- A whole number by a power of two, as a float. -/
theorem mul_facts {q : Nat} {P : Int} (hq : q < 2 ^ 53) (hP1 : -1000 ≤ P) (hP2 : P ≤ 1000) (K : Nat) (hK : K = 110) :
    ∃ (ya yb N D : Nat), ya = 2 ^ P.toNat ∧ yb = 2 ^ (-P).toNat ∧ ((q : Int).natAbs < 2 ^ (32 * K) ∧ (ya : Int).natAbs < 2 ^ (32 * K) ∧ 1 < 2 ^ (32 * K) ∧ yb < 2 ^ (32 * K) ∧ 0 < yb) ∧
      ((N : Int) = Int.tdiv ((q : Int) * (ya : Int)) (Nat.gcd ((q : Int) * (ya : Int)).natAbs (1 * yb) : Nat) ∧ D = 1 * yb / Nat.gcd ((q : Int) * (ya : Int)).natAbs (1 * yb)) ∧
      ((q = 0 ∧ N = 0) ∨ (q ≠ 0 ∧ (N : Int) ≠ 0 ∧ 0 < D ∧ (N : Int).natAbs < 2 ^ (32 * K) ∧ D < 2 ^ (32 * K) ∧ startP (N : Int).natAbs D 53 (-1074) ≤ 5990 ∧ flV (N : Int).natAbs D = nearV 11 52 q P)) := by
  obtain ⟨ya, hya⟩ : ∃ ya, ya = 2 ^ P.toNat := ⟨_, rfl⟩
  obtain ⟨yb, hyb⟩ : ∃ yb, yb = 2 ^ (-P).toNat := ⟨_, rfl⟩
  have hya0 : 0 < ya := by rw [hya]; exact Nat.two_pow_pos _
  have hyb0 : 0 < yb := by rw [hyb]; exact Nat.two_pow_pos _
  have h53 : 2 ^ 53 < 2 ^ (32 * K) := Nat.pow_lt_pow_right (by omega) (by omega)
  have hyal : ya < 2 ^ (32 * K) := by rw [hya]; exact Nat.pow_lt_pow_right (by omega) (by omega)
  have hybl : yb < 2 ^ (32 * K) := by rw [hyb]; exact Nat.pow_lt_pow_right (by omega) (by omega)
  have hprod : q * ya < 2 ^ (32 * K) := by
    calc q * ya < 2 ^ 53 * ya := Nat.mul_lt_mul_of_pos_right hq hya0
      _ = 2 ^ (53 + P.toNat) := by rw [hya, Nat.pow_add]
      _ ≤ 2 ^ (32 * K) := Nat.pow_le_pow_right (by omega) (by omega)
  have hbl : q * ya < 2 ^ (53 + P.toNat) := by
    rw [Nat.pow_add, ← hya]; exact Nat.mul_lt_mul_of_pos_right hq hya0
  have hNa : ((q : Int) * (ya : Int)).natAbs = q * ya := by rw [Int.natAbs_mul, Int.natAbs_natCast, Int.natAbs_natCast]
  by_cases h0 : q = 0
  · refine ⟨ya, yb, 0, _, hya, hyb, ⟨by rw [Int.natAbs_natCast]; omega, by rw [Int.natAbs_natCast]; omega, by omega, hybl, hyb0⟩, ⟨?_, rfl⟩, Or.inl ⟨h0, rfl⟩⟩
    rw [h0]
    simp
  · have hN0 : (q : Int) * (ya : Int) ≠ 0 := Int.mul_ne_zero (by omega) (by omega)
    have hD0 : 0 < 1 * yb := by omega
    obtain ⟨f1, f2, f3, f4, f5, f6⟩ := low_fact hN0 hD0 rfl
    have hpos : 0 ≤ Int.tdiv ((q : Int) * (ya : Int)) (Nat.gcd ((q : Int) * (ya : Int)).natAbs (1 * yb) : Nat) := by
      have h1 : ¬ (q : Int) * (ya : Int) < 0 := by have := Int.mul_nonneg (show (0 : Int) ≤ q by omega) (show (0 : Int) ≤ ya by omega); omega
      rw [decide_eq_false h1] at f3
      have := of_decide_eq_false f3
      omega
    obtain ⟨N, hN⟩ := Int.eq_ofNat_of_zero_le hpos
    rw [hN] at f1 f2 f5
    obtain ⟨D, hD⟩ : ∃ D, D = 1 * yb / Nat.gcd ((q : Int) * (ya : Int)).natAbs (1 * yb) := ⟨_, rfl⟩
    rw [← hD] at f1 f4 f6
    rw [hNa] at f1 f5
    rw [Int.natAbs_natCast] at f1 f5
    refine ⟨ya, yb, N, D, hya, hyb, ⟨by rw [Int.natAbs_natCast]; omega, by rw [Int.natAbs_natCast]; omega, by omega, hybl, hyb0⟩, ⟨hN.symm, hD⟩, Or.inr ⟨h0, f2, f4, by rw [Int.natAbs_natCast]; omega, by omega, ?_, ?_⟩⟩
    · rw [Int.natAbs_natCast]
      have h1 : blen N ≤ 53 + P.toNat := blen_le_iff.2 (by omega)
      have h2 : 1 ≤ blen D := (blen_lo (by omega : D ≠ 0)).1
      unfold startP; split <;> omega
    · rw [Int.natAbs_natCast]
      refine (fl_near (by omega) (by omega) h0 (by omega) ?_).symm
      rw [← hyb, ← hya]
      rw [Nat.one_mul] at f1
      rw [f1]
      ac_rfl

end Go.Proofs.Ytkimdkgijfknlaa
namespace Go.Proofs.Ytkimdkgijfknlaa
open Go.ChangeShapes Go.WideShapes Go.ChangeAt Go.RowKit
open BN
attribute [local go_sem] frombits_r tobits_r unary_negf

theorem and_w (x k : Nat) (hx : x < 2 ^ 63) (hk : k ≤ 23) : wrap64 (bits BinOp.and IntKind.u64 (x : Int) (IntKind.u64.wrap (IntKind.u64.wrap (2 ^ k) - 1))) = ((x % 2 ^ k : Nat) : Int) := by
  have hp := pow_bd hk
  have e1 : IntKind.u64.wrap (2 ^ k) = 2 ^ k := IntWalk.u64_in _ (by omega)
  have e2 : IntKind.u64.wrap ((2 : Int) ^ k - 1) = 2 ^ k - 1 := IntWalk.u64_in _ (by omega)
  have hm : x % 2 ^ k ≤ x := Nat.mod_le _ _
  rw [e1, e2, FT.and_mask x k (by omega) (by omega), IntWalk.wrap64_in _ (by omega)]

set_option maxRecDepth 10000 in
theorem large_nan (b ex fr : Nat) (E F : Nat) (w : World) (hE : 2 ≤ E) (hE2 : E ≤ 8) (hF : 1 ≤ F) (hF2 : F ≤ 23) (h0 : b < 2 ^ (E + F + 1)) (s : Bool) (hs : (b / 2 ^ (E + F) % 2 == 1) = s) (hex : b / 2 ^ F % 2 ^ E = ex) (hfr : b % 2 ^ F = fr)
    (hlt : ex = 2 ^ E - 1) (hf0 : fr ≠ 0) :
    Calls Try.prog 10 #[.int .u64 b, .agg #[.int .i64 E, .int .i64 F]] w fun e w' => e = .returned (.tuple #[.float .f64 0, .bool false]) ∧ G w w' := by
  have hb64 : b < 2 ^ 63 := Nat.lt_of_lt_of_le h0 (Nat.pow_le_pow_right (by omega) (by omega))
  have HF1 : Hid (wrap64 (bits BinOp.and IntKind.u64 (b : Int) (IntKind.u64.wrap (IntKind.u64.wrap (2 ^ F) - 1))) = (fr : Int)) := by
    show wrap64 (bits BinOp.and IntKind.u64 (b : Int) (IntKind.u64.wrap (IntKind.u64.wrap (2 ^ F) - 1))) = (fr : Int)
    rw [and_w b F hb64 hF2, hfr]
  have HX1 : Hid (wrap64 (bits BinOp.and IntKind.u64 ((b : Int) / 2 ^ F) (IntKind.u64.wrap (IntKind.u64.wrap (2 ^ E) - 1))) = (ex : Int)) := by
    show wrap64 (bits BinOp.and IntKind.u64 ((b : Int) / 2 ^ F) (IntKind.u64.wrap (IntKind.u64.wrap (2 ^ E) - 1))) = (ex : Int)
    have h1 : b / 2 ^ F ≤ b := Nat.div_le_self _ _
    rw [FT.ipow F, ← Int.natCast_ediv, and_w (b / 2 ^ F) E (by omega) (by omega), hex]
  have hT1 : ((b : Int) / 2 ^ (E + F) == 1) = s := by
    rw [FT.ipow, ← Int.natCast_ediv]
    have h1 : b / 2 ^ (E + F) < 2 := by rw [Nat.div_lt_iff_lt_mul (Nat.two_pow_pos _)]; rw [Nat.pow_succ] at h0; omega
    rw [Nat.mod_eq_of_lt h1] at hs
    rw [← hs]
    generalize b / 2 ^ (E + F) = z at *
    have : z = 0 ∨ z = 1 := by omega
    rcases this with h | h <;> subst h <;> rfl
  obtain ⟨bi, hbi⟩ : ∃ bi : Int, bi = 2 ^ (E - 1) - 1 := ⟨_, rfl⟩
  obtain ⟨gr, hgr⟩ : ∃ gr : Int, gr = 2 ^ E - 1 := ⟨_, rfl⟩
  have hMb : (1 : Int) ≤ 2 ^ (E - 1) ∧ (2 : Int) ^ (E - 1) ≤ 128 := pow_bd (show E - 1 ≤ 7 by omega)
  have hM2 : (2 : Int) ≤ 2 ^ (E - 1) := by
    have : 2 ^ 1 ≤ 2 ^ (E - 1) := pow_le (by omega)
    rw [FT.ipow]; omega
  have hEb : (1 : Int) ≤ 2 ^ E ∧ (2 : Int) ^ E ≤ 256 := pow_bd hE2
  have hBW : wrap64 (wrap64 (2 ^ (E - 1)) - 1) = bi := by
    generalize (2 : Int) ^ (E - 1) = M at *
    have e : wrap64 M = M := IntWalk.wrap64_in _ (by omega)
    rw [e, hbi]
    exact IntWalk.wrap64_in _ (by omega)
  have hGW : wrap64 (wrap64 (2 ^ E) - 1) = gr := by
    generalize (2 : Int) ^ E = M at *
    have e : wrap64 M = M := IntWalk.wrap64_in _ (by omega)
    rw [e, hgr]
    exact IntWalk.wrap64_in _ (by omega)
  have HT1 : Hid _ := hT1
  have HBW : Hid _ := hBW
  have HGW : Hid _ := hGW
  clear hT1 hBW hGW
  have hb1 : 1 ≤ bi := by omega
  have hb2 : bi ≤ 127 := by omega
  have hgn : gr = ((2 ^ E - 1 : Nat) : Int) := by
    have := Nat.two_pow_pos E
    rw [hgr, FT.ipow]; omega
  have HTA : Hid (((ex : Int) == gr) = true) := by show ((ex : Int) == gr) = true; rw [hgn, hlt]; simp
  have HTB : Hid (((fr : Int) != 0) = true) := by show ((fr : Int) != 0) = true; simp; omega
  clear hs hex hfr hlt hf0 hbi hgr hgn hMb hM2 hEb h0 hb64
  go_enter Try.func10, Try.ntmps10
  go_wp2_with fail
  refine region_gw (by kernel_rfl) (by kernel_rfl) ?_
  intro W hW
  have hq1 := gw_cell (w := W) (a := ⟨w.heap.size, 0, none⟩) (x := .int .i64 E) (by rw [hW]; first | (simp; done) | (simp; omega) | omega) (by rw [hW]; first | assumption | (simp [go_sem]; done) | (simp [*, go_sem]; done))
  have hq2 := gw_cell (w := W) (a := ⟨w.heap.size, 1, none⟩) (x := .int .i64 F) (by rw [hW]; first | (simp; done) | (simp; omega) | omega) (by rw [hW]; first | assumption | (simp [go_sem]; done) | (simp [*, go_sem]; done))
  clear hW
  repeat (go_big_quiet_step (fail))
  refine wpQuiet_nil ?_
  clear hq1 hq2
  intro w2 hw2
  have hc1 := hw2.cell (p := ⟨w.heap.size, 0, none⟩) (v := .int .i64 E) (by simp) (by simp [go_sem])
  have hc2 := hw2.cell (p := ⟨w.heap.size, 1, none⟩) (v := .int .i64 F) (by simp) (by simp [go_sem])
  have hG2 : G w w2 := (by repeat' (first | exact G.refl _ | assumption | refine G.alloc ?_ _ | refine G.drew ?_ | refine G.drewN ?_ _ | (refine G.trans ?_ (by assumption))))
  have hps : w.heap.size < w2.heap.size := by have := hw2.size; simp at this; omega
  obtain ⟨pf, hpf⟩ : ∃ pf, pf = w.heap.size := ⟨_, rfl⟩
  rw [← hpf] at hc1 hc2 hps ⊢
  clear hw2 hpf
  rw [HF1.out, HX1.out]
  clear HF1 HX1
  have hT1 := HT1.out
  have hBW := HBW.out
  have hGW := HGW.out
  clear HT1 HBW HGW
  have t1 := HTA.out
  have t2 := HTB.out
  go_wp2_with fail
  go_ret2
  exact ⟨rfl, hG2⟩

set_option maxRecDepth 10000 in
theorem large_inf (b ex fr : Nat) (E F : Nat) (w : World) (hE : 2 ≤ E) (hE2 : E ≤ 8) (hF : 1 ≤ F) (hF2 : F ≤ 23) (h0 : b < 2 ^ (E + F + 1)) (s : Bool) (hs : (b / 2 ^ (E + F) % 2 == 1) = s) (hex : b / 2 ^ F % 2 ^ E = ex) (hfr : b % 2 ^ F = fr)
    (hlt : ex = 2 ^ E - 1) (hf0 : fr = 0) :
    Calls Try.prog 10 #[.int .u64 b, .agg #[.int .i64 E, .int .i64 F]] w fun e w' => e = .returned (.tuple #[.float .f64 (if s then FT.infR + 2 ^ 63 else FT.infR), .bool true]) ∧ G w w' := by
  have hb64 : b < 2 ^ 63 := Nat.lt_of_lt_of_le h0 (Nat.pow_le_pow_right (by omega) (by omega))
  have HF1 : Hid (wrap64 (bits BinOp.and IntKind.u64 (b : Int) (IntKind.u64.wrap (IntKind.u64.wrap (2 ^ F) - 1))) = (fr : Int)) := by
    show wrap64 (bits BinOp.and IntKind.u64 (b : Int) (IntKind.u64.wrap (IntKind.u64.wrap (2 ^ F) - 1))) = (fr : Int)
    rw [and_w b F hb64 hF2, hfr]
  have HX1 : Hid (wrap64 (bits BinOp.and IntKind.u64 ((b : Int) / 2 ^ F) (IntKind.u64.wrap (IntKind.u64.wrap (2 ^ E) - 1))) = (ex : Int)) := by
    show wrap64 (bits BinOp.and IntKind.u64 ((b : Int) / 2 ^ F) (IntKind.u64.wrap (IntKind.u64.wrap (2 ^ E) - 1))) = (ex : Int)
    have h1 : b / 2 ^ F ≤ b := Nat.div_le_self _ _
    rw [FT.ipow F, ← Int.natCast_ediv, and_w (b / 2 ^ F) E (by omega) (by omega), hex]
  have hT1 : ((b : Int) / 2 ^ (E + F) == 1) = s := by
    rw [FT.ipow, ← Int.natCast_ediv]
    have h1 : b / 2 ^ (E + F) < 2 := by rw [Nat.div_lt_iff_lt_mul (Nat.two_pow_pos _)]; rw [Nat.pow_succ] at h0; omega
    rw [Nat.mod_eq_of_lt h1] at hs
    rw [← hs]
    generalize b / 2 ^ (E + F) = z at *
    have : z = 0 ∨ z = 1 := by omega
    rcases this with h | h <;> subst h <;> rfl
  obtain ⟨bi, hbi⟩ : ∃ bi : Int, bi = 2 ^ (E - 1) - 1 := ⟨_, rfl⟩
  obtain ⟨gr, hgr⟩ : ∃ gr : Int, gr = 2 ^ E - 1 := ⟨_, rfl⟩
  have hMb : (1 : Int) ≤ 2 ^ (E - 1) ∧ (2 : Int) ^ (E - 1) ≤ 128 := pow_bd (show E - 1 ≤ 7 by omega)
  have hM2 : (2 : Int) ≤ 2 ^ (E - 1) := by
    have : 2 ^ 1 ≤ 2 ^ (E - 1) := pow_le (by omega)
    rw [FT.ipow]; omega
  have hEb : (1 : Int) ≤ 2 ^ E ∧ (2 : Int) ^ E ≤ 256 := pow_bd hE2
  have hBW : wrap64 (wrap64 (2 ^ (E - 1)) - 1) = bi := by
    generalize (2 : Int) ^ (E - 1) = M at *
    have e : wrap64 M = M := IntWalk.wrap64_in _ (by omega)
    rw [e, hbi]
    exact IntWalk.wrap64_in _ (by omega)
  have hGW : wrap64 (wrap64 (2 ^ E) - 1) = gr := by
    generalize (2 : Int) ^ E = M at *
    have e : wrap64 M = M := IntWalk.wrap64_in _ (by omega)
    rw [e, hgr]
    exact IntWalk.wrap64_in _ (by omega)
  have HT1 : Hid _ := hT1
  have HBW : Hid _ := hBW
  have HGW : Hid _ := hGW
  clear hT1 hBW hGW
  have hb1 : 1 ≤ bi := by omega
  have hb2 : bi ≤ 127 := by omega
  have hgn : gr = ((2 ^ E - 1 : Nat) : Int) := by
    have := Nat.two_pow_pos E
    rw [hgr, FT.ipow]; omega
  have HTA : Hid (((ex : Int) == gr) = true) := by show ((ex : Int) == gr) = true; rw [hgn, hlt]; simp
  have K1 : Hid _ := fun w => inf_c 1 w (by omega)
  have hng : Op.negFloat .f64 FT.infR = FT.infR + 2 ^ 63 := negFloat_wrd FT.infR (by decide)
  subst hf0
  clear hs hex hfr hlt hbi hgr hgn hMb hM2 hEb h0 hb64
  generalize FT.infR = r at *
  cases s
  · rw [if_neg (by simp)]
    go_enter Try.func10, Try.ntmps10
    go_wp2_with fail
    refine region_gw (by kernel_rfl) (by kernel_rfl) ?_
    intro W hW
    have hq3 := gw_cell (w := W) (a := ⟨w.heap.size, 0, none⟩) (x := .int .i64 E) (by rw [hW]; first | (simp; done) | (simp; omega) | omega) (by rw [hW]; first | assumption | (simp [go_sem]; done) | (simp [*, go_sem]; done))
    have hq4 := gw_cell (w := W) (a := ⟨w.heap.size, 1, none⟩) (x := .int .i64 F) (by rw [hW]; first | (simp; done) | (simp; omega) | omega) (by rw [hW]; first | assumption | (simp [go_sem]; done) | (simp [*, go_sem]; done))
    clear hW
    repeat (go_big_quiet_step (fail))
    refine wpQuiet_nil ?_
    clear hq3 hq4
    intro w2 hw2
    have hc1 := hw2.cell (p := ⟨w.heap.size, 0, none⟩) (v := .int .i64 E) (by simp) (by simp [go_sem])
    have hc2 := hw2.cell (p := ⟨w.heap.size, 1, none⟩) (v := .int .i64 F) (by simp) (by simp [go_sem])
    have hG2 : G w w2 := (by repeat' (first | exact G.refl _ | assumption | refine G.alloc ?_ _ | refine G.drew ?_ | refine G.drewN ?_ _ | (refine G.trans ?_ (by assumption))))
    have hps : w.heap.size < w2.heap.size := by have := hw2.size; simp at this; omega
    obtain ⟨pf, hpf⟩ : ∃ pf, pf = w.heap.size := ⟨_, rfl⟩
    rw [← hpf] at hc1 hc2 hps ⊢
    clear hw2 hpf
    rw [HF1.out, HX1.out]
    clear HF1 HX1
    have hT1 := HT1.out
    have hBW := HBW.out
    have hGW := HGW.out
    clear HT1 HBW HGW
    have t1 := HTA.out
    go_wp2_with fail
    refine Calls.mono (P := Try.prog) (K1.out _) ?_
    rintro e w3 ⟨rfl, hg3⟩
    have hG3 := G.trans hG2 hg3
    go_wp2_with fail
    go_ret2
    exact ⟨rfl, hG3⟩
  · rw [if_pos rfl]
    go_enter Try.func10, Try.ntmps10
    go_wp2_with fail
    refine region_gw (by kernel_rfl) (by kernel_rfl) ?_
    intro W hW
    have hq5 := gw_cell (w := W) (a := ⟨w.heap.size, 0, none⟩) (x := .int .i64 E) (by rw [hW]; first | (simp; done) | (simp; omega) | omega) (by rw [hW]; first | assumption | (simp [go_sem]; done) | (simp [*, go_sem]; done))
    have hq6 := gw_cell (w := W) (a := ⟨w.heap.size, 1, none⟩) (x := .int .i64 F) (by rw [hW]; first | (simp; done) | (simp; omega) | omega) (by rw [hW]; first | assumption | (simp [go_sem]; done) | (simp [*, go_sem]; done))
    clear hW
    repeat (go_big_quiet_step (fail))
    refine wpQuiet_nil ?_
    clear hq5 hq6
    intro w2 hw2
    have hc1 := hw2.cell (p := ⟨w.heap.size, 0, none⟩) (v := .int .i64 E) (by simp) (by simp [go_sem])
    have hc2 := hw2.cell (p := ⟨w.heap.size, 1, none⟩) (v := .int .i64 F) (by simp) (by simp [go_sem])
    have hG2 : G w w2 := (by repeat' (first | exact G.refl _ | assumption | refine G.alloc ?_ _ | refine G.drew ?_ | refine G.drewN ?_ _ | (refine G.trans ?_ (by assumption))))
    have hps : w.heap.size < w2.heap.size := by have := hw2.size; simp at this; omega
    obtain ⟨pf, hpf⟩ : ∃ pf, pf = w.heap.size := ⟨_, rfl⟩
    rw [← hpf] at hc1 hc2 hps ⊢
    clear hw2 hpf
    rw [HF1.out, HX1.out]
    clear HF1 HX1
    have hT1 := HT1.out
    have hBW := HBW.out
    have hGW := HGW.out
    clear HT1 HBW HGW
    have t1 := HTA.out
    go_wp2_with fail
    refine Calls.mono (P := Try.prog) (K1.out _) ?_
    rintro e w3 ⟨rfl, hg3⟩
    have hG3 := G.trans hG2 hg3
    go_wp2_with fail
    go_ret2
    exact ⟨rfl, hG3⟩

end Go.Proofs.Ytkimdkgijfknlaa
namespace Go.Proofs.Ytkimdkgijfknlaa
open Go.ChangeShapes Go.WideShapes Go.ChangeAt Go.RowKit
open BN
attribute [local go_sem] frombits_r tobits_r unary_negf

theorem sign_w (E F : Nat) (h1 : E ≤ 8) (h2 : F ≤ 23) : IntKind.u64.wrap (2 ^ (E + F)) = 2 ^ (E + F) := by
  have := pow_bd (show E + F ≤ 31 by omega)
  rw [IntKind.wrap_u64]; omega
theorem inf_w (E F : Nat) (h1 : E ≤ 8) (h2 : F ≤ 23) : IntKind.u64.wrap (IntKind.u64.wrap (IntKind.u64.wrap (2 ^ E) - 1) * 2 ^ F) = (((2 ^ E - 1) * 2 ^ F : Nat) : Int) := by
  have a := pow_bd h1
  have a2 := Nat.two_pow_pos E
  have b := pow_bd h2
  have e1 : IntKind.u64.wrap (2 ^ E) = 2 ^ E := by rw [IntKind.wrap_u64]; omega
  have e2 : IntKind.u64.wrap ((2 : Int) ^ E - 1) = 2 ^ E - 1 := by rw [IntKind.wrap_u64]; omega
  have e3 : ((2 : Int) ^ E - 1) * 2 ^ F = (((2 ^ E - 1) * 2 ^ F : Nat) : Int) := by
    rw [Int.natCast_mul, show ((2 ^ E - 1 : Nat) : Int) = ((2 ^ E : Nat) : Int) - 1 from by omega]
    simp
  have e4 : (2 ^ E - 1) * 2 ^ F < 2 ^ 64 := by
    have c1 : 2 ^ E ≤ 2 ^ 8 := pow_le h1
    have c2 : 2 ^ F ≤ 2 ^ 23 := pow_le h2
    calc (2 ^ E - 1) * 2 ^ F ≤ 2 ^ 8 * 2 ^ 23 := Nat.mul_le_mul (by omega) c2
      _ < 2 ^ 64 := by decide
  rw [e1, e2, e3]
  generalize (2 ^ E - 1) * 2 ^ F = I at *
  rw [IntKind.wrap_u64]; omega

theorem or_none (n : Nat) (hn : n < 2 ^ 64) : bits BinOp.or IntKind.u64 0 (n : Int) = ((n + 0 : Nat) : Int) := by
  have := u64_or_nat 0 n (by omega) hn
  rw [Nat.zero_or] at this
  exact this
theorem or_sgn {k n : Nat} (hn : n < 2 ^ k) (hk : k ≤ 63) : bits BinOp.or IntKind.u64 (2 ^ k) (n : Int) = ((n + 2 ^ k : Nat) : Int) := by
  have h2 : (2 : Nat) ^ k < 2 ^ 64 := Nat.pow_lt_pow_right (by omega) (by omega)
  rw [FT.ipow, u64_or_nat _ _ (by omega) (by omega)]
  have := Nat.two_pow_add_eq_or_of_lt hn 1
  rw [Nat.mul_one] at this
  rw [← this, Nat.add_comm]

set_option maxRecDepth 10000 in
theorem small_zero (b : Nat) (E F : Nat) (w : World) (hE : 2 ≤ E) (hE2 : E ≤ 8) (hF : 1 ≤ F) (hF2 : F ≤ 23) (h0 : b < 2 ^ 64) (hz : FT.rung b = 0) :
    Calls Try.prog 9 #[.float .f64 b, .agg #[.int .i64 E, .int .i64 F]] w fun e w' => e = .returned (.int .u64 ((if FT.neg b then 2 ^ (E + F) else 0 : Nat) : Int)) ∧ G w w' := by
  have K1 : Hid _ := fun w => signbit_c b w h0
  have e1 := FT.eq_zero 0
  rw [decide_eq_true (by rfl)] at e1
  have hneg := negFloat_eq b h0
  have hiw : Hid _ := inf_w E F hE2 hF2
  have hsw : Hid _ := sign_w E F hE2 hF2
  rcases FT.neg_cases b h0 with ⟨hs, hb⟩ | ⟨hs, hb⟩
  · rw [hs, if_pos rfl]
    rw [hs] at K1
    have hng : negV b = 0 := by unfold negV; rw [if_pos hs]; omega
    rw [hng] at hneg
    clear hs hb hng
    go_enter Try.func9, Try.ntmps9
    go_wp2_with fail
    refine (K1.out _).mono ?_
    rintro e w1 ⟨rfl, hb1⟩
    have hc9 := hb1.cell (p := ⟨w.heap.size, 0, none⟩) (v := .int .i64 E) (by first | (simp; done) | (simp; omega) | omega) (by first | assumption | (simp [go_sem]; done) | (simp [*, go_sem]; done))
    have hc10 := hb1.cell (p := ⟨w.heap.size, 1, none⟩) (v := .int .i64 F) (by first | (simp; done) | (simp; omega) | omega) (by first | assumption | (simp [go_sem]; done) | (simp [*, go_sem]; done))
    have zhb1 := hb1.size
    try simp at zhb1
    go_wp2_with fail
    refine region_gw (by kernel_rfl) (by kernel_rfl) ?_
    intro W hW
    have hq1 := gw_cell (w := W) (a := ⟨w.heap.size, 0, none⟩) (x := .int .i64 E) (by rw [hW]; first | (simp; done) | (simp; omega) | omega) (by rw [hW]; first | assumption | (simp [go_sem]; done) | (simp [*, go_sem]; done))
    have hq2 := gw_cell (w := W) (a := ⟨w.heap.size, 1, none⟩) (x := .int .i64 F) (by rw [hW]; first | (simp; done) | (simp; omega) | omega) (by rw [hW]; first | assumption | (simp [go_sem]; done) | (simp [*, go_sem]; done))
    clear hW
    repeat (go_big_quiet_step (fail))
    refine wpQuiet_nil ?_
    clear hq1 hq2
    intro w2 hw2
    have hb2 := hw2
    have hd1 := hb2.cell (p := ⟨w.heap.size, 0, none⟩) (v := .int .i64 E) (by simp; omega) (by assumption)
    have hd2 := hb2.cell (p := ⟨w.heap.size, 1, none⟩) (v := .int .i64 F) (by simp; omega) (by assumption)
    have hG2 : G w w2 := (by repeat' (first | exact G.refl _ | assumption | refine G.alloc ?_ _ | refine G.drew ?_ | refine G.drewN ?_ _ | (refine G.trans ?_ (by assumption))))
    have hps : w.heap.size < w2.heap.size := by have := hw2.size; omega
    obtain ⟨pf, hpf⟩ : ∃ pf, pf = w.heap.size := ⟨_, rfl⟩
    rw [← hpf] at hd1 hd2 hps ⊢
    try rw [hsw.out]
    rw [hiw.out]
    clear hb1 hw2 hb2 zhb1 hpf hsw hiw K1
    go_wp2_with fail
    go_ret
    exact ⟨ret_int (by simp), hG2⟩
  · rw [hs, if_neg (by simp)]
    rw [hz] at hb
    rw [hs] at K1
    subst hb
    clear hs
    go_enter Try.func9, Try.ntmps9
    go_wp2_with fail
    refine (K1.out _).mono ?_
    rintro e w1 ⟨rfl, hb1⟩
    have hc11 := hb1.cell (p := ⟨w.heap.size, 0, none⟩) (v := .int .i64 E) (by first | (simp; done) | (simp; omega) | omega) (by first | assumption | (simp [go_sem]; done) | (simp [*, go_sem]; done))
    have hc12 := hb1.cell (p := ⟨w.heap.size, 1, none⟩) (v := .int .i64 F) (by first | (simp; done) | (simp; omega) | omega) (by first | assumption | (simp [go_sem]; done) | (simp [*, go_sem]; done))
    have zhb1 := hb1.size
    try simp at zhb1
    go_wp2_with fail
    refine region_gw (by kernel_rfl) (by kernel_rfl) ?_
    intro W hW
    have hq3 := gw_cell (w := W) (a := ⟨w.heap.size, 0, none⟩) (x := .int .i64 E) (by rw [hW]; first | (simp; done) | (simp; omega) | omega) (by rw [hW]; first | assumption | (simp [go_sem]; done) | (simp [*, go_sem]; done))
    have hq4 := gw_cell (w := W) (a := ⟨w.heap.size, 1, none⟩) (x := .int .i64 F) (by rw [hW]; first | (simp; done) | (simp; omega) | omega) (by rw [hW]; first | assumption | (simp [go_sem]; done) | (simp [*, go_sem]; done))
    clear hW
    repeat (go_big_quiet_step (fail))
    refine wpQuiet_nil ?_
    clear hq3 hq4
    intro w2 hw2
    have hb2 := hw2
    have hd1 := hb2.cell (p := ⟨w.heap.size, 0, none⟩) (v := .int .i64 E) (by simp; omega) (by assumption)
    have hd2 := hb2.cell (p := ⟨w.heap.size, 1, none⟩) (v := .int .i64 F) (by simp; omega) (by assumption)
    have hG2 : G w w2 := (by repeat' (first | exact G.refl _ | assumption | refine G.alloc ?_ _ | refine G.drew ?_ | refine G.drewN ?_ _ | (refine G.trans ?_ (by assumption))))
    have hps : w.heap.size < w2.heap.size := by have := hw2.size; omega
    obtain ⟨pf, hpf⟩ : ∃ pf, pf = w.heap.size := ⟨_, rfl⟩
    rw [← hpf] at hd1 hd2 hps ⊢
    try rw [hsw.out]
    rw [hiw.out]
    clear hb1 hw2 hb2 zhb1 hpf hsw hiw K1
    go_wp2_with fail
    go_ret
    exact ⟨rfl, hG2⟩

set_option maxRecDepth 10000 in
theorem small_inf (b : Nat) (E F : Nat) (w : World) (hE : 2 ≤ E) (hE2 : E ≤ 8) (hF : 1 ≤ F) (hF2 : F ≤ 23) (h0 : b < 2 ^ 64) (hz : FT.rung b = FT.infR) :
    Calls Try.prog 9 #[.float .f64 b, .agg #[.int .i64 E, .int .i64 F]] w fun e w' => e = .returned (.int .u64 (((2 ^ E - 1) * 2 ^ F + (if FT.neg b then 2 ^ (E + F) else 0) : Nat) : Int)) ∧ G w w' := by
  have K1 : Hid _ := fun w => signbit_c b w h0
  have e1 := FT.eq_zero FT.infR
  rw [decide_eq_false (by decide)] at e1
  have K2 : Hid _ := fun w => isinf_c FT.infR w (by decide)
  rw [decide_eq_true (by decide)] at K2
  have hneg := negFloat_eq b h0
  have hiw : Hid _ := inf_w E F hE2 hF2
  have hsw : Hid _ := sign_w E F hE2 hF2
  have hlt : (2 ^ E - 1) * 2 ^ F < 2 ^ (E + F) := by
    rw [Nat.pow_add]
    exact Nat.mul_lt_mul_of_pos_right (by have := Nat.two_pow_pos E; omega) (Nat.two_pow_pos _)
  have h31 : (2 : Nat) ^ (E + F) ≤ 2 ^ 31 := pow_le (by omega)
  have hor1 := or_none ((2 ^ E - 1) * 2 ^ F) (by omega)
  have hor2 := or_sgn hlt (by omega)
  rcases FT.neg_cases b h0 with ⟨hs, hb⟩ | ⟨hs, hb⟩
  · rw [hs, if_pos rfl]
    rw [hs] at K1
    have hng : negV b = FT.infR := by unfold negV; rw [if_pos hs]; omega
    rw [hng] at hneg
    generalize FT.infR = r at *
    generalize (2 ^ E - 1) * 2 ^ F = I at *
    clear hs hb hng hz hlt h31
    go_enter Try.func9, Try.ntmps9
    go_wp2_with fail
    refine (K1.out _).mono ?_
    rintro e w1 ⟨rfl, hb1⟩
    have hc13 := hb1.cell (p := ⟨w.heap.size, 0, none⟩) (v := .int .i64 E) (by first | (simp; done) | (simp; omega) | omega) (by first | assumption | (simp [go_sem]; done) | (simp [*, go_sem]; done))
    have hc14 := hb1.cell (p := ⟨w.heap.size, 1, none⟩) (v := .int .i64 F) (by first | (simp; done) | (simp; omega) | omega) (by first | assumption | (simp [go_sem]; done) | (simp [*, go_sem]; done))
    have zhb1 := hb1.size
    try simp at zhb1
    go_wp2_with fail
    refine region_gw (by kernel_rfl) (by kernel_rfl) ?_
    intro W hW
    have hq5 := gw_cell (w := W) (a := ⟨w.heap.size, 0, none⟩) (x := .int .i64 E) (by rw [hW]; first | (simp; done) | (simp; omega) | omega) (by rw [hW]; first | assumption | (simp [go_sem]; done) | (simp [*, go_sem]; done))
    have hq6 := gw_cell (w := W) (a := ⟨w.heap.size, 1, none⟩) (x := .int .i64 F) (by rw [hW]; first | (simp; done) | (simp; omega) | omega) (by rw [hW]; first | assumption | (simp [go_sem]; done) | (simp [*, go_sem]; done))
    clear hW
    repeat (go_big_quiet_step (fail))
    refine wpQuiet_nil ?_
    clear hq5 hq6
    intro w2 hw2
    have hb2 := hw2
    have hd1 := hb2.cell (p := ⟨w.heap.size, 0, none⟩) (v := .int .i64 E) (by simp; omega) (by assumption)
    have hd2 := hb2.cell (p := ⟨w.heap.size, 1, none⟩) (v := .int .i64 F) (by simp; omega) (by assumption)
    have hG2 : G w w2 := (by repeat' (first | exact G.refl _ | assumption | refine G.alloc ?_ _ | refine G.drew ?_ | refine G.drewN ?_ _ | (refine G.trans ?_ (by assumption))))
    have hps : w.heap.size < w2.heap.size := by have := hw2.size; omega
    obtain ⟨pf, hpf⟩ : ∃ pf, pf = w.heap.size := ⟨_, rfl⟩
    rw [← hpf] at hd1 hd2 hps ⊢
    try rw [hsw.out]
    rw [hiw.out]
    clear hb1 hw2 hb2 zhb1 hpf hsw hiw K1
    go_wp2_with fail
    refine Calls.mono (P := Try.prog) (K2.out _) ?_
    rintro e w3 ⟨rfl, hg3⟩
    have hG3 := G.trans hG2 hg3
    go_wp2_with fail
    go_ret
    exact ⟨ret_int (by simp), hG3⟩
  · rw [hs, if_neg (by simp)]
    rw [hz] at hb
    rw [hs] at K1
    rw [hb] at K1 ⊢
    generalize FT.infR = r at *
    generalize (2 ^ E - 1) * 2 ^ F = I at *
    clear hs hb hneg hz hlt h31 h0
    go_enter Try.func9, Try.ntmps9
    go_wp2_with fail
    refine (K1.out _).mono ?_
    rintro e w1 ⟨rfl, hb1⟩
    have hc15 := hb1.cell (p := ⟨w.heap.size, 0, none⟩) (v := .int .i64 E) (by first | (simp; done) | (simp; omega) | omega) (by first | assumption | (simp [go_sem]; done) | (simp [*, go_sem]; done))
    have hc16 := hb1.cell (p := ⟨w.heap.size, 1, none⟩) (v := .int .i64 F) (by first | (simp; done) | (simp; omega) | omega) (by first | assumption | (simp [go_sem]; done) | (simp [*, go_sem]; done))
    have zhb1 := hb1.size
    try simp at zhb1
    go_wp2_with fail
    refine region_gw (by kernel_rfl) (by kernel_rfl) ?_
    intro W hW
    have hq7 := gw_cell (w := W) (a := ⟨w.heap.size, 0, none⟩) (x := .int .i64 E) (by rw [hW]; first | (simp; done) | (simp; omega) | omega) (by rw [hW]; first | assumption | (simp [go_sem]; done) | (simp [*, go_sem]; done))
    have hq8 := gw_cell (w := W) (a := ⟨w.heap.size, 1, none⟩) (x := .int .i64 F) (by rw [hW]; first | (simp; done) | (simp; omega) | omega) (by rw [hW]; first | assumption | (simp [go_sem]; done) | (simp [*, go_sem]; done))
    clear hW
    repeat (go_big_quiet_step (fail))
    refine wpQuiet_nil ?_
    clear hq7 hq8
    intro w2 hw2
    have hb2 := hw2
    have hd1 := hb2.cell (p := ⟨w.heap.size, 0, none⟩) (v := .int .i64 E) (by simp; omega) (by assumption)
    have hd2 := hb2.cell (p := ⟨w.heap.size, 1, none⟩) (v := .int .i64 F) (by simp; omega) (by assumption)
    have hG2 : G w w2 := (by repeat' (first | exact G.refl _ | assumption | refine G.alloc ?_ _ | refine G.drew ?_ | refine G.drewN ?_ _ | (refine G.trans ?_ (by assumption))))
    have hps : w.heap.size < w2.heap.size := by have := hw2.size; omega
    obtain ⟨pf, hpf⟩ : ∃ pf, pf = w.heap.size := ⟨_, rfl⟩
    rw [← hpf] at hd1 hd2 hps ⊢
    try rw [hsw.out]
    rw [hiw.out]
    clear hb1 hw2 hb2 zhb1 hpf hsw hiw K1
    go_wp2_with fail
    refine Calls.mono (P := Try.prog) (K2.out _) ?_
    rintro e w3 ⟨rfl, hg3⟩
    have hG3 := G.trans hG2 hg3
    go_wp2_with fail
    go_ret
    exact ⟨ret_int (by simp), hG3⟩

end Go.Proofs.Ytkimdkgijfknlaa
